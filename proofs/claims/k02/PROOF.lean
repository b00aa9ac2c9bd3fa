import PyProof.Rows.All
import Wide.All
import OpenK.AllK
import Wide.FinOn
import HandS.ForMost
import HandS.ForExc
import HandS.IsInst
import HandS.Style
import HandS.Flow
import HandS.More
import HandS.Strs
import HandS.FStr
import HandS.ExcInit
import HandS.ExcField
import HandS.ExcIs
import HandS.ExcSuper
import HandS.Small
import KE.KExcIs
import KE.KIsAll
import KE.KSuper
import KE.KSuperObj
import KE.KExcSuper
import PySem.Challenge.RW_archway_k02_texts_are_checked
set_option Elab.async false
set_option linter.all false
set_option maxRecDepth 100000
set_option maxHeartbeats 4000000
namespace SX
open PySem PySem.W PySem.Calls PyProof.Rows PySem.HandSPX
/-- the parameters of such an __init__ -/
def iA (f : Str) (p1 p2 : Pos) : Arguments := { posonlyargs := [], args := [{ arg := "self", annotation := none, pos := p1 }, { arg := f, annotation := none, pos := p2 }], vararg := none, kwonlyargs := [], kw_defaults := [], kwarg := none, defaults := [] }
/-- its body: super().__init__(msg); self.f = f -/
def iB (f : Str) (msg : Expr) (a1 a2 a3 a4 a5 q1 q2 q3 q4 : Pos) : List Stmt :=
  [.Expr (.Call (.Attribute (.Call (.Name "super" a1) [] [] a2) "__init__" a3) [msg] [] a4) a5, .Assign [.Attribute (.Name "self" q1) f q2] (.Name f q3) q4]
def iS (f : Str) : Scope := { kind := .function, names := [(PySem.Str.ofString "self", .local), (f, .local), (PySem.Str.ofString "__class__", .free), (PySem.Str.ofString "super", .globalImplicit)], isGenerator := false, isCoroutine := false, more := [] }
abbrev veT : List Value := [.type "ValueError", .type "Exception", .type "BaseException", .type "object"]
/-- a message that a small number makes -/
def Msg (f : Str) (msg : Expr) : Prop := ∀ {prog : Program} {w : World} {A : Around} {E : Value → Shared → Prop} {s : Shared} {env : Env} {m : Str → Option Value} {i : Int} {t : Tok} {Q : Value → Shared → Prop},
  s.heap.Ns env.locals m → m f = some (.int i t) → env.scope.kind = .function → env.kindOf f = some .local → (0 ≤ i ∧ i < 256) →
  (∀ (v : Value) (tk : Nat), Q v { s with toks := tk }) → wpAny (model prog w) A (eval msg env) Q E s
theorem num_len : ∀ n : Nat, n < 256 → ((toString (n : Int) : String) : Str).length ≤ 10 := by decide +kernel
theorem num_log {i : Int} (h : 0 ≤ i ∧ i < 256) : i.natAbs.log2 < 1920 := by
  have e : i.natAbs < 256 := by omega
  have : i.natAbs.log2 ≤ i.natAbs := Nat.log2_le_self _
  omega
theorem num_len2 {i : Int} (h : 0 ≤ i ∧ i < 256) : (Str.ofString (toString i)).length ≤ 10 := by
  have e : i = ((i.toNat : Nat) : Int) := by omega
  rw [e]
  exact num_len _ (by omega)

theorem sz {n : Nat} (h : n ≤ 16777216) : n ≤ sizeLine := by rw [sizeLine_eq]; exact h
theorem str_len (a b : Str) : (a ++ b).length = a.length + b.length := by
  show (a.cps ++ b.cps).size = _
  rw [Array.size_append]
  rfl
theorem msg2 {f a : Str} {p1 p2 p3 p4 : Pos} {j : Nat} (hd : (f == ("__debug__" : Str)) = false) (ha : (Str.empty ++ a).length ≤ 1000) : Msg f (.JoinedStr [.Constant (.str a) j p1, .FormattedValue (.Name f p2) (-1) none p3] p4) := by
  intro prog w A E s env m i t Q hn hm hk hl hi q
  refine wpAny_JoinedStr ?_
  show wpAny _ _ (eval _ _) _ _ _
  refine wpAny_Constant_str ⟨_, _, rfl, sz (Nat.le_trans ha (by decide)), ?_⟩
  show wpAny _ _ (eval _ _) _ _ _
  refine FormattedValue_plain (ESX.ldL hn hm ?_ hk hl hd)
  refine formatField_int_small (num_log hi) ⟨_, _, rfl, ?_, ?_⟩
  · rw [str_len]
    exact sz (Nat.le_trans (Nat.add_le_add ha (num_len2 hi)) (by decide))
  · refine ⟨?_, q _ _⟩
    rw [str_len]
    exact sz (Nat.le_trans (Nat.add_le_add ha (num_len2 hi)) (by decide))
theorem msg3 {f a b : Str} {p1 p2 p3 p4 p5 : Pos} {j j2 : Nat} (hd : (f == ("__debug__" : Str)) = false) (ha : (Str.empty ++ a).length ≤ 1000) (hb : b.length ≤ 1000) : Msg f (.JoinedStr [.Constant (.str a) j p1, .FormattedValue (.Name f p2) (-1) none p3, .Constant (.str b) j2 p5] p4) := by
  intro prog w A E s env m i t Q hn hm hk hl hi q
  refine wpAny_JoinedStr ?_
  show wpAny _ _ (eval _ _) _ _ _
  refine wpAny_Constant_str ⟨_, _, rfl, sz (Nat.le_trans ha (by decide)), ?_⟩
  show wpAny _ _ (eval _ _) _ _ _
  have e2 : (Str.empty ++ a ++ Str.ofString (toString i)).length ≤ 1010 := by
    rw [str_len]
    exact Nat.add_le_add ha (num_len2 hi)
  have e3 : (Str.empty ++ a ++ Str.ofString (toString i) ++ b).length ≤ 2010 := by
    rw [str_len]
    exact Nat.add_le_add e2 hb
  refine FormattedValue_plain (ESX.ldL hn hm ?_ hk hl hd)
  refine formatField_int_small (num_log hi) ⟨_, _, rfl, sz (Nat.le_trans e2 (by decide)), ?_⟩
  show wpAny _ _ (eval _ _) _ _ _
  exact wpAny_Constant_str ⟨_, _, rfl, sz (Nat.le_trans e3 (by decide)), sz (Nat.le_trans e3 (by decide)), q _ _⟩
/-- how such a call is read -/
structure Txt (f : Str) (msg : Expr) : Prop where
  ok : Msg f msg
  star : ∀ env : Env, starEach [msg] env = (false, eval msg env) :: starEach [] env
  call : ∀ (env : Env) (a1 a2 a3 a4 : Pos), (a3.endLine == a4.line) = true → ∃ pl : Sem Bool, eval (.Call (.Attribute (.Call (.Name "super" a1) [] [] a2) "__init__" a3) [msg] [] a4) env = (do
    let ov ← attributeBase (.Call (.Name "super" a1) [] [] a2) "__init__" env (eval (.Call (.Name "super" a1) [] [] a2) env)
    standAt a3.atName
    let (g, first) ← holding [ov] (getMethod ov "__init__" pl)
    callWith a4 g first (backTo a4 (starEach [msg] env)) [])
  swap : ∀ (env : Env) (a1 a2 a3 a4 a5 : Pos), swapsWith (.Call (.Attribute (.Call (.Name "super" a1) [] [] a2) "__init__" a3) [msg] [] a4) none a5.line env = pure false
theorem txt2 {f a : Str} {p1 p2 p3 p4 : Pos} {j : Nat} (hd : (f == ("__debug__" : Str)) = false) (ha : (Str.empty ++ a).length ≤ 1000) : Txt f (.JoinedStr [.Constant (.str a) j p1, .FormattedValue (.Name f p2) (-1) none p3] p4) :=
  ⟨msg2 hd ha, fun _ => rfl, fun _ _ _ _ _ h => ⟨_, by rw [arm_eval_Call]; unfold methodCall methodCallPos; rw [h]; rfl⟩, fun _ _ _ _ _ _ => rfl⟩
theorem txt3 {f a b : Str} {p1 p2 p3 p4 p5 : Pos} {j j2 : Nat} (hd : (f == ("__debug__" : Str)) = false) (ha : (Str.empty ++ a).length ≤ 1000) (hb : b.length ≤ 1000) : Txt f (.JoinedStr [.Constant (.str a) j p1, .FormattedValue (.Name f p2) (-1) none p3, .Constant (.str b) j2 p5] p4) :=
  ⟨msg3 hd ha hb, fun _ => rfl, fun _ _ _ _ _ h => ⟨_, by rw [arm_eval_Call]; unfold methodCall methodCallPos; rw [h]; rfl⟩, fun _ _ _ _ _ _ => rfl⟩
/-- what the written part says of such a class x at C, and of its __init__ at fI -/
structure SupTxt (P : Program) (K : Frag) (mg : Str → Option Value) (x q f : Str) (C fI : Addr) : Prop where
  gC : mg x = some (.ref C)
  cls : ∃ nm qn N bs bm sn sub ab col dd k0 k1 k2 k3 k5, K.lookup C = some (excClassObj nm qn C N bs bm true sn sub ab col dd k0 k1 k2 k3 k5 "ValueError.__new__") ∧ refsVE bm = true
  xi : excInitIn K C veT "ValueError.__new__" = true
  sa : findIn K (.ref C) "__setattr__" = some (some (.builtin "object.__setattr__"))
  noN : findIn K (.ref C) f = some none
  iC : findIn K (.ref C) "__init__" = some (some (.ref fI))
  tC : typeIn K (.ref fI) = some (.type "function")
  kC : keepIn K (.ref C) = true
  exC : subIn K (.ref C) (.type "BaseException") = some true
  veC : subIn K (.ref C) (.type "ValueError") = some true
  tyC : typeIn K (.ref C) = some (.type "type")
  tp : nsIn K cStatics "thirdparty.any" = some none
  sup : ks_superIn K C C "__init__" = some (some (.builtin "ValueError.__init__"))
  meC : mroIn K C (.ref C) = some true
  nsu : mg "super" = none
  top : (P.main.scope.names.lookup ("super" : Str)).isSome = false
  fn : ∃ (oc ccl cl : Value) (od cdd cld : Option Addr) (cda cc : Addr) (doc pm : Value) (an : Option Addr) (ct : Value) (osl ccs csl : Array (Option Value)) (vs : Array Value) (file : Str) (tf : Tok) (msg : Expr) (p1 p2 a1 a2 a3 a4 a5 q1 q2 q3 q4 : Pos),
    K.lookup fI = some ⟨oc, od, .func (ksFn "__init__" q (iA f p1 p2) (iB f msg a1 a2 a3 a4 a5 q1 q2 q3 q4) (iS f) .none .none doc pm an (.ref cda) ct cc), osl⟩ ∧ codeIn K (.ref cda) q = true ∧ K.lookup cda = some ⟨ccl, cdd, .fields vs, ccs⟩ ∧ vs[2]? = some (.str file tf) ∧ (P.main.file == file) = true ∧
    K.lookup cc = some ⟨cl, cld, .cell (some (.ref C)), csl⟩ ∧ Txt f msg ∧ (a3.endLine == a4.line) = true
theorem one_size (v : Value) : [v].length ≤ sizeLine := sz (by show 1 ≤ 16777216; decide)
theorem kept_but {K : Frag} {h h' : Heap} {x : Addr} (X : K.In h) (hx : K.lookup x = none) (k : ∀ b o, b ≠ x → h.get? b = some o → h'.get? b = some o) : K.In h' := fun a o e =>
  k a o (fun z => by rw [z, hx] at e; cases e) (X a o e)
/-- what __init__ leaves of a fresh exception at x; hp: the heap ahead of it -/
structure InitEnd (hp h' : Heap) (x C dx t1 : Addr) (f : Str) (v : Value) : Prop where
  keep : ∀ b o, hp.get? b = some o → h'.get? b = some o
  obj : h'.get? x = some { cls := .ref C, dict := some dx, data := .fields #[.ref t1, .none, .none, .none, .bool false, .none] }
  dbig : hp.objs.size ≤ dx
  dne : dx ≠ x
  ns : h'.Ns1 dx (fun y => if y = f then some v else none)
structure OwnMade (h h' : Heap) (e C d : Addr) (f : Str) (v : Value) : Prop where
  keep : ∀ b o, h.get? b = some o → h'.get? b = some o
  new : h.objs.size ≤ e
  obj : ∃ oe vs, h'.get? e = some oe ∧ oe.cls = .ref C ∧ oe.dict = some d ∧ oe.data = .fields vs ∧ vs[1]? = some .none
  dbig : h.objs.size ≤ d
  dne : d ≠ e
  ns : h'.Ns1 d (fun y => if y = f then some v else none)
/-- the program's top, as a heap holds it -/
structure TopOf (mg : Str → Option Value) (h : Heap) : Prop where
  glob : h.Ns mainGlobals mg
  blt : ∃ mb, h.Ns builtinsNs mb ∧ ∀ x, x ≠ ("__name__" : Str) → mb x = bootBuiltins x
  nolimit : h.NoLimit
theorem TopOf.keeps {mg : Str → Option Value} {h h' : Heap} (T : TopOf mg h) (k : ∀ b o, h.get? b = some o → h'.get? b = some o) : TopOf mg h' :=
  ⟨T.glob.keeps k, T.blt.imp fun mb q => ⟨q.1.keeps k, q.2⟩, T.nolimit.keeps k⟩
section
variable {prog : Program} {w : World} {A : Around} {E : Value → Shared → Prop} {R : Result → Shared → Prop} {s : Shared} {K : Frag} {mg : Str → Option Value} {C fI : Addr} {x q f : Str}
theorem sup_init (T : SupTxt prog K mg x q f C fI) (hf : f = "number" ∨ f = "place") {hp : Heap} {e t0 : Addr} {i : Int} {ti : Tok} (hi : 0 ≤ i ∧ i < 256) (X : K.In hp) (TH : TopOf mg hp)
    (k : ∀ b o, hp.get? b = some o → s.heap.get? b = some o) (hle : hp.objs.size ≤ s.heap.objs.size) (hx : s.heap.get? e = some (excO C t0)) (hnew : hp.get? e = none) (hroom : A.depth < recursionLimit)
    (hq : ∀ h' tk dx t1, InitEnd hp h' e C dx t1 f (.int i ti) → R (.ok (.ret .none)) { s with heap := h', toks := tk }) :
    codeAny (model prog w) A (.call (.ref fI) ⟨[.ref e, .int i ti], []⟩) R s := by
  obtain ⟨oc, ccl, cl, od, cdd, cld, cda, cc, doc, pm, an, ct, osl, ccs, csl, vs, file, tf, msg, p1, p2, a1, a2, a3, a4, a5, q1, q2, q3, q4, ho, hcd, hcda, hvs, hfile, hcc, hmsg, hpos⟩ := T.fn
  obtain ⟨nm, qn, N, bs, bm, sn, sub, ab, col, dd, k0, k1, k2, k3, k5, hC, hbm⟩ := T.cls
  have hcl : clsIn K C = some { name := nm, bases := bs, mro := .ref C :: bm, ns := N, qualname := qn, hasDict := true, slotNames := sn, subclasses := sub, abstract := ab, collection := col, hasDel := false } := by unfold clsIn; rw [hC] <;> rfl
  have X0 : K.In s.heap := X.keeps k
  refine ks_codeAny_call_defAt (binds := [("self", .ref e), (f, .int i ti)]) hroom (X0 _ _ ho) rfl (TH.keeps k).nolimit (codeRec_of X0 hcd) rfl (BindsTo.of_eq (by rcases hf with rfl | rfl <;> first | rfl | with_unfolding_all rfl)) (by intro z hz; rcases hf with rfl | rfl <;> (have hz : z ∈ (iS _).names := hz; simp only [iS, List.mem_cons, List.not_mem_nil, or_false] at hz; rcases hz with rfl | rfl | rfl | rfl <;> (intro c; cases c))) (by intro z hz; rcases hf with rfl | rfl <;> (simp only [List.mem_cons, List.not_mem_nil, or_false] at hz; rcases hz with rfl | rfl <;> rfl)) (fun h₀ hns hk => ?_)
  have hk' : ∀ b o, hp.get? b = some o → h₀.get? b = some o := fun b o z => hk b o (k b o z)
  have m0 : ([(("self" : Str), Value.ref e), (f, Value.int i ti)].reverse).lookup ("self" : Str) = some (Value.ref e) := by rcases hf with rfl | rfl <;> rfl
  have m1 : ([(("self" : Str), Value.ref e), (f, Value.int i ti)].reverse).lookup f = some (Value.int i ti) := by rcases hf with rfl | rfl <;> rfl
  generalize hm : (fun x => ([(("self" : Str), Value.ref e), (f, Value.int i ti)].reverse).lookup x) = m at hns
  have m0' : m "self" = some (.ref e) := by rw [← hm]; exact m0
  have m1' : m f = some (.int i ti) := by rw [← hm]; exact m1
  have hL : s.heap.objs.size ≠ e := Nat.ne_of_gt (Heap.lt_size hx)
  have FR : Fr hp s.heap.objs.size h₀ m := ⟨hns, hk', hle⟩
  have NW : News hp s.heap.objs.size h₀ [(e, excObj C t0 none .none)] := fun p hpm => by
    obtain rfl := List.mem_singleton.mp hpm
    exact ⟨hk _ _ hx, Ne.symm hL, hnew⟩
  -- super()
  refine ks_wpAt_execs_cons ?_
  refine ks_wpAt_Expr_any ?_ (by rfl) (hmsg.swap _ a1 a2 a3 a4 a5)
  obtain ⟨pl, hpl⟩ := hmsg.call (callEnv (ksFn "__init__" q (iA f p1 p2) (iB f msg a1 a2 a3 a4 a5 q1 q2 q3 q4) (iS f) Value.none Value.none doc pm an (Value.ref cda) ct cc) s.heap.objs.size fI) a1 a2 a3 a4 hpos
  refine ks_wpAt_MethodCall (pl := pl) ?_ hpl
  have X1 : K.In h₀ := X.keeps hk'
  have T1 : TopOf mg h₀ := TH.keeps hk'
  obtain ⟨mb, hmb, hbb⟩ := T1.blt
  refine ks_wpAt_super_base (f := fI) (cc := cda) (by rcases hf with rfl | rfl <;> rfl) (by rcases hf with rfl | rfl <;> rfl) (by decide) rfl (X1 _ _ ho) rfl rfl rfl (X1 _ _ hcda) rfl hvs hfile T.top ?_
  refine ks_loadName_global rfl (by rcases hf with rfl | rfl <;> rfl) (loadGlobal_builtin T1.glob T.nsu hmb ((hbb _ (by decide)).trans (show _ = some (Value.type "super") from by decide +kernel)) ⟨rfl, ?_⟩)
  refine wpAny_loadName_free rfl (by rcases hf with rfl | rfl <;> rfl) (c := cc) (by rcases hf with rfl | rfl <;> rfl) ⟨_, X1 _ _ hcc, rfl⟩ ?_
  refine wpAny_loadName_local rfl (by rcases hf with rfl | rfl <;> rfl) hns m0' ?_
  refine ks_wpAny_isType_cls (X1 _ _ hC) rfl ⟨rfl, ?_⟩
  refine ks_wpAny_call_super (X1 _ _ hC) rfl (hk _ _ hx) rfl (fun c z => by cases z) (looks_mroIn X1 T.meC) (fun h₂ hso hk2 => ?_)
  have hLlt : s.heap.objs.size < h₀.objs.size := hns.lt
  have hpn : ∀ a : Addr, hp.objs.size ≤ a → hp.get? a = none := fun a ha => by
    cases z : hp.get? a with
    | none => rfl
    | some o => exact absurd (Heap.lt_size z) (Nat.not_lt_of_le ha)
  have FR2 : Fr hp s.heap.objs.size h₂ m := ⟨hns.keeps hk2, fun b o z => hk2 b o (hk' b o z), hle⟩
  have NW2 : News hp s.heap.objs.size h₂ [(h₀.objs.size, ks_superObj C e C), (e, excObj C t0 none .none)] := fun p hpm => by
    rcases List.mem_cons.mp hpm with rfl | hpm
    · exact ⟨hso, Nat.ne_of_gt hLlt, hpn _ (Nat.le_of_lt (Nat.lt_of_le_of_lt hle hLlt))⟩
    · obtain rfl := List.mem_singleton.mp hpm
      exact ⟨hk2 _ _ (hk _ _ hx), Ne.symm hL, hnew⟩
  have hesz : e < s.heap.objs.size := Heap.lt_size hx
  refine kxs_method kxs_ValueError FR2 X NW2 List.mem_cons_self (ox := excObj C t0 none .none) (odx := none) ⟨hk2 _ _ (hk _ _ hx), rfl, rfl, trivial⟩ T.tp T.sup T.veC (by decide) (fun u h₃ F3 N3 lt3 => ?_)
  have lu : h₀.objs.size < u := lt3 _ List.mem_cons_self
  have ne1 : u ≠ e := Nat.ne_of_gt (Nat.lt_trans hesz (Nat.lt_trans hLlt lu))
  have ne2 : h₀.objs.size ≠ e := Nat.ne_of_gt (Nat.lt_trans hesz hLlt)
  refine kxs_callWith1 N3 List.mem_cons_self ?_ (hmsg.star _) rfl
  refine spliced_more (hmsg.ok F3.ns m1' rfl (by rcases hf with rfl | rfl <;> rfl) hi fun v tk => ?_) (hmsg.star _)
  refine spliced_none ⟨kxs_at N3 List.mem_cons_self, ?_⟩
  refine kxs_call F3 X N3 F.excBase_ValueError T.xi List.mem_cons_self (dv := none) (.tail ne1 (.tail ne2 (.head (by intro p hp; cases hp)))) (one_size v) (fun t' h₄ F4 N4 lt4 => ?_)
  -- self.f = f
  show PySem.wpAt _ _ _ (execs _ _) _ _ _
  refine ks_wpAt_execs_cons (PySem.wpAt_of_wpAny (plainObj_wpAny_Assign_Attribute ?_ (by rfl)))
  have X4 : K.In h₄ := X.keeps F4.keep
  have hx4 : h₄.get? e = some (excO C t') := (N4 _ (List.mem_cons_of_mem _ (List.mem_cons_of_mem _ (List.mem_cons_of_mem _ List.mem_cons_self)))).1
  refine ESX.ldL F4.ns m1' (ESX.ldL F4.ns m0' ?_ (by rfl) (by rcases hf with rfl | rfl <;> rfl) (by decide)) (by rfl) (by rcases hf with rfl | rfl <;> rfl) (by rcases hf with rfl | rfl <;> decide)
  refine set_plain X4 (ox := excO C t') (od := none) ⟨hx4, rfl, rfl, trivial⟩ T.sa ?_
  refine exc_osa X4 hx4 hcl (show refsVE (.ref C :: bm) = true from hbm) rfl T.noN (fun h₅ tk₅ dx k₅ dn dne hx₅ hn₅ => ?_)
  have hle4 : hp.objs.size ≤ h₄.objs.size := Nat.le_trans hle (Nat.le_of_lt F4.ns.lt)
  have hne : ∀ b o, hp.get? b = some o → b ≠ e := fun b o z y => by rw [y, hnew] at z; cases z
  show PySem.wpAt _ _ _ (execs [] _) _ _ _
  refine PySem.wpAt_of_wpAny (wpAny_execs_nil (hq h₅ _ dx t' ⟨fun b o z => k₅ b o (hne b o z) (F4.keep b o z), hx₅, Nat.le_trans hle4 dn, dne, hn₅⟩))
theorem sup_made (T : SupTxt prog K mg x q f C fI) (hf : f = "number" ∨ f = "place") {i : Int} {ti : Tok} (hi : 0 ≤ i ∧ i < 256) (X : K.In s.heap) (TH : TopOf mg s.heap) (hroom : A.depth + 1 < recursionLimit)
    (hq : ∀ h' tk e d, OwnMade s.heap h' e C d f (.int i ti) → R (.ok (.ret (.ref e))) { s with heap := h', toks := tk }) :
    codeAny (model prog w) A (.call (.ref C) ⟨[.int i ti], []⟩) R s := by
  obtain ⟨nm, qn, N, bs, bm, sn, sub, ab, col, dd, k0, k1, k2, k3, k5, hC, hbm⟩ := T.cls
  obtain ⟨hp, g, dr, tk, os⟩ := s
  have k : ∀ b o, hp.get? b = some o → ((hp.push (kdv_tup [Value.int i ti])).push (excO C hp.objs.size)).get? b = some o := fun b o e => Heap.get?_push_of_some _ (Heap.get?_push_of_some _ e)
  have hget : ((hp.push (kdv_tup [Value.int i ti])).push (excO C hp.objs.size)).get? (hp.objs.size + 1) = some (excO C hp.objs.size) := by heap_get
  have hnew : hp.get? (hp.objs.size + 1) = none := by
    cases z : hp.get? (hp.objs.size + 1) with
    | none => rfl
    | some o => exact absurd (Nat.lt_of_succ_lt (Heap.lt_size z)) (Nat.lt_irrefl _)
  have hsz : hp.objs.size ≤ ((hp.push (kdv_tup [Value.int i ti])).push (excO C hp.objs.size)).objs.size := by
    rw [Heap.size_push, Heap.size_push]
    omega
  refine call_own F.excBase_ValueError (fun X => refsVE_contains X bm hbm) (X _ _ hC) (looks_findIn X T.iC) (fun self => bind_fn X self T.tC) (one_size _) ?_
  refine sup_init (s := ⟨(hp.push (kdv_tup [Value.int i ti])).push (excO C hp.objs.size), g, dr, tk, os⟩) T hf hi X TH k hsz hget hnew ?_ fun h' tk' dx t1 ⟨k', hx, dn, dne, hns⟩ => ?_
  · show A.depth + 1 < recursionLimit
    exact hroom
  · exact ⟨rfl, hq h' tk' (hp.objs.size + 1) dx ⟨k', Nat.le_succ _, ⟨_, _, hx, rfl, rfl, rfl, rfl⟩, dn, dne, hns⟩⟩
end
end SX
namespace L2
open PySem PySem.Spec PyProof.Rows
theorem relO_one {v : V} {v' : Value} (r : RelV v v') (f g : Str) : RelO (List.lookup g [(f, v)]) (if g = f then some v' else none) := by
  by_cases hw : g = f
  · subst hw
    rw [if_pos rfl]
    have q : List.lookup g [(g, v)] = some v := by simp [List.lookup]
    rw [q]
    exact r
  · rw [if_neg hw]
    have qw : (g == f) = false := by simpa using hw
    have q2 : List.lookup g [(f, v)] = none := by simp [List.lookup, qw]
    rw [q2]
    trivial
section
variable {X : Cx} {C fI : Addr} {x q f : Str}
/-- x(e), x such a class -/
def tMkS (C : Addr) (f : Str) (ta : TA) : St → Hp → XK → Prop := fun σ H Q => ta σ H fun vs H1 => ∃ i : Int, vs = [.int i] ∧ (0 ≤ i ∧ i < 256) ∧ ∀ d, H1 d = none → Q (.ref C) (some d) (upd H1 d (.xd [(f, .int i)]))
theorem pmk_sup {a : Expr} {ta : TA} {p pos : Pos} {k : Nat} (T : SX.SupTxt X.prog X.K X.mg x q f C fI) (hf : f = "number" ∨ f = "place") (hr : Room k X.A) (ha : PA X [a] ta) (hg : Gl X x := by rfl) (hd : (x == ("__debug__" : Str)) = false := by decide)
    (he : starEach (a :: []) X.env = (false, eval a X.env) :: starEach [] X.env := by rfl) (hpl : (backTo pos (starEach [] X.env)).any (·.1) = false := by rfl) :
    PMk X (.Call (.Name x p) [a] [] pos) (tMkS C f ta) := by
  intro pins s σ H Q I h
  refine wpAny_Call_Name_kw (ld_glob I hg T.gC ?_ hd)
  refine PySem.W.callWith_K (h₀ := X.base) I.ok.mod.kin T.kC (thn (ha.run pos pins s σ H _ I h) fun us s1 hh => ?_) he hpl
  obtain ⟨vs, H1, I1, r1, i, ev, hi, q1⟩ := hh
  subst ev
  refine ⟨I1.kIn, ?_⟩
  cases r1 with
  | cons rv rn =>
    rename_i v' us'
    cases rn
    obtain ⟨ti, rfl⟩ : ∃ ti, v' = Value.int i ti := rv
    show wpAny _ _ (call (.ref C) [_]) _ _ _
    have hlim := I1.nolimit
    have TH : SX.TopOf X.mg s1.heap := ⟨I1.mod.glob.keeps I1.bk, I1.mod.blt.imp fun mb q => ⟨q.1.keeps I1.bk, q.2⟩, hlim⟩
    obtain ⟨hp, g, dr, tk, os⟩ := s1
    refine wpAny_call (SX.sup_made T hf hi I1.kIn TH (by have := hr.dp; omega) fun h' tk' e d M => ?_)
    show MkP X pins σ Q (.ref e) ⟨h', g, dr, tk', os⟩
    obtain ⟨oe, fv, hoe, hc, hd, hdat, h1⟩ := M.obj
    have hns := M.ns
    obtain ⟨G', g1, g2⟩ := restrict h' fun b => decide (b ≠ e)
    have gk : ∀ b, b ≠ e → G'.get? b = h'.get? b := fun b hb => g1 b (decide_eq_true hb)
    have ge : G'.get? e = none := g2 e (by simp)
    have old : ∀ b o, hp.get? b = some o → G'.get? b = some o := fun b o q => (gk b (Nat.ne_of_lt (Nat.lt_of_lt_of_le (Heap.lt_size q) M.new))).trans (M.keep b o q)
    have ob : ObjOk X.prog X.w (upd H1 d (.xd [(f, .int i)])) G' d (.xd [(f, .int i)]) :=
      ⟨_, hns.at (fun o q => (gk d M.dne).trans q), fun g => relO_one (v := .int i) (v' := .int i ti) (show RelV (.int i) (.int i ti) from ⟨ti, rfl⟩) f g⟩
    have J : Inv X pins σ (upd H1 d (.xd [(f, .int i)])) ⟨G', g, dr, tk', os⟩ := I1.laid (t' := tk') old M.dbig ob
    refine ⟨e, oe, fv, ⟨G', g, dr, tk', os⟩, _, .ref C, some d, rfl, J, fun b o q => ?_, ge, hoe, ⟨hc, hd⟩, hdat, h1, ?_, rfl, I1.bare, raises_own T.exC T.tyC, q1 d (I1.hok.fresh M.dbig)⟩
    · by_cases hb : b = e
      · have q' : G'.get? b = some o := q
        rw [hb, ge] at q'; cases q'
      · exact (gk b hb).symm.trans q
    · rw [upd_ne (Ne.symm M.dne)]
      exact I1.hok.fresh M.new
end
end L2
namespace L2
open PySem PySem.Spec PyProof.Rows
/-- isinstance(e, c), e the exception that the suite holds: its class an own one, with or without fields -/
def rIsX (K : PySem.W.Frag) (a : Addr) (cls : Value) (d : Option Addr) : List V → Hp → VK → Prop := fun xs H Q =>
  ∃ (D : Addr) (c : V) (cv : Value) (b : Bool), xs = [.ref a, c] ∧ cls = .ref D ∧ ExcC K D ∧ (d = none ∨ ∃ (dd : Addr) (fs : List (Str × V)), d = some dd ∧ H dd = some (.xd fs)) ∧ (∀ u, RelV c u → u = cv) ∧ PySem.W.kitOne K (.ref D) cv = some b ∧ Q (.bl b) H
theorem call_isX {X : Cx} {a : Addr} {oe : Obj} {cls : Value} {d : Option Addr} {pn : List (Addr × Obj)} (hz : Zc cls d oe) (hf : ∃ vs, oe.data = .fields vs) : CallR (X.suite a ((a, oe) :: pn)) (.builtin "isinstance") (rIsX X.K a cls d) := by
  intro pins s σ H xs us Q I r h
  obtain ⟨D, c, cv, b, ex, ec, C, hd, hcv, e, q⟩ := h
  subst ex
  cases r with
  | cons rx rr =>
    cases rr with
    | cons rt rn =>
      cases rn
      have e1 : _ = Value.ref a := rx
      subst e1
      have e2 := hcv _ rt
      subst e2
      subst ec
      obtain ⟨ha, _⟩ := I.pin (a, oe) (List.mem_append_left _ List.mem_cons_self)
      obtain ⟨vs, hv⟩ := hf
      have J : ∃ od, PySem.W.InstAt s.heap a oe D od := by
        rcases hd with rfl | ⟨dd, fs, rfl, hdd⟩
        · exact ⟨none, ha, hz.1, by unfold PySem.W.notCls; rw [hv] <;> rfl, by rw [hz.2]; trivial⟩
        · obtain ⟨mA, hns, _⟩ : ObjOk X.prog X.w H s.heap dd (.xd fs) := I.hok dd _ hdd
          obtain ⟨od, ho, _⟩ := lookIn_ns hns
          exact ⟨some od, ha, hz.1, by unfold PySem.W.notCls; rw [hv] <;> rfl, by rw [hz.2]; exact ho⟩
      obtain ⟨od, J⟩ := J
      have hc : (PySem.W.clsIn X.K D).isSome = true := by
        cases z : PySem.W.clsIn X.K D with
        | some _ => rfl
        | none =>
          have hm := C.hm
          unfold PySem.W.mroIn at hm
          rw [z] at hm
          cases hm
      exact PySem.W.kia_one (PySem.W.kitx_exc (ox := oe) (od := od) hc C.hg C.hk C.hs C.ha C.hn C.ht C.hm) I.kIn J e (by intro z; cases z) (fun tk => ⟨.bl b, H, I.tok _, rfl, q⟩)
end L2
namespace A
open PySem PySem.Spec PyProof.Rows L2
/-! ### what a step leaves -/
/-- M may have changed, all else that was tracked is as it was -/
structure Kp (M : List Addr) (H H' : Hp) : Prop where
  keep : ∀ a o, H a = some o → a ∉ M → H' a = some o
  there : ∀ a o, H a = some o → ∃ o', H' a = some o'
theorem Kp.refl (M : List Addr) (H : Hp) : Kp M H H := ⟨fun _ _ h _ => h, fun _ o h => ⟨o, h⟩⟩
theorem Kp.trans {M : List Addr} {H H1 H2 : Hp} (x : Kp M H H1) (y : Kp M H1 H2) : Kp M H H2 :=
  ⟨fun a o h n => y.keep a o (x.keep a o h n) n, fun a o h => by
    obtain ⟨o1, h1⟩ := x.there a o h
    exact y.there a o1 h1⟩
theorem Kp.mono {M N : List Addr} {H H1 : Hp} (x : Kp M H H1) (s : ∀ a, a ∈ M → a ∈ N) : Kp N H H1 := ⟨fun a o h n => x.keep a o h fun z => n (s a z), x.there⟩
theorem Kp.nil {M : List Addr} {H H1 : Hp} (x : Kp [] H H1) : Kp M H H1 := x.mono fun _ z => nomatch z
theorem Kp.fresh {M : List Addr} {H H1 : Hp} {p : Addr} (x : Kp M H H1) (h : H1 p = none) : H p = none := by
  cases q : H p with
  | none => rfl
  | some o =>
    obtain ⟨o', e⟩ := x.there p o q
    rw [h] at e
    cases e
theorem Kp.new {M : List Addr} {H H1 : Hp} {p : Addr} {o : HO} (x : Kp M H H1) (h : H1 p = none) : Kp M H (upd H1 p o) :=
  x.trans ⟨fun a u e _ => by rw [upd_ne (ne_of_none e h)]; exact e, fun a u e => ⟨u, by rw [upd_ne (ne_of_none e h)]; exact e⟩⟩
/-- an object that H does not know changes -/
theorem Kp.own {M : List Addr} {H H1 : Hp} {p : Addr} {o : HO} (x : Kp M H H1) (h : H p = none) : Kp M H (upd H1 p o) :=
  ⟨fun a u e n => by rw [upd_ne (ne_of_none e h)]; exact x.keep a u e n, fun a u e => by rw [upd_ne (ne_of_none e h)]; exact x.there a u e⟩
theorem Kp.inn {M : List Addr} {H H1 : Hp} {p : Addr} {o : HO} (x : Kp M H H1) (h : p ∈ M) : Kp M H (upd H1 p o) :=
  ⟨fun a u e n => by rw [upd_ne (fun z => n (by rw [z]; exact h))]; exact x.keep a u e n, fun a u e => by
    by_cases z : a = p
    · exact ⟨o, by rw [z, upd_same]⟩
    · rw [upd_ne z]; exact x.there a u e⟩
theorem Kp.at_ {M : List Addr} {H H1 : Hp} {a : Addr} {o : HO} (x : Kp M H H1) (h : H a = some o) (n : a ∉ M) : H1 a = some o := x.keep a o h n
theorem Kp.at0 {H H1 : Hp} {a : Addr} {o : HO} (x : Kp [] H H1) (h : H a = some o) : H1 a = some o := x.keep a o h (by simp)
theorem Kp.seq {K : PySem.W.Frag} {H H' : Hp} {a : Addr} {xs : List V} (e : Kp [] H H') (h : SqL K H a xs) : SqL K H' a xs := by
  rcases h with (h | ⟨o, h⟩) | h
  · exact .inl (.inl (e.at0 h))
  · exact .inl (.inr ⟨o, e.at0 h⟩)
  · exact .inr h
theorem Kp.sqt {K : PySem.W.Frag} {H H' : Hp} {a : Addr} {xs : List V} (e : Kp [] H H') (h : SqT K H a xs) : SqT K H' a xs := by
  rcases h with (h | ⟨o, h⟩) | h
  · exact .inl (.inl (e.at0 h))
  · exact .inl (.inr ⟨o, e.at0 h⟩)
  · exact .inr h
theorem nin1 {a b : Addr} (h : a ≠ b) : a ∉ [b] := by simpa using h

/-! ### the built-ins that no text here binds -/
structure Glb (mg : Str → Option Value) : Prop where
  len : mg "len" = none
  range : mg "range" = none
  int : mg "int" = none
  str : mg "str" = none
  list : mg "list" = none
  isinstance : mg "isinstance" = none
  enumerate : mg "enumerate" = none
  sorted : mg "sorted" = none
  tuple : mg "tuple" = none
  bool : mg "bool" = none
  max : mg "max" = none
  min : mg "min" = none
  sum : mg "sum" = none
  all : mg "all" = none
  any : mg "any" = none
  zip : mg "zip" = none
  set : mg "set" = none
  reversed : mg "reversed" = none
/-- a def of the text that keeps its promise, as callers see it -/
structure Cal (P : Program) (w : World) (K : PySem.W.Frag) (mg : Str → Option Value) (base : Heap) (k : Nat) (x : Str) (ps : List Str) (sp : Sp) : Prop where
  ex : ∃ (f : Addr) (fd : FuncData), FnOk P w K mg base CX0 k f fd ps sp ∧ mg x = some (.ref f) ∧ PySem.W.keepIn K (.ref f) = true ∧ Binds K fd ps []
theorem pe_cal {X : Cx} {k : Nat} {x : Str} {ps : List Str} {sp : Sp} {e : Expr} {es : List Expr} {t : TA} {p pos : Pos} (C : Cal X.prog X.w X.K X.mg X.base k x ps sp) (hr : Room k X.A) (hg : Gl X x) (ha : PA X (e :: es) t)
    (hd : (x == ("__debug__" : Str)) = false := by decide)
    (he : starEach (e :: es) X.env = (false, eval e X.env) :: starEach es X.env := by rfl) (hpl : (backTo pos (starEach es X.env)).any (·.1) = false := by rfl) : PE X (.Call (.Name x p) (e :: es) [] pos) (tCall sp [] E0 t) := by
  obtain ⟨f, fd, F, g, kp, b⟩ := C.ex
  exact pe_call F hr hg g kp b .nil pass0 ha hd he hpl
theorem Cal.mono {P : Program} {w : World} {K : PySem.W.Frag} {mg : Str → Option Value} {base : Heap} {j k : Nat} {x : Str} {ps : List Str} {sp : Sp} (C : Cal P w K mg base j x ps sp) (h : j ≤ k) : Cal P w K mg base k x ps sp := by
  obtain ⟨f, fd, F, r⟩ := C.ex
  exact ⟨f, fd, F.mono h, r⟩
/-! ### rules told more narrowly -/
section
variable {X : Cx}
theorem CallR.imp {f : Value} {r r' : List V → Hp → VK → Prop} (h : CallR X f r) (i : ∀ xs H Q, r' xs H Q → r xs H Q) : CallR X f r' := fun pins s σ H xs us Q I v q => h pins s σ H xs us Q I v (i _ _ _ q)
theorem OpR.imp {f : Value → Value → Sem Value} {r r' : R2} (h : OpR X f r) (i : ∀ x y H Q, r' x y H Q → r x y H Q) : OpR X f r' := fun pins s σ H x y v u Q I a b q => h pins s σ H x y v u Q I a b (i _ _ _ _ q)
theorem call_intI : CallR X (.type "int") (fun xs H Q => ∃ i, xs = [.int i] ∧ Q (.int i) H) := CallR.imp call_int1 fun _ _ _ q => .inl q
theorem call_intB : CallR X (.type "int") (fun xs H Q => ∃ k, xs = [.bl k] ∧ Q (.int (if k then 1 else 0)) H) := CallR.imp call_int1 fun _ _ _ q => .inr q
theorem call_lenL : CallR X (.builtin "len") (fun xs H Q => ∃ p ys, xs = [.ref p] ∧ SqL X.K H p ys ∧ Q (.int ys.length) H) := CallR.imp call_len_seq fun _ _ _ ⟨p, ys, e, h, q⟩ => ⟨p, ys, e, .inl h, q⟩
theorem call_lenT : CallR X (.builtin "len") (fun xs H Q => ∃ p ys, xs = [.ref p] ∧ SqT X.K H p ys ∧ Q (.int ys.length) H) := CallR.imp call_len_seq fun _ _ _ ⟨p, ys, e, h, q⟩ => ⟨p, ys, e, .inr h, q⟩
theorem call_listL : CallR X (.type "list") (fun xs H Q => ∃ p ys, xs = [.ref p] ∧ SqL X.K H p ys ∧ ∀ l, H l = none → Q (.ref l) (upd H l (.lst ys))) := CallR.imp call_list_of fun _ _ _ ⟨p, ys, e, h, q⟩ => ⟨p, ys, e, .inl h, q⟩
theorem call_listT : CallR X (.type "list") (fun xs H Q => ∃ p ys, xs = [.ref p] ∧ SqT X.K H p ys ∧ ∀ l, H l = none → Q (.ref l) (upd H l (.lst ys))) := CallR.imp call_list_of fun _ _ _ ⟨p, ys, e, h, q⟩ => ⟨p, ys, e, .inr h, q⟩
theorem call_tupleL : CallR X (.type "tuple") (fun xs H Q => ∃ p ys, xs = [.ref p] ∧ SqL X.K H p ys ∧ ∀ l, H l = none → Q (.ref l) (upd H l (.tup ys))) := CallR.imp call_tuple_of fun _ _ _ ⟨p, ys, e, h, q⟩ => ⟨p, ys, e, .inl ⟨h, q⟩⟩
end
/-! ### small things -/
theorem kv_r (s : Str) : kV (Sum.inr s : Key) = .str s := rfl
theorem iteA {c : Bool} {A B : Prop} (h1 : c = true → A) (h2 : c = false → B) : if c = true then A else B := by
  cases c with
  | true => exact iteT (h1 rfl)
  | false => exact iteF (h2 rfl)
theorem iteD {c : Prop} [Decidable c] {A B : Prop} (h1 : c → A) (h2 : ¬ c → B) : if decide c = true then A else B := ite2 (fun e => h1 (of_decide_eq_true e)) (fun e => h2 fun z => e (decide_eq_true z))
theorem iteND {c : Prop} [Decidable c] {A B : Prop} (h1 : ¬ c → A) (h2 : c → B) : if (!decide c) = true then A else B := ite2 (fun e => h1 (by simpa using e)) (fun e => h2 (by simpa using e))
theorem small {n : Nat} (h : n ≤ 100000) : n ≤ sizeLine := Nat.le_trans h (by decide)
theorem smallLt {n : Nat} (h : n < 100000) : n < sizeLine := Nat.lt_of_lt_of_le h (by decide)
theorem nodupPair {a b : Str} (h : a ≠ b) : (Sum.inr a : Key) ≠ Sum.inr b := fun z => h (Sum.inr.inj z)

/-- a statement, then a word that holds behind it, then the rest -/
def tCut (t u : TS) : TS := fun D σ H => ∃ W : L2.St → Hp → Prop, t { D with nx := W } σ H ∧ ∀ σ' H', W σ' H' → u D σ' H'
theorem pss_cut {X : Cx} {st : Stmt} {rest : List Stmt} {t u : TS} (h1 : PS X st t) (h2 : PSs X rest u) : PSs X (st :: rest) (tCut t u) := by
  refine ⟨fun pins s σ H D I h => ?_⟩
  obtain ⟨W, ht, hu⟩ := h
  refine wpAny_execs_cons (thn (h1.run pins s σ H { D with nx := W } I ht) fun f s1 q => ?_)
  cases f with
  | next =>
    obtain ⟨σ', H', I', q⟩ := q
    exact h2.run pins s1 σ' H' D I' (hu _ _ q)
  | ret v => exact q
  | brk => exact q
  | cont => exact q
theorem tyL {K : PySem.W.Frag} {H : Hp} {a : Addr} {xs : List V} (h : H a = some (.lst xs)) : tyV K "list" (.ref a) H := .inl ⟨rfl, _, .inl (.inl h)⟩
/-- a word: the steps stop at it -/
structure Wd (p : Prop) : Prop where
  get : p
theorem upd_int {H : Hp} {o : Addr} {rs : List Int} {x : Int} : upd H o (.lst (rs.map V.int ++ [V.int x])) o = some (.lst ((rs ++ [x]).map V.int)) := by
  rw [upd_same, List.map_append]
  rfl
/-- ranges of a few turns -/
def iRn1 (ta : TA) : TI := fun σ H R => ta σ H fun vs H1 => ∃ j : Int, vs = [.int j] ∧ -1000000 ≤ j ∧ j ≤ 1000000 ∧ R (Itr 0 j.toNat) H1
def iRn2 (ta : TA) : TI := fun σ H R => ta σ H fun vs H1 => ∃ i j : Int, vs = [.int i, .int j] ∧ -1000000 ≤ i ∧ i ≤ 1000000 ∧ -1000000 ≤ j ∧ j ≤ 1000000 ∧ R (Itr i (j - i).toNat) H1
theorem PA.imp {X : Cx} {es : List Expr} {t t' : TA} (h : PA X es t) (i : ∀ σ H Q, t' σ H Q → t σ H Q) : PA X es t' := ⟨fun pos pins s σ H Q I q => h.run pos pins s σ H Q I (i _ _ _ q)⟩
theorem PI.imp {X : Cx} {tg iter : Expr} {w w' : TI} (h : PI X tg iter w) (i : ∀ σ H R, w' σ H R → w σ H R) : PI X tg iter w' := ⟨fun pins s σ H R I q => h.run pins s σ H R I (i _ _ _ q)⟩
/-- arguments read, then weakened -/
theorem PA.clo {X : Cx} {es : List Expr} {t : TA} (h : PA X es t) : PA X es (fun σ H Q => ∃ Q0, t σ H Q0 ∧ ∀ vs H', Q0 vs H' → Q vs H') := ⟨fun pos pins s σ H Q I ⟨Q0, q, i⟩ =>
  thn (h.run pos pins s σ H Q0 I q) fun us s1 ⟨vs, H1, I1, r1, q1⟩ => ⟨vs, H1, I1, r1, i _ _ q1⟩⟩
theorem p62 {j : Int} (h1 : -1000000 ≤ j) (h2 : j ≤ 1000000) : -(2 ^ 62) ≤ j ∧ j < 2 ^ 62 := ⟨Int.le_trans (by decide) h1, Int.lt_of_le_of_lt h2 (by decide)⟩
theorem pi_rn1 {X : Cx} {tg a : Expr} {ta : TA} {p pos : Pos} (hg : Gl X "range") (hm : X.mg "range" = none) (ha : PA X [a] ta) (hs : starEach [a] X.env = [(false, eval a X.env)] := by rfl) : PI X tg (.Call (.Name "range" p) [a] [] pos) (iRn1 ta) :=
  PI.imp (pi_range1 hg hm (PA.clo ha) hs) fun σ H R q => ⟨_, q, fun vs H' ⟨j, e, h1, h2, r⟩ => ⟨j, e, (p62 h1 h2).1, (p62 h1 h2).2, r⟩⟩
theorem pi_rn2 {X : Cx} {tg a b : Expr} {ta : TA} {p pos : Pos} (hg : Gl X "range") (hm : X.mg "range" = none) (ha : PA X [a, b] ta) (hs : starEach [a, b] X.env = [(false, eval a X.env), (false, eval b X.env)] := by rfl) (hs2 : starEach [b] X.env = [(false, eval b X.env)] := by rfl) : PI X tg (.Call (.Name "range" p) [a, b] [] pos) (iRn2 ta) :=
  PI.imp (pi_range2 hg hm (PA.clo ha) hs hs2) fun σ H R q => ⟨_, q, fun vs H' ⟨i, j, e, h1, h2, h3, h4, r⟩ => ⟨i, j, e, ⟨(p62 h1 h2).1, (p62 h1 h2).2, (p62 h3 h4).1, (p62 h3 h4).2⟩, r⟩⟩
/-! ### tests and bools whose parts change nothing -/
def AnsT (t : TT) (σ : L2.St) (H : Hp) (b : Bool) : Prop := ∀ Q : Bool → Hp → Prop, Q b H → t σ H Q
def ValE (t : TE) (σ : L2.St) (H : Hp) (v : V) : Prop := ∀ Q : VK, Q v H → t σ H Q
def tAnd2 (t u : TT) : TT := fun σ H Q => ∃ b1 b2, AnsT t σ H b1 ∧ (b1 = true → AnsT u σ H b2) ∧ Q (b1 && b2) H
def tOr2 (t u : TT) : TT := fun σ H Q => ∃ b1 b2, AnsT t σ H b1 ∧ (b1 = false → AnsT u σ H b2) ∧ Q (b1 || b2) H
def tAndV2 (t u : TE) : TE := fun σ H Q => ∃ b1 b2, ValE t σ H (.bl b1) ∧ (b1 = true → ValE u σ H (.bl b2)) ∧ Q (.bl (b1 && b2)) H
def tOrV2 (t u : TE) : TE := fun σ H Q => ∃ b1 b2, ValE t σ H (.bl b1) ∧ (b1 = false → ValE u σ H (.bl b2)) ∧ Q (.bl (b1 || b2)) H
def tChain2 (r r' : R2) (ta tb tc : TE) : TE := fun σ H Q => ∃ b1 b2 x y z, ValE ta σ H x ∧ ValE tb σ H y ∧ (∀ Q : VK, Q (.bl b1) H → r x y H Q) ∧ (b1 = true → ValE tc σ H z ∧ ∀ Q : VK, Q (.bl b2) H → r' y z H Q) ∧ Q (.bl (b1 && b2)) H
section
variable {X : Cx} {a b c : Expr} {rest : List Expr} {tA tB' : TT} {ta tb tc : TE} {pos : Pos}
theorem PW.imp {e : Expr} {t t' : TT} (h : PW X e t) (i : ∀ σ H Q, t' σ H Q → t σ H Q) : PW X e t' := ⟨fun wh pins s σ H Q I q => h.run wh pins s σ H Q I (i _ _ _ q)⟩
theorem PT.imp {e : Expr} {t t' : TT} (h : PT X e t) (i : ∀ σ H Q, t' σ H Q → t σ H Q) : PT X e t' := ⟨fun pins s σ H Q I q => h.run pins s σ H Q I (i _ _ _ q)⟩
theorem PE.imp {e : Expr} {t t' : TE} (h : PE X e t) (i : ∀ σ H Q, t' σ H Q → t σ H Q) : PE X e t' := ⟨fun pins s σ H Q I q => h.run pins s σ H Q I (i _ _ _ q)⟩
theorem pw_and2 (ha : PT X a tA) (hb : PW X (.BoolOp .And (b :: rest) pos) tB') : PW X (.BoolOp .And (a :: b :: rest) pos) (tAnd2 tA tB') :=
  PW.imp (pw_and ha hb) fun σ H Q ⟨b1, b2, h1, h2, q⟩ => h1 _ (by
    cases b1 with
    | true => exact iteT (h2 rfl _ q)
    | false => exact iteF q)
theorem pw_or2 (ha : PT X a tA) (hb : PW X (.BoolOp .Or (b :: rest) pos) tB') : PW X (.BoolOp .Or (a :: b :: rest) pos) (tOr2 tA tB') :=
  PW.imp (pw_or ha hb) fun σ H Q ⟨b1, b2, h1, h2, q⟩ => h1 _ (by
    cases b1 with
    | true => exact iteT q
    | false => exact iteF (h2 rfl _ q))
theorem pe_and2 (ha : PE X a ta) (hb : PE X (.BoolOp .And (b :: rest) pos) tb) : PE X (.BoolOp .And (a :: b :: rest) pos) (tAndV2 ta tb) :=
  PE.imp (pe_and ha hb) fun σ H Q ⟨b1, b2, h1, h2, q⟩ => h1 _ ⟨b1, rfl, by
    cases b1 with
    | true => exact iteT (h2 rfl _ q)
    | false => exact iteF q⟩
theorem pe_or2 (ha : PE X a ta) (hb : PE X (.BoolOp .Or (b :: rest) pos) tb) : PE X (.BoolOp .Or (a :: b :: rest) pos) (tOrV2 ta tb) :=
  PE.imp (pe_or ha hb) fun σ H Q ⟨b1, b2, h1, h2, q⟩ => h1 _ ⟨b1, rfl, by
    cases b1 with
    | true => exact iteT q
    | false => exact iteF (h2 rfl _ q)⟩
theorem chain2_imp {r r' : R2} {σ : L2.St} {H : Hp} {Q : VK} (h : tChain2 r r' ta tb tc σ H Q) : tChain r r' ta tb tc σ H Q := by
  obtain ⟨b1, b2, x, y, z, h1, h2, h3, h4, q⟩ := h
  refine h1 _ (h2 _ (h3 _ ⟨b1, rfl, ?_⟩))
  cases b1 with
  | true => exact iteT ((h4 rfl).1 _ ((h4 rfl).2 _ q))
  | false => exact iteF q
theorem pe_chain2 {op op' : CmpOp} {r r' : R2} (ho : OpR X (compareOp op) r) (ho' : OpR X (compareOp op') r') (ha : PE X a ta) (hb : PE X b tb) (hc : PE X c tc)
    (hm : lastMarks [op, op'] [b, c] = false := by with_unfolding_all rfl) : PE X (.Compare a [op, op'] [b, c] pos) (tChain2 r r' ta tb tc) := PE.imp (pe_chain ho ho' ha hb hc hm) fun _ _ _ q => chain2_imp q
theorem pt_chain2 {op op' : CmpOp} {r r' : R2} (ho : OpR X (compareOp op) r) (ho' : OpR X (compareOp op') r') (ha : PE X a ta) (hb : PE X b tb) (hc : PE X c tc)
    (hm : lastMarks [op, op'] [b, c] = false := by with_unfolding_all rfl) : PT X (.Compare a [op, op'] [b, c] pos) (tTest (tChain2 r r' ta tb tc)) := PT.imp (pt_chain ho ho' ha hb hc hm) fun _ _ _ q => chain2_imp q
/-- a list's truth -/
theorem pt_truthL (ha : PE X a ta) (he : ∀ whole, isTrue a X.env whole = (do let v ← whole; standAt a.pos; holding [v] (truthy v)) := by intro _; rfl) :
    PT X a (fun σ H Q => ∃ p xs, ValE ta σ H (.ref p) ∧ SqL X.K H p xs ∧ Q (!xs.isEmpty) H) :=
  PT.imp (pt_truth ha he) fun σ H Q ⟨p, xs, h1, h2, q⟩ => h1 _ ⟨_, .inl ⟨xs, h2, rfl⟩, q⟩
end
theorem u65 {k : Nat} {A : Around} (r : Room k A) : A.units + 65 < cLine := by have := r.un; omega
theorem andP {c d : Prop} [Decidable c] [Decidable d] : (decide c && decide d) = decide (c ∧ d) := by simp
theorem orP {c d : Prop} [Decidable c] [Decidable d] : (decide c || decide d) = decide (c ∨ d) := by simp
theorem iteAD {c d A B : Prop} [Decidable c] [Decidable d] (h1 : c → d → A) (h2 : ¬ (c ∧ d) → B) : if (decide c && decide d) = true then A else B := by
  rw [andP]
  exact iteD (fun e => h1 e.1 e.2) h2
theorem iteOD {c d A B : Prop} [Decidable c] [Decidable d] (h1 : c ∨ d → A) (h2 : ¬ c → ¬ d → B) : if (decide c || decide d) = true then A else B := by
  rw [orP]
  exact iteD h1 (fun e => h2 (fun z => e (.inl z)) fun z => e (.inr z))
/-- for i, x in enumerate(xs), the list as it was -/
theorem for_enum {K : PySem.W.Frag} {a : Addr} {xs : List V} {g : TG} {tb : TS} {D : Ends} {σ : L2.St} {H : Hp} (Pv : Nat → L2.St → Hp → Prop) (h0 : Pv 0 σ H) (hl : ∀ i σ H, i ≤ xs.length → Pv i σ H → SqL K H a xs)
    (hs : ∀ i x T σ H, xs[i]? = some x → Pv i σ H → H T = none → g (.ref T) σ (upd H T (.tup [.int (i : Nat), x])) fun σ2 H2 => tb { D with nx := Pv (i + 1), ct := Pv (i + 1), bk := D.nx } σ2 H2) (hd : ∀ σ H, Pv xs.length σ H → D.nx σ H) :
    ∃ W : Nat → Nat → L2.St → Hp → Prop, (∃ m, W 0 m σ H) ∧ ∀ i m σ H, W i m σ H →
      ((Ite K a).stop i H ∧ D.nx σ H) ∨ ((Ite K a).go i H ∧ ∃ N : L2.St → Hp → Prop, (∀ σ' H', N σ' H' → ∃ m', m' < m ∧ W (i + 1) m' σ' H') ∧ ∀ x H', (Ite K a).yld i H x H' → g x σ H' fun σ2 H2 => tb { D with nx := N, ct := N, bk := D.nx } σ2 H2) := by
  refine ⟨fun i m σ H => m = xs.length - i ∧ i ≤ xs.length ∧ Pv i σ H, ⟨xs.length, by simp, Nat.zero_le _, h0⟩, ?_⟩
  rintro i m σ H ⟨rfl, hi, p⟩
  have q := hl i σ H hi p
  by_cases hlt : i < xs.length
  · refine .inr ⟨⟨xs, xs[i], q, by simp [hlt]⟩, Pv (i + 1), fun σ' H' p' => ⟨xs.length - (i + 1), by omega, rfl, hlt, p'⟩, fun x H' y => ?_⟩
    obtain ⟨T, z, rfl, nT, rfl, y⟩ := y
    exact hs i z T σ _ (y xs q) p nT
  · have e : i = xs.length := by omega
    subst e
    exact .inl ⟨⟨xs, q, Nat.le_refl _⟩, hd σ H p⟩
theorem iteY {c : Bool} {A B : Prop} (h : c = true) (q : A) : if c = true then A else B := by rw [h]; exact iteT q
theorem iteN {c : Bool} {A B : Prop} (h : c = false) (q : B) : if c = true then A else B := by rw [h]; exact iteF q
theorem dstrY {a : Str} : decide (V.str a = V.str a) = true := decide_eq_true rfl
theorem dstrN {a b : Str} (h : ¬ a = b) : decide (V.str a = V.str b) = false := decide_eq_false fun z => h (V.str.inj z)
/-- isinstance(x, T), T a built-in class -/
structure Kit (S T : String) (b : Bool) : Prop where
  eq : kitB S T = some b
def rIs (K : PySem.W.Frag) : List V → Hp → VK → Prop := fun xs H Q => ∃ (x : V) (T S : String) (b : Bool), xs = [x, .ty T] ∧ TyX K H x (.type S) ∧ Kit S T b ∧ Q (.bl b) H
theorem call_is {X : Cx} : CallR X (.builtin "isinstance") (rIs X.K) := CallR.imp call_isi fun xs H Q ⟨x, T, S, b, e, h1, h2, q⟩ => ⟨x, .ty T, .type S, .type T, b, e, .ty T, h1, kit_ty h2.eq, q⟩
theorem kit_ll : Kit "list" "list" true := ⟨by decide +kernel⟩
theorem kit_tt : Kit "tuple" "tuple" true := ⟨by decide +kernel⟩
theorem kit_ss : Kit "str" "str" true := ⟨by decide +kernel⟩
theorem kit_ib : Kit "int" "bool" false := ⟨by decide +kernel⟩
theorem kit_ii : Kit "int" "int" true := ⟨by decide +kernel⟩
theorem kit_bb : Kit "bool" "bool" true := ⟨by decide +kernel⟩
theorem cut_take {xs : List V} {n : Nat} : cutV xs none (some (n : Int)) = xs.take n := by
  unfold cutV
  rw [HT.sIx_nat, HT.sIx_none, List.drop_zero, Nat.sub_zero]
  by_cases h : n ≤ xs.length
  · rw [Nat.min_eq_left h]
  · rw [Nat.min_eq_right (by omega), List.take_of_length_le (Nat.le_refl _), List.take_of_length_le (by omega)]
theorem cut_drop {xs : List V} {n : Nat} : cutV xs (some (n : Int)) none = xs.drop n := by
  unfold cutV
  rw [HT.sIx_nat, HT.sIx_none]
  by_cases h : n ≤ xs.length
  · rw [Nat.min_eq_left h, List.take_of_length_le (by rw [List.length_drop]; exact Nat.le_refl _)]
  · rw [Nat.min_eq_right (by omega), List.drop_of_length_le (Nat.le_refl _), List.drop_of_length_le (by omega)]
    exact List.take_nil
/-- a def that calls itself: its own name -/
structure Slf (K : PySem.W.Frag) (mg : Str → Option Value) (x : Str) (f : Addr) (fd : FuncData) (ps : List Str) : Prop where
  g : mg x = some (.ref f)
  k : PySem.W.keepIn K (.ref f) = true
  b : Binds K fd ps []
/-! ### the steps: hs (what stands at an address), ne (two addresses), kp (what is left), sd (a side question), st (one place of a reading) -/
local macro_rules | `(tactic| walk_at "ne") => `(tactic| first
  | assumption
  | (apply Ne.symm; assumption)
  | (apply ne_of_none (h' := by assumption); walk_at "hs")
  | (apply Ne.symm; apply ne_of_none (h' := by assumption); walk_at "hs"))
local macro_rules | `(tactic| walk_at "hs") => `(tactic| first
  | assumption
  | exact upd_same
  | (refine Eq.trans (upd_ne ?_) ?_; (focus walk_at "ne"); walk_at "hs"))
local macro_rules | `(tactic| walk_at "kp") => `(tactic| first
  | assumption
  | exact Kp.refl _ _
  | (apply Kp.new (h := by assumption); walk_at "kp")
  | (apply Kp.own (h := by assumption); walk_at "kp")
  | (apply Kp.inn (h := List.mem_cons_self); walk_at "kp"))
local macro_rules | `(tactic| walk_at "sd") => `(tactic| first
  | ((with_reducible show _ = _); rfl)
  | ((with_reducible show (_ : Int) < _); omega)
  | ((with_reducible show (_ : Int) ≤ _); omega)
  | assumption
  | (apply SqL.of; walk_at "hs")
  | (apply tyL; walk_at "hs")
  | (apply SqT.of; walk_at "hs")
  | walk_at "hs"
  | exact kit_ll
  | exact kit_tt
  | exact kit_ss
  | exact kit_ib
  | exact kit_bb
  | omega
  | (apply small; (try simp only [List.length_append, List.length_cons, List.length_nil, List.length_map]); omega)
  | (apply smallLt; (try simp only [List.length_append, List.length_cons, List.length_nil, List.length_map]); omega)
  | (refine Or.inl ⟨?_, ?_⟩ <;> omega)
  | (refine Or.inr ⟨?_, ?_⟩ <;> omega)
  | (refine ⟨?_, ?_⟩ <;> omega)
  | (apply Kp.seq; rotate_left; assumption; walk_at "kp")
  | (apply Kp.sqt; rotate_left; assumption; walk_at "kp")
  | (apply Exists.intro; assumption)
  | (apply Exists.intro; apply Kp.seq; rotate_left; assumption; walk_at "kp")
  | (apply Exists.intro; apply Kp.sqt; rotate_left; assumption; walk_at "kp")
  | (apply Exists.intro; apply SqL.of; walk_at "hs")
  | (apply Exists.intro; apply SqT.of; walk_at "hs")
  | (show AnsT _ _ _ _; intro Qx qx; walk_at "st"; exact qx)
  | (show ValE _ _ _ _; intro Qx qx; walk_at "st"; exact qx)
  | (intro hx; show AnsT _ _ _ _; intro Qx qx; walk_at "st"; exact qx)
  | (intro hx; show ValE _ _ _ _; intro Qx qx; walk_at "st"; exact qx)
  | (intro hx; apply And.intro; (focus walk_at "sd"); intro Qx qx; walk_at "st"; exact qx)
  | (intro Qx qx; walk_at "st"; exact qx)
  | decide)
local macro_rules | `(tactic| walk_at "st1") => `(tactic| first
  | (apply And.intro; (focus walk_at "sd"))
  | apply Exists.intro)
local macro_rules | `(tactic| walk_at "st") => `(tactic| repeat (
  (fail_if_success show ∃ W : Nat → Nat → L2.St → Hp → Prop, _)
  (fail_if_success show ∃ W : Nat → Nat → Hp → Prop, _)
  (fail_if_success show ∃ W : Nat → L2.St → Hp → Prop, _)
  (fail_if_success show ∃ W : L2.St → Hp → Prop, _)
  walk_at "st1"))
/-! ### exceptions of the text's own classes -/
/-- the class of that name -/
def clsA (mg : Str → Option Value) (x : Str) : Addr := match mg x with
  | some (.ref C) => C
  | _ => 0
theorem clsA_of {mg : Str → Option Value} {x : Str} {C : Addr} (h : mg x = some (.ref C)) : clsA mg x = C := by unfold clsA; rw [h]
structure ClsC (mg : Str → Option Value) (x : Str) : Prop where
  g : mg x = some (.ref (clsA mg x))
theorem ClsC.of {mg : Str → Option Value} {x : Str} {C : Addr} (h : mg x = some (.ref C)) : ClsC mg x := ⟨by rw [clsA_of h]; exact h⟩
theorem ClsC.pe {X : Cx} {x : Str} {pos : Pos} (c : ClsC X.mg x) (hg : Gl X x) (hd : (x == ("__debug__" : Str)) = false := by decide) : PE X (.Name x pos) (tC (.ref (clsA X.mg x))) :=
  pe_glob hg c.g rfl hd
theorem ClsC.peS {X : Cx} {mg : Str → Option Value} {x : Str} {pos : Pos} (c : ClsC mg x) (hm : X.mg = mg) (hg : Gl X x) (hd : (x == ("__debug__" : Str)) = false := by decide) : PE X (.Name x pos) (tC (.ref (clsA mg x))) := by
  subst hm
  exact c.pe hg hd
/-- a class that says super().__init__(..) and keeps one field -/
structure SupC (P : Program) (K : PySem.W.Frag) (mg : Str → Option Value) (x q f : Str) : Prop where
  ex : ∃ fI, SX.SupTxt P K mg x q f (clsA mg x) fI
  two : f = "number" ∨ f = "place"
theorem SupC.pmk {X : Cx} {x q f : Str} {a : Expr} {ta : TA} {p pos : Pos} {k : Nat} (c : SupC X.prog X.K X.mg x q f) (hr : Room k X.A) (ha : PA X [a] ta) (hg : Gl X x) (hd : (x == ("__debug__" : Str)) = false := by decide)
    (he : starEach (a :: []) X.env = (false, eval a X.env) :: starEach [] X.env := by rfl) (hpl : (backTo pos (starEach [] X.env)).any (·.1) = false := by rfl) :
    PMk X (.Call (.Name x p) [a] [] pos) (tMkS (clsA X.mg x) f ta) := by
  obtain ⟨fI, T⟩ := c.ex
  exact pmk_sup T c.two hr ha hg hd he hpl
/-- a class of its own without __init__ -/
structure OwnC (K : PySem.W.Frag) (mg : Str → Option Value) (x : Str) : Prop where
  g : mg x = some (.ref (clsA mg x))
  e : PySem.W.excIn K (clsA mg x) SX.veT "ValueError.__new__" = true
  k : PySem.W.keepIn K (.ref (clsA mg x)) = true
  b : PySem.W.subIn K (.ref (clsA mg x)) (.type "BaseException") = some true
  t : PySem.W.typeIn K (.ref (clsA mg x)) = some (.type "type")
theorem OwnC.pmk {X : Cx} {x : Str} {a : Expr} {ta : TA} {p pos : Pos} (c : OwnC X.K X.mg x) (ha : PA X [a] ta) (hg : Gl X x) (hd : (x == ("__debug__" : Str)) = false := by decide)
    (he : starEach (a :: []) X.env = (false, eval a X.env) :: starEach [] X.env := by rfl) (hpl : (backTo pos (starEach [] X.env)).any (·.1) = false := by rfl) :
    PMk X (.Call (.Name x p) [a] [] pos) (fun σ H Q => ta σ H fun vs H1 => vs.length ≤ sizeLine ∧ Q (.ref (clsA X.mg x)) none H1) :=
  pmk_ownA PySem.F.excBase_ValueError c.e c.g c.k (raises_own c.b c.t) hg ha hd he hpl
/-- x's errors are taken by except y -/
structure CgtC (K : PySem.W.Frag) (mg : Str → Option Value) (x y : Str) : Prop where
  c : ExcC K (clsA mg x)
  m : PySem.W.exmOne K (.ref (clsA mg x)) (.ref (clsA mg y)) = some true
/-- isinstance(e, y), e of the class x -/
structure KitC (K : PySem.W.Frag) (mg : Str → Option Value) (x y : Str) (b : Bool) : Prop where
  e : PySem.W.kitOne K (.ref (clsA mg x)) (.ref (clsA mg y)) = some b
structure KibC (K : PySem.W.Frag) (mg : Str → Option Value) (x : Str) (y : String) (b : Bool) : Prop where
  e : PySem.W.kitOne K (.ref (clsA mg x)) (.type y) = some b
structure BltC (mg : Str → Option Value) (x : Str) : Prop where
  z : mg x = none
/-- a def of the text that may raise -/
structure CalX (P : Program) (w : World) (K : PySem.W.Frag) (mg : Str → Option Value) (base : Heap) (k : Nat) (x : Str) (ps : List Str) (sp : Sp) : Prop where
  ex : ∃ (f : Addr) (fd : FuncData), FnOk P w K mg base (L2.CX P w) k f fd ps sp ∧ mg x = some (.ref f) ∧ PySem.W.keepIn K (.ref f) = true ∧ Binds K fd ps []
theorem pe_calX {X : Cx} {k : Nat} {x : Str} {ps : List Str} {sp : Sp} {e : Expr} {es : List Expr} {t : TA} {p pos : Pos} {W : WX} (C : CalX X.prog X.w X.K X.mg X.base k x ps sp) (hr : Room k X.A) (tk : Takes X W) (hg : Gl X x) (ha : PA X (e :: es) t)
    (hd : (x == ("__debug__" : Str)) = false := by decide)
    (he : starEach (e :: es) X.env = (false, eval e X.env) :: starEach es X.env := by rfl) (hpl : (backTo pos (starEach es X.env)).any (·.1) = false := by rfl) : PE X (.Call (.Name x p) (e :: es) [] pos) (tCallS sp (WE W) t) := by
  obtain ⟨f, fd, F, g, kp, b⟩ := C.ex
  exact pe_callS F hr hg g kp b (fun σ => passAt tk σ) ha hd he hpl
/-- e.n, e the exception that the suite holds, in slot i -/
def tXv (K : PySem.W.Frag) (i : Nat) (a : Addr) (cls : Value) (d : Option Addr) (n : Str) : TE := fun σ H Q =>
  ∃ (C dd : Addr) (fs : List (Str × V)) (v : V), cls = .ref C ∧ XfC K C ∧ PySem.W.findIn K (.ref C) n = some none ∧ σ[i]? = some (some (.ref a)) ∧ d = some dd ∧ H dd = some (.xd fs) ∧ fs.lookup n = some v ∧ Q v H
theorem pe_xv {X : Cx} {a : Addr} {oe : Obj} {cls : Value} {d : Option Addr} {pn : List (Addr × Obj)} {e : Expr} {pos : Pos} {n : Str} {i : Nat} (hz : Zc cls d oe) (hf : ∃ vs, oe.data = .fields vs) (he : PE (X.suite a ((a, oe) :: pn)) e (tVar i))
    (hb : attributeBase e n X.env (eval e X.env) = eval e X.env := by rfl) : PE (X.suite a ((a, oe) :: pn)) (.Attribute e n pos) (tXv X.K i a cls d n) := by
  refine ⟨fun pins s σ H Q I h => ?_⟩
  obtain ⟨C, dd, fs, v, ec, T, hno, hs, ed, hdd, hl, q⟩ := h
  exact (pe_xf T hno hz hf he hb).run pins s σ H Q I ⟨_, hs, rfl, ec, dd, fs, v, ed, hdd, hl, q⟩
theorem ExcC.xf {K : PySem.W.Frag} {C : Addr} (h : ExcC K C) : XfC K C := ⟨h.hg, h.hk, h.hs, h.hd⟩
section
open PySem.W
theorem excInit_of {K : PySem.W.Frag} {C N : Addr} {nm qn : Str} {bs bm sub : List Value} {sn : List Str} {ab : Bool} {col : Option Bool} {dd : Option Addr} {k0 k1 k2 k3 k5 : Option Value}
    (h : K.lookup C = some (excClassObj nm qn C N bs bm true sn sub ab col dd k0 k1 k2 k3 k5 "ValueError.__new__")) (t : excTail SX.veT bm = true) : excInitIn K C SX.veT "ValueError.__new__" = true := by
  unfold excInitIn
  rw [h]
  show (C == C && ("ValueError.__new__" == "ValueError.__new__") && !false && excTail SX.veT bm) = true
  rw [t]
  simp
theorem kitCls_of {K : PySem.W.Frag} {D C : Addr} {b : Bool} (i : isClsIn K C = true) (t : typeIn K (.ref C) = some (.type "type")) (s : subIn K (.ref D) (.ref C) = some b) : kitCls K (.ref D) (.ref C) = some b := by
  have i' : (clsIn K C).isSome = true := i
  show (if ((clsIn K C).isSome && typeIn K (.ref C) == some (.type "type")) = true then subIn K (.ref D) (.ref C) else none) = some b
  rw [i', t, if_pos (by decide), s]
theorem kit_self {K : PySem.W.Frag} {D : Addr} : kitOne K (.ref D) (.ref D) = some true := by
  unfold kitOne
  rw [if_pos (by simp)]
theorem kit_t {K : PySem.W.Frag} {D C : Addr} (i : isClsIn K C = true) (t : typeIn K (.ref C) = some (.type "type")) (s : subIn K (.ref D) (.ref C) = some true) : kitOne K (.ref D) (.ref C) = some true := by
  unfold kitOne
  split
  · rfl
  · exact kitCls_of i t s
theorem kit_f {K : PySem.W.Frag} {D C : Addr} (n : D ≠ C) (i : isClsIn K C = true) (t : typeIn K (.ref C) = some (.type "type")) (s : subIn K (.ref D) (.ref C) = some false) : kitOne K (.ref D) (.ref C) = some false := by
  unfold kitOne
  rw [if_neg (by intro z; exact n (Value.ref.inj (eq_of_beq z)))]
  exact kitCls_of i t s
theorem kib_of {K : PySem.W.Frag} {D : Addr} {b : Bool} (s : subIn K (.ref D) (.type "ValueError") = some b) : kitOne K (.ref D) (.type "ValueError") = some b := by
  unfold kitOne
  rw [if_neg (by intro z; cases (eq_of_beq z))]
  show (if kitMeta "ValueError" = true then subIn K (.ref D) (.type "ValueError") else none) = some b
  rw [if_pos (by decide +kernel), s]
theorem exm_one {K : PySem.W.Frag} {D C : Addr} (e : subIn K (.ref C) (.type "BaseException") = some true) (i : isClsIn K C = true) (t : typeIn K (.ref C) = some (.type "type")) (s : subIn K (.ref D) (.ref C) = some true) : exmOne K (.ref D) (.ref C) = some true := by
  unfold exmOne
  rw [if_pos (by rw [e]; decide)]
  exact kitCls_of i t s
end
/-! ### the box of draws: what a law draws its input from -/
def kRow : Key := .inr "row"
def kAt : Key := .inr "at"
theorem kRA : ¬ kRow = kAt := fun z => absurd (Sum.inr.inj z) (by decide +kernel)
def boxD (r : Addr) (n : Int) : List (Key × V) := [(kRow, .ref r), (kAt, .int n)]
theorem box_row (r : Addr) (n : Int) : valV (boxD r n) kRow = some (.ref r) := valV_pos rfl
theorem box_at (r : Addr) (n : Int) : valV (boxD r n) kAt = some (.int n) := (valV_neg kRA).trans (valV_pos rfl)
theorem box_put (r : Addr) (n m : Int) : putK (boxD r n) kAt (.int m) = boxD r m := by
  unfold putK boxD
  simp [kRA]
/-- the box stands at b: its numbers, none empty -/
structure BoxAt (H : Hp) (b r : Addr) : Prop where
  ex : ∃ (rs : List Int) (n : Int), H b = some (.dK (boxD r n)) ∧ H r = some (.lst (rs.map V.int)) ∧ 0 < rs.length ∧ rs.length ≤ 1000 ∧ 0 ≤ n
theorem BoxAt.kp {H H' : Hp} {b r : Addr} (x : BoxAt H b r) (k : Kp [] H H') : BoxAt H' b r := by
  obtain ⟨rs, n, h1, h2, h3⟩ := x.ex
  exact ⟨rs, n, k.at0 h1, k.at0 h2, h3⟩
/-- a new object, or one that is neither, changes -/
theorem BoxAt.upd {H : Hp} {b r p : Addr} {o : HO} (x : BoxAt H b r) (h1 : p ≠ b) (h2 : p ≠ r) : BoxAt (upd H p o) b r := by
  obtain ⟨rs, n, e1, e2, h3⟩ := x.ex
  exact ⟨rs, n, by rw [upd_ne h1.symm]; exact e1, by rw [upd_ne h2.symm]; exact e2, h3⟩
theorem BoxAt.neb {H : Hp} {b r p : Addr} (x : BoxAt H b r) (h : H p = none) : p ≠ b := by
  obtain ⟨rs, n, e1, e2, h3⟩ := x.ex
  exact (ne_of_none e1 h).symm
theorem BoxAt.ner {H : Hp} {b r p : Addr} (x : BoxAt H b r) (h : H p = none) : p ≠ r := by
  obtain ⟨rs, n, e1, e2, h3⟩ := x.ex
  exact (ne_of_none e2 h).symm
theorem BoxAt.nin {H : Hp} {b r p : Addr} (x : BoxAt H b r) (h : H p = none) : p ∉ [b] := nin1 (x.neb h)
theorem BoxAt.tupin {H : Hp} {b r p : Addr} {xs : List V} (x : BoxAt H b r) (h : H p = some (.tup xs)) : p ∉ [b] := by
  obtain ⟨rs, n, e1, e2, h3⟩ := x.ex
  exact nin1 (ne_of h e1 (by intro z; cases z))
theorem BoxAt.lstin {H : Hp} {b r p : Addr} {xs : List V} (x : BoxAt H b r) (h : H p = some (.lst xs)) : p ∉ [b] := by
  obtain ⟨rs, n, e1, e2, h3⟩ := x.ex
  exact nin1 (ne_of h e1 (by intro z; cases z))
/-- a drawn number below m -/
def sp__law_next : Sp := fun vs H Q _ => ∃ (b r : Addr) (m : Int), vs = [.ref b, .int m] ∧ 0 < m ∧ m < 1073741824 ∧ BoxAt H b r ∧ ∀ (v : Int) (H' : Hp), 0 ≤ v → v < m → BoxAt H' b r → Kp [b] H H' → Q (.int v) H'
/-- labels: three numbers from 1 to 3, a new tuple -/
def Lab (a b c : Int) : Prop := 1 ≤ a ∧ a ≤ 3 ∧ 1 ≤ b ∧ b ≤ 3 ∧ 1 ≤ c ∧ c ≤ 3
def sp__law_labels : Sp := fun vs H Q _ => ∃ b r : Addr, vs = [.ref b] ∧ BoxAt H b r ∧
  ∀ (p : Addr) (H' : Hp) (x y z : Int), Lab x y z → H' p = some (.tup [.int x, .int y, .int z]) → H p = none → BoxAt H' b r → Kp [b] H H' → Q (.ref p) H'
/-- so many drawn numbers, a new list -/
def sp__law_draws : Sp := fun vs H Q _ => ∃ c m k : Int, vs = [.int c, .int m, .int k] ∧ 0 < m ∧ m < 1073741824 ∧ 0 ≤ k ∧ k ≤ 1000 ∧
  ∀ (p : Addr) (H' : Hp) (rs : List Int), (rs.length : Int) = k → H p = none → H' p = some (.lst (rs.map V.int)) → Kp [] H H' → Q (.ref p) H'
/-- a new box from the script -/
def sp__law_box (K : PySem.W.Frag) : Sp := fun vs H Q _ => ∃ (a : Addr) (ns : List Int), vs = [.ref a] ∧ SqL K H a (ns.map V.int) ∧ ns.length ≤ 63 ∧
  ∀ (b r : Addr) (H' : Hp), BoxAt H' b r → H b = none → Kp [] H H' → Q (.ref b) H'
/-! ### places and texts, as data -/
inductive Pl | let_ (a : Int) | cal (a : Int) | ret (a : Int)
  deriving DecidableEq, Inhabited
def Pl.kind : Pl → Str
  | .let_ _ => "letter" | .cal _ => "call" | .ret _ => "return"
def Pl.lab : Pl → Int
  | .let_ a => a | .cal a => a | .ret a => a
def Pl.vs (p : Pl) : List V := [.str p.kind, .int p.lab]
def Pl.py (p : Pl) : PyData := .tuple [.str p.kind, .int p.lab]
def pyT (t : List Pl) : PyData := .list (t.map Pl.py)
theorem kLC : ¬ (("letter" : Str) = "call") := by decide +kernel
theorem kLR : ¬ (("letter" : Str) = "return") := by decide +kernel
theorem kCR : ¬ (("call" : Str) = "return") := by decide +kernel
theorem Pl.ext_ {p q : Pl} (h1 : p.kind = q.kind) (h2 : p.lab = q.lab) : p = q := by
  cases p <;> cases q <;> simp only [Pl.kind, Pl.lab] at h1 h2 <;> first
    | (subst h2; rfl; done)
    | exact absurd h1 kLC
    | exact absurd h1 kLR
    | exact absurd h1 kCR
    | exact absurd h1.symm kLC
    | exact absurd h1.symm kLR
    | exact absurd h1.symm kCR
theorem eqv_pl (p q : Pl) : PyData.eqv p.py q.py = decide (p = q) := by
  unfold Pl.py
  by_cases h : p = q
  · subst h; simp [PyData.eqv, PyData.eqvAll]
  · rw [decide_eq_false h]
    simp only [PyData.eqv, PyData.eqvAll, Bool.and_true]
    by_cases h1 : p.kind = q.kind
    · have h2 : ¬ p.lab = q.lab := fun z => h (Pl.ext_ h1 z)
      simp [h2]
    · simp [h1]
theorem eqvAll_pl : ∀ (t u : List Pl), PyData.eqvAll (t.map Pl.py) (u.map Pl.py) = decide (t = u)
  | [], [] => rfl
  | [], _ :: _ => by simp [PyData.eqvAll]
  | _ :: _, [] => by simp [PyData.eqvAll]
  | p :: t, q :: u => by
    simp only [List.map_cons, PyData.eqvAll, eqv_pl, eqvAll_pl t u]
    by_cases h1 : p = q <;> by_cases h2 : t = u <;> simp [h1, h2]
theorem eqv_t (t u : List Pl) : PyData.eqv (pyT t) (pyT u) = decide (t = u) := by
  unfold pyT
  rw [PyData.eqv]
  exact eqvAll_pl t u
theorem strOk_kind (p : Pl) : PyData.strOk p.kind = true := by cases p <;> (show PyData.strOk _ = true; simp only [Pl.kind]; decide +kernel)
theorem canLay_pl (p : Pl) : p.py.canLay0 = true := by simp [Pl.py, PyData.canLay0, PyData.canLayAll0, strOk_kind]
theorem canLayAll_pl : ∀ t : List Pl, PyData.canLayAll0 (t.map Pl.py) = true
  | [] => by simp [PyData.canLayAll0]
  | p :: t => by simp [PyData.canLayAll0, canLay_pl, canLayAll_pl t]
theorem depth_pl (p : Pl) : p.py.depth ≤ 2 := by simp [Pl.py, PyData.depth, PyData.depthAll]
theorem depthAll_pl : ∀ t : List Pl, PyData.depthAll (t.map Pl.py) ≤ 2
  | [] => by simp [PyData.depthAll]
  | p :: t => by
    have h1 := depth_pl p
    have h2 := depthAll_pl t
    simp only [List.map_cons, PyData.depthAll]
    omega
theorem shaped_pl (p : Pl) : SeqAt.shaped p.py = true := by
  have h := depth_pl p
  unfold SeqAt.shaped
  rw [canLay_pl, decide_eq_true (show p.py.depth ≤ 64 by omega)]
  rfl
theorem shaped_t (t : List Pl) : SeqAt.shaped (pyT t) = true := by
  have h := depthAll_pl t
  unfold SeqAt.shaped
  have h1 : (pyT t).canLay0 = true := by
    unfold pyT
    rw [PyData.canLay0]
    exact canLayAll_pl t
  have h2 : (pyT t).depth ≤ 64 := by
    unfold pyT
    rw [PyData.depth]
    omega
  rw [h1, decide_eq_true h2]
  rfl
/-! ### tuples stay -/
def TK (H H' : Hp) : Prop := ∀ a xs, H a = some (.tup xs) → H' a = some (.tup xs)
theorem TK.refl (H : Hp) : TK H H := fun _ _ h => h
theorem TK.trans {H H1 H2 : Hp} (x : TK H H1) (y : TK H1 H2) : TK H H2 := fun a xs h => y a xs (x a xs h)
theorem TK.kp {H H' : Hp} (k : Kp [] H H') : TK H H' := fun _ _ h => k.at0 h
theorem TK.new {H : Hp} {p : Addr} {o : HO} (h : H p = none) : TK H (upd H p o) := fun a xs e => by
  rw [upd_ne (ne_of_none e h)]; exact e
theorem TK.lst {H : Hp} {p : Addr} {o : HO} {ys : List V} (h : H p = some (.lst ys)) : TK H (upd H p o) := fun a xs e => by
  rw [upd_ne (ne_of e h (by intro z; cases z))]; exact e
theorem TK.box {H H' : Hp} {b r : Addr} (hb : BoxAt H b r) (k : Kp [b] H H') : TK H H' := fun a xs e => by
  obtain ⟨rs, n, h1, _⟩ := hb.ex
  exact k.at_ e (nin1 (ne_of e h1 (by intro z; cases z)))
theorem TK.new' {H H1 : Hp} {p : Addr} {o : HO} (x : TK H H1) (h : H1 p = none) : TK H (upd H1 p o) := x.trans (.new h)
theorem TK.lst' {H H1 : Hp} {p : Addr} {o : HO} {ys : List V} (x : TK H H1) (h : H1 p = some (.lst ys)) : TK H (upd H1 p o) := x.trans (.lst h)
local macro_rules | `(tactic| walk_at "tk") => `(tactic| first
  | exact TK.refl _
  | assumption
  | (apply TK.new' (h := by assumption); walk_at "tk")
  | (apply TK.lst'; (focus walk_at "tk"); (focus walk_at "hs")))
/-- a place at a value -/
def PlV (H : Hp) (v : V) (p : Pl) : Prop := ∃ a, v = .ref a ∧ H a = some (.tup p.vs)
theorem PlV.tk {H H' : Hp} {v : V} {p : Pl} (h : PlV H v p) (k : TK H H') : PlV H' v p := by
  obtain ⟨a, e, h⟩ := h
  exact ⟨a, e, k _ _ h⟩
theorem Pd.tk {H H' : Hp} {vs : List V} {t : List Pl} (h : Paired (PlV H) vs t) (k : TK H H') : Paired (PlV H') vs t := Paired.mapP h fun _ _ q => q.tk k
theorem Pd.app {α β : Type} {F : α → β → Prop} : ∀ {a c : List α} {b d : List β}, Paired F a b → Paired F c d → Paired F (a ++ c) (b ++ d)
  | _, _, _, _, .nil, h => h
  | _, _, _, _, .cons r t, h => .cons r (Pd.app t h)
theorem Pd.take {α β : Type} {F : α → β → Prop} : ∀ {a : List α} {b : List β} (n : Nat), Paired F a b → Paired F (a.take n) (b.take n)
  | _, _, 0, _ => .nil
  | _, _, _ + 1, .nil => .nil
  | _, _, n + 1, .cons r t => .cons r (Pd.take n t)
theorem Pd.drop {α β : Type} {F : α → β → Prop} : ∀ {a : List α} {b : List β} (n : Nat), Paired F a b → Paired F (a.drop n) (b.drop n)
  | _, _, 0, r => r
  | _, _, _ + 1, .nil => .nil
  | _, _, n + 1, .cons _ t => Pd.drop n t
theorem Pd.set {α β : Type} {F : α → β → Prop} {x : α} {y : β} (h : F x y) : ∀ {a : List α} {b : List β} (n : Nat), Paired F a b → Paired F (a.set n x) (b.set n y)
  | _, _, _, .nil => .nil
  | _, _, 0, .cons _ t => .cons h t
  | _, _, n + 1, .cons r t => .cons r (Pd.set h n t)
theorem Pd.get {α β : Type} {F : α → β → Prop} : ∀ {a : List α} {b : List β} {i : Nat} {x : α}, Paired F a b → a[i]? = some x → ∃ y, b[i]? = some y ∧ F x y
  | _, _, _, _, .nil, e => by simp at e
  | _, _, 0, _, .cons r _, e => by simp at e; subst e; exact ⟨_, rfl, r⟩
  | _, _, i + 1, x, .cons _ t, e => by
    obtain ⟨u, h1, h2⟩ := Pd.get (i := i) (x := x) t (by simpa using e)
    exact ⟨u, by simpa using h1, h2⟩
theorem Pd.get' {α β : Type} {F : α → β → Prop} : ∀ {a : List α} {b : List β} {i : Nat} {y : β}, Paired F a b → b[i]? = some y → ∃ x, a[i]? = some x ∧ F x y
  | _, _, _, _, .nil, e => by simp at e
  | _, _, 0, _, .cons r _, e => by simp at e; subst e; exact ⟨_, rfl, r⟩
  | _, _, i + 1, y, .cons _ t, e => by
    obtain ⟨u, h1, h2⟩ := Pd.get' (i := i) (y := y) t (by simpa using e)
    exact ⟨u, by simpa using h1, h2⟩
/-- a text at an address: a list of places -/
structure TxtAt (K : PySem.W.Frag) (H : Hp) (a : Addr) (t : List Pl) : Prop where
  ex : ∃ vs, SqL K H a vs ∧ Paired (PlV H) vs t
theorem TxtAt.kp {K : PySem.W.Frag} {H H' : Hp} {a : Addr} {t : List Pl} (h : TxtAt K H a t) (k : Kp [] H H') : TxtAt K H' a t := by
  obtain ⟨vs, h1, h2⟩ := h.ex
  exact ⟨vs, k.seq h1, Pd.tk h2 (.kp k)⟩
theorem dp_pl {K : PySem.W.Frag} {H : Hp} {v : V} {p : Pl} (h : PlV H v p) : Dp K H v p.py := by
  obtain ⟨a, rfl, h⟩ := h
  exact .tup (SqT.of h) (.cons (.str _) (.cons (.int _) .nil))
theorem dp_pls {K : PySem.W.Frag} {H : Hp} : ∀ {vs : List V} {t : List Pl}, Paired (PlV H) vs t → DpAll K H vs (t.map Pl.py)
  | _, _, .nil => .nil
  | _, _, .cons r t => .cons (dp_pl r) (dp_pls t)
theorem TxtAt.dp {K : PySem.W.Frag} {H : Hp} {a : Addr} {t : List Pl} (h : TxtAt K H a t) : Dp K H (.ref a) (pyT t) := by
  obtain ⟨vs, h1, h2⟩ := h.ex
  exact .lst h1 (dp_pls h2)
/-! ### balance -/
/-- the height behind a row, from a height; none: a return that fits no call -/
def ht : List Pl → Nat → Option Nat
  | [], n => some n
  | .let_ _ :: r, n => ht r n
  | .cal _ :: r, n => ht r (n + 1)
  | .ret _ :: _, 0 => none
  | .ret _ :: r, n + 1 => ht r n
def Bal (t : List Pl) : Prop := ht t 0 = some 0
theorem ht_app : ∀ (s t : List Pl) (n : Nat), ht (s ++ t) n = (ht s n).bind (ht t)
  | [], _, _ => rfl
  | .let_ _ :: s, t, n => ht_app s t n
  | .cal _ :: s, t, n => ht_app s t (n + 1)
  | .ret _ :: _, _, 0 => rfl
  | .ret _ :: s, t, n + 1 => ht_app s t n
/-- each place has a label of its kind -/
def LabP (x y z : Int) : Pl → Prop
  | .let_ a => 0 ≤ a ∧ a < x
  | .cal a => 0 ≤ a ∧ a < y
  | .ret a => 0 ≤ a ∧ a < z
def LabT (x y z : Int) (t : List Pl) : Prop := ∀ p ∈ t, LabP x y z p
theorem LabT.snoc {x y z : Int} {t : List Pl} {p : Pl} (h : LabT x y z t) (q : LabP x y z p) : LabT x y z (t ++ [p]) := fun r hr => by
  rcases List.mem_append.mp hr with z | z
  · exact h r z
  · have e : r = p := by simpa using z
    rw [e]; exact q
/-- a drawn text: balanced, its labels, a new list -/
def sp__law_text (K : PySem.W.Frag) : Sp := fun vs H Q _ => ∃ (b r l : Addr) (x y z m : Int), vs = [.ref b, .ref l, .int m] ∧ BoxAt H b r ∧ H l = some (.tup [.int x, .int y, .int z]) ∧ Lab x y z ∧ 0 ≤ m ∧ m ≤ 1000 ∧
  ∀ (p : Addr) (H' : Hp) (vs' : List V) (t : List Pl), H' p = some (.lst vs') → Paired (PlV H') vs' t → Bal t → LabT x y z t → (t.length : Int) ≤ m → H p = none → BoxAt H' b r → Kp [b] H H' → Q (.ref p) H'
theorem dLC : decide (V.str ("letter" : Str) = V.str "call") = false := dstrN kLC
theorem dLR : decide (V.str ("letter" : Str) = V.str "return") = false := dstrN kLR
theorem dCR : decide (V.str ("call" : Str) = V.str "return") = false := dstrN kCR
theorem dRC : decide (V.str ("return" : Str) = V.str "call") = false := dstrN fun z => kCR z.symm
theorem dCL : decide (V.str ("call" : Str) = V.str "letter") = false := dstrN fun z => kLC z.symm
theorem dRL : decide (V.str ("return" : Str) = V.str "letter") = false := dstrN fun z => kLR z.symm
def sp_law (K : PySem.W.Frag) : Sp := fun vs H Q _ => ∃ (a : Addr) (ns : List Int), vs = [.ref a] ∧ SqL K H a (ns.map V.int) ∧ ns.length ≤ 63 ∧ ∀ H', Q (.bl true) H'
theorem kind3 (c : Int) (h0 : 0 ≤ c) (h1 : c < 3) : ∃ p : Pl, p.lab = 0 ∧ atI [V.str "letter", V.str "call", V.str "return"] c = some (.str p.kind) := by
  have h : c = 0 ∨ c = 1 ∨ c = 2 := by omega
  rcases h with rfl | rfl | rfl
  · exact ⟨.let_ 0, rfl, atI_nat (j := 0) rfl⟩
  · exact ⟨.cal 0, rfl, atI_nat (j := 1) rfl⟩
  · exact ⟨.ret 0, rfl, atI_nat (j := 2) rfl⟩
/-- a row that the program itself holds: a list of its own -/
structure RowAt (H : Hp) (a : Addr) (t : List Pl) : Prop where
  ex : ∃ vs, H a = some (.lst vs) ∧ Paired (PlV H) vs t
theorem RowAt.txt {K : PySem.W.Frag} {H : Hp} {a : Addr} {t : List Pl} (h : RowAt H a t) : TxtAt K H a t := by
  obtain ⟨vs, h1, h2⟩ := h.ex
  exact ⟨vs, SqL.of h1, h2⟩
theorem RowAt.kp {H H' : Hp} {a : Addr} {t : List Pl} (h : RowAt H a t) (k : Kp [] H H') : RowAt H' a t := by
  obtain ⟨vs, h1, h2⟩ := h.ex
  exact ⟨vs, k.at0 h1, Pd.tk h2 (.kp k)⟩
theorem RowAt.box {H H' : Hp} {a b r : Addr} {t : List Pl} (h : RowAt H a t) (hb : BoxAt H b r) (k : Kp [b] H H') : RowAt H' a t := by
  obtain ⟨vs, h1, h2⟩ := h.ex
  exact ⟨vs, k.at_ h1 (hb.lstin h1), Pd.tk h2 (.box hb k)⟩
theorem tk_snoc {α : Type} {t : List α} {i : Nat} {p : α} (h : t[i]? = some p) : t.take (i + 1) = t.take i ++ [p] := by
  rw [List.take_add_one, h]; rfl
def sp_check_labels_ok (K : PySem.W.Frag) : Sp := fun vs H Q _ => ∃ (l a : Addr) (x y z : Int) (t : List Pl), vs = [.ref l, .ref a] ∧ H l = some (.tup [.int x, .int y, .int z]) ∧ TxtAt K H a t ∧ LabT x y z t ∧ ∀ H', Kp [] H H' → Q .non H'
/-! ### the fault of a row -/
def flt : List Pl → Nat → List Nat → Option (Bool × Nat)
  | [], _, st => match st.getLast? with
    | none => none
    | some j => some (false, j)
  | .let_ _ :: r, i, st => flt r (i + 1) st
  | .cal _ :: r, i, st => flt r (i + 1) (i :: st)
  | .ret _ :: _, i, [] => some (true, i)
  | .ret _ :: r, i, _ :: st => flt r (i + 1) st
def fk (b : Bool) : Str := if b then "return" else "call"
def FltV (H : Hp) (v : V) : Option (Bool × Nat) → Prop
  | none => v = .non
  | some (b, j) => ∃ p, v = .ref p ∧ H p = some (.tup [.str (fk b), .int (j : Int)])
def fltPy : Option (Bool × Nat) → PyData
  | none => .none
  | some (b, j) => .tuple [.str (fk b), .int (j : Int)]
def natsV (st : List Nat) : List V := st.map fun (j : Nat) => V.int (j : Int)
theorem FltV.dp {K : PySem.W.Frag} {H : Hp} {v : V} {f : Option (Bool × Nat)} (h : FltV H v f) : Dp K H v (fltPy f) := by
  cases f with
  | none =>
    have e : v = .non := h
    rw [e]; exact .non
  | some bj =>
    obtain ⟨p, rfl, h⟩ := h
    exact .tup (SqT.of h) (.cons (.str _) (.cons (.int _) .nil))
theorem FltV.kp {H H' : Hp} {v : V} {f : Option (Bool × Nat)} (h : FltV H v f) (k : Kp [] H H') : FltV H' v f := by
  cases f with
  | none => exact h
  | some bj =>
    obtain ⟨p, e, h⟩ := h
    exact ⟨p, e, k.at0 h⟩
/-- a row's fault, the row as it was -/
def sp_fault_of (K : PySem.W.Frag) : Sp := fun vs H Q _ => ∃ (a : Addr) (t : List Pl), vs = [.ref a] ∧ TxtAt K H a t ∧ t.length ≤ 1000 ∧ ∀ (v : V) (H' : Hp), FltV H' v (flt t 0 []) → Kp [] H H' → Q v H'
def sp_is_balanced (K : PySem.W.Frag) : Sp := fun vs H Q _ => ∃ (a : Addr) (t : List Pl), vs = [.ref a] ∧ TxtAt K H a t ∧ t.length ≤ 1000 ∧ ∀ (H' : Hp), Kp [] H H' → Q (.bl (flt t 0 []).isNone) H'
/-! ### .. by heights -/
def dl : Pl → Int
  | .let_ _ => 0 | .cal _ => 1 | .ret _ => -1
def stk : List Pl → Nat → List Nat → Option (List Nat)
  | [], _, st => some st
  | .let_ _ :: r, i, st => stk r (i + 1) st
  | .cal _ :: r, i, st => stk r (i + 1) (i :: st)
  | .ret _ :: _, _, [] => none
  | .ret _ :: r, i, _ :: st => stk r (i + 1) st
def clI : List Pl → Int → Bool
  | [], _ => false
  | p :: r, h => decide (h + dl p = 0) || clI r (h + dl p)
theorem stk_app : ∀ (s t : List Pl) (i : Nat) (st : List Nat), stk (s ++ t) i st = (stk s i st).bind (stk t (i + s.length))
  | [], _, _, _ => rfl
  | .let_ _ :: s, t, i, st => by
    show stk (s ++ t) (i + 1) st = _
    rw [stk_app s t (i + 1) st, List.length_cons, show i + 1 + s.length = i + (s.length + 1) by omega]; rfl
  | .cal _ :: s, t, i, st => by
    show stk (s ++ t) (i + 1) (i :: st) = _
    rw [stk_app s t (i + 1) (i :: st), List.length_cons, show i + 1 + s.length = i + (s.length + 1) by omega]; rfl
  | .ret _ :: _, _, _, [] => rfl
  | .ret _ :: s, t, i, _ :: st => by
    show stk (s ++ t) (i + 1) st = _
    rw [stk_app s t (i + 1) st, List.length_cons, show i + 1 + s.length = i + (s.length + 1) by omega]; rfl
/-- what is on the stack was there or comes behind i, and is a call -/
theorem stk_mem : ∀ (r : List Pl) (i : Nat) (st st' : List Nat), stk r i st = some st' → ∀ j ∈ st', j ∈ st ∨ (i ≤ j ∧ j < i + r.length ∧ ∃ a, r[j - i]? = some (.cal a))
  | [], i, st, st', h, j, hj => by
    cases h
    exact .inl hj
  | .let_ _ :: r, i, st, st', h, j, hj => by
    rcases stk_mem r (i + 1) st st' h j hj with z | ⟨z1, z2, a, z3⟩
    · exact .inl z
    · refine .inr ⟨by omega, by simp; omega, a, ?_⟩
      rw [show j - i = (j - (i + 1)) + 1 by omega]; simpa using z3
  | .cal c :: r, i, st, st', h, j, hj => by
    rcases stk_mem r (i + 1) (i :: st) st' h j hj with z | ⟨z1, z2, a, z3⟩
    · rcases List.mem_cons.mp z with z | z
      · subst z
        exact .inr ⟨Nat.le_refl _, by simp, c, by simp⟩
      · exact .inl z
    · refine .inr ⟨by omega, by simp; omega, a, ?_⟩
      rw [show j - i = (j - (i + 1)) + 1 by omega]; simpa using z3
  | .ret _ :: r, i, [], st', h, j, hj => by cases h
  | .ret _ :: r, i, x :: st, st', h, j, hj => by
    rcases stk_mem r (i + 1) st st' h j hj with z | ⟨z1, z2, a, z3⟩
    · exact .inl (List.mem_cons_of_mem _ z)
    · refine .inr ⟨by omega, by simp; omega, a, ?_⟩
      rw [show j - i = (j - (i + 1)) + 1 by omega]; simpa using z3
theorem stk_open : ∀ (r : List Pl) (i : Nat) (X S : List Nat) (a : Nat) (st : List Nat), stk r i (X ++ a :: S) = some st → clI r (X.length + 1 : Nat) = false → ∃ Y, st = Y ++ a :: S
  | [], i, X, S, a, st, h, _ => by
    cases h
    exact ⟨X, rfl⟩
  | .let_ _ :: r, i, X, S, a, st, h, hc => by
    have hc' : clI r (X.length + 1 : Nat) = false := by
      simp only [clI, dl, Bool.or_eq_false_iff] at hc
      have := hc.2
      rwa [Int.add_zero] at this
    exact stk_open r (i + 1) X S a st h hc'
  | .cal _ :: r, i, X, S, a, st, h, hc => by
    refine stk_open r (i + 1) (i :: X) S a st h ?_
    simp only [clI, dl, Bool.or_eq_false_iff] at hc
    have := hc.2
    rwa [show (((X.length + 1 : Nat) : Int) + 1) = (((i :: X).length + 1 : Nat) : Int) by simp] at this
  | .ret _ :: r, i, [], S, a, st, h, hc => by simp [clI, dl] at hc
  | .ret _ :: r, i, x :: X, S, a, st, h, hc => by
    refine stk_open r (i + 1) X S a st h ?_
    simp only [clI, dl, Bool.or_eq_false_iff] at hc
    have := hc.2
    rwa [show ((((x :: X).length + 1 : Nat) : Int) + -1) = ((X.length + 1 : Nat) : Int) by simp; omega] at this
theorem stk_closed : ∀ (r : List Pl) (i : Nat) (X S : List Nat) (a : Nat) (st : List Nat), stk r i (X ++ a :: S) = some st → clI r (X.length + 1 : Nat) = true → a < i → a ∉ S → a ∉ st
  | [], i, X, S, a, st, h, hc, _, _ => by simp [clI] at hc
  | .let_ _ :: r, i, X, S, a, st, h, hc, hi, hS => by
    refine stk_closed r (i + 1) X S a st h ?_ (by omega) hS
    simp only [clI, dl, Bool.or_eq_true, decide_eq_true_eq, Int.add_zero] at hc
    rcases hc with z | z
    · exfalso; clear h hS hi; omega
    · exact z
  | .cal _ :: r, i, X, S, a, st, h, hc, hi, hS => by
    refine stk_closed r (i + 1) (i :: X) S a st h ?_ (by omega) hS
    simp only [clI, dl, Bool.or_eq_true, decide_eq_true_eq] at hc
    rcases hc with z | z
    · have z' := of_decide_eq_true z
      exfalso; clear h hS hi z; omega
    · rwa [show (((X.length + 1 : Nat) : Int) + 1) = (((i :: X).length + 1 : Nat) : Int) by simp] at z
  | .ret _ :: r, i, [], S, a, st, h, hc, hi, hS => by
    intro hm
    rcases stk_mem r (i + 1) S st h a hm with z | ⟨z1, _⟩
    · exact hS z
    · omega
  | .ret _ :: r, i, x :: X, S, a, st, h, hc, hi, hS => by
    refine stk_closed r (i + 1) X S a st h ?_ (by omega) hS
    simp only [clI, dl, Bool.or_eq_true, decide_eq_true_eq] at hc
    rcases hc with z | z
    · have z' := of_decide_eq_true z
      exfalso; clear h hS hi z; simp only [List.length_cons] at z'; omega
    · rwa [show ((((x :: X).length + 1 : Nat) : Int) + -1) = ((X.length + 1 : Nat) : Int) by simp; omega] at z
theorem stk_split {t : List Pl} {st : List Nat} {a : Nat} {c : Int} (h : stk t 0 [] = some st) (ha : t[a]? = some (.cal c)) : ∃ S, stk (t.drop (a + 1)) (a + 1) (a :: S) = some st ∧ ∀ j ∈ S, j < a := by
  have hlt : a < t.length := (List.getElem?_eq_some_iff.mp ha).1
  have e1 : t.drop a = .cal c :: t.drop (a + 1) := by
    rw [List.drop_eq_getElem_cons hlt]
    rw [List.getElem?_eq_getElem hlt] at ha
    rw [Option.some.inj ha]
  have e2 := stk_app (t.take a) (t.drop a) 0 []
  rw [List.take_append_drop, h, e1] at e2
  cases e3 : stk (t.take a) 0 [] with
  | none => rw [e3] at e2; cases e2
  | some S =>
    rw [e3] at e2
    refine ⟨S, ?_, fun j hj => ?_⟩
    · have e4 : 0 + (t.take a).length = a := by rw [List.length_take]; omega
      rw [e4] at e2
      exact e2.symm
    · rcases stk_mem _ _ _ _ e3 j hj with z | ⟨_, z, _⟩
      · cases z
      · rw [List.length_take] at z; omega
theorem bottom_of {t : List Pl} {st : List Nat} {a : Nat} {c : Int} (h : stk t 0 [] = some st) (ha : t[a]? = some (.cal c)) (hc : clI (t.drop (a + 1)) 1 = false) (hm : ∀ j ∈ st, a ≤ j) : st.getLast? = some a := by
  obtain ⟨S, e, hS⟩ := stk_split h ha
  obtain ⟨Y, rfl⟩ := stk_open _ _ [] S a st e hc
  have hn : S = [] := by
    cases S with
    | nil => rfl
    | cons j S =>
      have h1 := hm j (by simp)
      have h2 := hS j (by simp)
      omega
  subst hn
  simp
theorem gone_of {t : List Pl} {st : List Nat} {a : Nat} {c : Int} (h : stk t 0 [] = some st) (ha : t[a]? = some (.cal c)) (hc : clI (t.drop (a + 1)) 1 = true) : a ∉ st := by
  obtain ⟨S, e, hS⟩ := stk_split h ha
  exact stk_closed _ _ [] S a st e hc (by omega) fun z => absurd (hS a z) (by omega)
theorem notcall_of {t : List Pl} {st : List Nat} {a : Nat} (h : stk t 0 [] = some st) (ha : ∀ c, t[a]? ≠ some (.cal c)) : a ∉ st := fun hm => by
  rcases stk_mem _ _ _ _ h a hm with z | ⟨_, _, c, z⟩
  · cases z
  · exact ha c (by simpa using z)
/-- the fault, worked by heights -/
def sp__law_due (K : PySem.W.Frag) : Sp := sp_fault_of K
theorem flt_stk : ∀ (r : List Pl) (i : Nat) (st st' : List Nat), stk r i st = some st' → flt r i st = match st'.getLast? with
    | none => none
    | some j => some (false, j)
  | [], i, st, st', h => by cases h; rfl
  | .let_ _ :: r, i, st, st', h => flt_stk r (i + 1) st st' h
  | .cal _ :: r, i, st, st', h => flt_stk r (i + 1) (i :: st) st' h
  | .ret _ :: _, _, [], st', h => by cases h
  | .ret _ :: r, i, _ :: st, st', h => flt_stk r (i + 1) st st' h
theorem drop_at {t : List Pl} {i : Nat} {p : Pl} (h : t[i]? = some p) : t.drop i = p :: t.drop (i + 1) := by
  have hlt : i < t.length := (List.getElem?_eq_some_iff.mp h).1
  rw [List.drop_eq_getElem_cons hlt]
  rw [List.getElem?_eq_getElem hlt] at h
  rw [Option.some.inj h]
theorem dl_of (p : Pl) (h : Int) : h + (if decide (V.str p.kind = V.str "call") = true then (1 : Int) else 0) - (if decide (V.str p.kind = V.str "return") = true then (1 : Int) else 0) = h + dl p := by
  cases p with
  | let_ a => rw [show decide (V.str (Pl.let_ a).kind = V.str "call") = false from dLC, show decide (V.str (Pl.let_ a).kind = V.str "return") = false from dLR]; simp [dl]
  | cal a => rw [show decide (V.str (Pl.cal a).kind = V.str "call") = true from dstrY, show decide (V.str (Pl.cal a).kind = V.str "return") = false from dCR]; simp [dl]
  | ret a => rw [show decide (V.str (Pl.ret a).kind = V.str "call") = false from dRC, show decide (V.str (Pl.ret a).kind = V.str "return") = true from dstrY]; simp [dl]; omega
theorem vs0 (p : Pl) : atI p.vs 0 = some (.str p.kind) := atI_nat (j := 0) rfl
theorem vs1 (p : Pl) : atI p.vs 1 = some (.int p.lab) := atI_nat (j := 1) rfl
theorem at0n {vs : List V} {i : Nat} {v : V} (h : vs[i]? = some v) : atI vs (0 + (i : Int)) = some v := by
  rw [Int.zero_add]; exact atI_nat h
theorem ht_stk : ∀ (t : List Pl) (i : Nat) (st : List Nat), ht t st.length = (stk t i st).map List.length
  | [], _, _ => rfl
  | .let_ _ :: r, i, st => ht_stk r (i + 1) st
  | .cal _ :: r, i, st => ht_stk r (i + 1) (i :: st)
  | .ret _ :: _, _, [] => rfl
  | .ret _ :: r, i, _ :: st => ht_stk r (i + 1) st
theorem Bal.flt {t : List Pl} (h : Bal t) : flt t 0 [] = none := by
  have e := ht_stk t 0 []
  rw [show ht t ([] : List Nat).length = some 0 from h] at e
  cases e2 : stk t 0 [] with
  | none => rw [e2] at e; cases e
  | some st =>
    rw [e2] at e
    have e3 : st.length = 0 := (Option.some.inj e).symm
    have e4 : st = [] := List.eq_nil_of_length_eq_zero e3
    rw [flt_stk _ _ _ _ e2, e4]
    rfl
theorem fltPy_shaped (f : Option (Bool × Nat)) : SeqAt.shaped (fltPy f) = true := by
  cases f with
  | none => decide +kernel
  | some bj =>
    obtain ⟨b, j⟩ := bj
    unfold SeqAt.shaped fltPy
    have h0 : PyData.strOk (fk b) = true := by cases b <;> (unfold fk; decide +kernel)
    have h1 : (PyData.tuple [.str (fk b), .int (j : Int)]).canLay0 = true := by simp [PyData.canLay0, PyData.canLayAll0, h0]
    have h2 : (PyData.tuple [.str (fk b), .int (j : Int)]).depth ≤ 64 := by simp [PyData.depth, PyData.depthAll]
    rw [h1, decide_eq_true h2]
    rfl
theorem eqv_self {d : PyData} (h : SeqAt.shaped d = true) : PyData.eqv d d = true := SeqAt.eqv_refl d (SeqAt.canLay_of_shaped h)
theorem FltV.isN {H : Hp} {v : V} {f : Option (Bool × Nat)} (h : FltV H v f) : decide (v = V.non) = f.isNone := by
  cases f with
  | none =>
    have e : v = .non := h
    rw [e]; rfl
  | some bj =>
    obtain ⟨p, rfl, _⟩ := h
    rfl
/-! ### constants of the text's modules -/
structure IntC (mg : Str → Option Value) (x : Str) (i : Int) : Prop where
  ex : ∃ t, mg x = some (.int i t)
structure StrC (mg : Str → Option Value) (x s : Str) : Prop where
  ex : ∃ t, mg x = some (.str s t)
theorem IntC.pe {X : Cx} {x : Str} {i : Int} {pos : Pos} (c : IntC X.mg x i) (hg : Gl X x) (hd : (x == ("__debug__" : Str)) = false := by decide) : PE X (.Name x pos) (tC (.int i)) := by
  obtain ⟨t, h⟩ := c.ex
  exact pe_glob hg h ⟨_, rfl⟩ hd
theorem StrC.pe {X : Cx} {x s : Str} {pos : Pos} (c : StrC X.mg x s) (hg : Gl X x) (hd : (x == ("__debug__" : Str)) = false := by decide) : PE X (.Name x pos) (tC (.str s)) := by
  obtain ⟨t, h⟩ := c.ex
  exact pe_glob hg h ⟨_, rfl⟩ hd
/-- a tuple of texts -/
structure TupF (K : PySem.W.Frag) (d : Addr) (ss : List Str) : Prop where
  ex : ∃ (o : Obj) (its : Array Value) (n : Nat), K.lookup d = some o ∧ o.cls = .type "tuple" ∧ o.dict = none ∧ o.data = .seq its n ∧ its.size ≤ sizeLine ∧ Vals (ss.map V.str) its.toList
theorem TupF.sq {K : PySem.W.Frag} {d : Addr} {ss : List Str} (h : TupF K d ss) (H : Hp) : SqT K H d (ss.map V.str) := by
  obtain ⟨o, its, n, h1, h2, _, h4, h5, h6⟩ := h.ex
  exact .inr ⟨o, its, n, h1, h2, h4, h5, h6⟩
theorem TupF.ty {K : PySem.W.Frag} {d : Addr} {ss : List Str} (h : TupF K d ss) (H : Hp) : tyV K "tuple" (.ref d) H := by
  obtain ⟨o, its, n, h1, h2, h3, _⟩ := h.ex
  exact .inr (.inl ⟨rfl, o, h1, h2, h3⟩)
structure TupC (K : PySem.W.Frag) (mg : Str → Option Value) (x : Str) (ss : List Str) : Prop where
  ex : ∃ d, mg x = some (.ref d) ∧ TupF K d ss
/-- a dict from texts to texts -/
structure DicF (K : PySem.W.Frag) (w : World) (d : Addr) (kvs : List (Str × Str)) : Prop where
  ex : ∃ es n, KDict K w d es n
  get : ∀ k v, (k, v) ∈ kvs → ∃ u, PySem.W.nsIn K d k = some (some u) ∧ RelV (.str v) u
theorem DicF.at_ {K : PySem.W.Frag} {w : World} {d : Addr} {kvs : List (Str × Str)} (h : DicF K w d kvs) {k v : Str} (m : (k, v) ∈ kvs) : KDct K w d k (.str v) := by
  obtain ⟨es, n, D⟩ := h.ex
  obtain ⟨u, e, r⟩ := h.get k v m
  exact ⟨es, n, u, D.at_, D.lit, e, r⟩
structure DicC (K : PySem.W.Frag) (w : World) (mg : Str → Option Value) (x : Str) (kvs : List (Str × Str)) : Prop where
  ex : ∃ d, mg x = some (.ref d) ∧ DicF K w d kvs
/-- x not in d, x in d -/
def rNotInKD (K : PySem.W.Frag) : R2 := fun x y H Q => ∃ (z : Str) (d : Addr) (r : Option Value), x = .str z ∧ y = .ref d ∧ PySem.W.nsIn K d z = some r ∧ Q (.bl (!r.isSome)) H
theorem op_notInKD {X : Cx} {d : Addr} {kvs : List (Str × Str)} (D : DicF X.K X.w d kvs) : OpR X (compareOp .NotIn) (fun x y H Q => ∃ (z : Str) (r : Option Value), x = .str z ∧ y = .ref d ∧ PySem.W.nsIn X.K d z = some r ∧ Q (.bl (!r.isSome)) H) := by
  obtain ⟨es, n, D⟩ := D.ex
  exact op_notIn_kd D
section
variable {X : Cx} {e : Expr} {te : TE} {pos : Pos}
theorem pe_fmtS (he : PE X e te) : PE X (.FormattedValue e (-1) none pos) (fun σ H Q => te σ H fun x H1 => ∃ y : Str, x = .str y ∧ y.length ≤ sizeLine ∧ Q (.str y) H1) :=
  ⟨fun pins s σ H Q I h => wpAny_FormattedValue_plain (thn (he.run pins s σ H _ I h) fun v s1 ⟨x, H1, I1, r1, y, ex, hz, q⟩ => by
    subst ex
    obtain ⟨t, rfl⟩ := r1
    exact wpAny_formatField_str ⟨.str y, H1, I1, ⟨t, rfl⟩, q⟩ ⟨.str y, H1, I1.tok _, ⟨_, rfl⟩, q⟩ hz)⟩
theorem pe_fmtI (he : PE X e te) : PE X (.FormattedValue e (-1) none pos) (fun σ H Q => te σ H fun x H1 => ∃ i : Int, x = .int i ∧ i.natAbs.log2 < 1920 ∧ Q (.str (toString i)) H1) :=
  ⟨fun pins s σ H Q I h => wpAny_FormattedValue_plain (thn (he.run pins s σ H _ I h) fun v s1 ⟨x, H1, I1, r1, i, ex, hz, q⟩ => by
    subst ex
    obtain ⟨t, rfl⟩ := r1
    exact wpAny_formatField_int hz ⟨.str (toString i), H1, I1.tok _, ⟨_, rfl⟩, q⟩)⟩
end
def tJoin (ts : List TE) : TE := fun σ H Q => tJs ts Str.empty σ H fun out H1 => Q (.str out) H1
theorem pe_joinedT {X : Cx} {v1 v2 : Expr} {rest : List Expr} {ts : List TE} {pos : Pos} (h : PJ X (v1 :: v2 :: rest) ts) : PE X (.JoinedStr (v1 :: v2 :: rest) pos) (tJoin ts) := pe_joined h
/-! ### written places -/
def sc : Pl → Nat
  | .let_ _ => 108 | .cal _ => 99 | .ret _ => 114
def sgn (p : Pl) : Str := ⟨#[sc p]⟩
/-- the word of a place with a label of one digit -/
def wd (p : Pl) : Str := ⟨#[sc p, 48 + p.lab.toNat]⟩
def Dig (p : Pl) : Prop := p.lab = 0 ∨ p.lab = 1 ∨ p.lab = 2
theorem LabP.dig {x y z : Int} {p : Pl} (h : LabP x y z p) (hL : Lab x y z) : Dig p := by
  obtain ⟨h1, h2, h3, h4, h5, h6⟩ := hL
  unfold Dig
  cases p with
  | let_ a => have h : 0 ≤ a ∧ a < x := h; show a = 0 ∨ a = 1 ∨ a = 2; omega
  | cal a => have h : 0 ≤ a ∧ a < y := h; show a = 0 ∨ a = 1 ∨ a = 2; omega
  | ret a => have h : 0 ≤ a ∧ a < z := h; show a = 0 ∨ a = 1 ∨ a = 2; omega
theorem dig_cases {P : Pl → Prop} {p : Pl} (h : Dig p) (l : ∀ i : Int, i = 0 ∨ i = 1 ∨ i = 2 → P (.let_ i) ∧ P (.cal i) ∧ P (.ret i)) : P p := by
  cases p with
  | let_ a => exact (l a h).1
  | cal a => exact (l a h).2.1
  | ret a => exact (l a h).2.2
theorem wd_fmt {p : Pl} (h : Dig p) : (Str.empty ++ sgn p ++ ((toString p.lab : String) : Str)) = wd p :=
  dig_cases (P := fun p => (Str.empty ++ sgn p ++ ((toString p.lab : String) : Str)) = wd p) h fun i hi => by
    rcases hi with rfl | rfl | rfl <;> exact ⟨by decide +kernel, by decide +kernel, by decide +kernel⟩
theorem wd_add {p : Pl} (h : Dig p) : (sgn p ++ ((toString p.lab : String) : Str)) = wd p :=
  dig_cases (P := fun p => (sgn p ++ ((toString p.lab : String) : Str)) = wd p) h fun i hi => by
    rcases hi with rfl | rfl | rfl <;> exact ⟨by decide +kernel, by decide +kernel, by decide +kernel⟩
theorem wd_len (p : Pl) : (wd p).length = 2 := rfl
theorem sgn_let (a : Int) : ("l" : Str) = sgn (.let_ a) := by show _ = (⟨#[108]⟩ : Str); decide +kernel
theorem sgn_cal (a : Int) : ("c" : Str) = sgn (.cal a) := by show _ = (⟨#[99]⟩ : Str); decide +kernel
theorem sgn_ret (a : Int) : ("r" : Str) = sgn (.ret a) := by show _ = (⟨#[114]⟩ : Str); decide +kernel
theorem lab_log {p : Pl} (h : Dig p) : p.lab.natAbs.log2 < 1920 := by
  rcases h with h | h | h <;> rw [h] <;> decide
theorem fmt_len {p : Pl} (h : Dig p) : (Str.empty ++ sgn p).length ≤ sizeLine ∧ (Str.empty ++ sgn p ++ ((toString p.lab : String) : Str)).length ≤ sizeLine :=
  ⟨Nat.le_trans (show (Str.empty ++ sgn p).length ≤ 100 by
    cases p with
    | let_ a => show (Str.empty ++ (⟨#[108]⟩ : Str)).length ≤ 100; decide +kernel
    | cal a => show (Str.empty ++ (⟨#[99]⟩ : Str)).length ≤ 100; decide +kernel
    | ret a => show (Str.empty ++ (⟨#[114]⟩ : Str)).length ≤ 100; decide +kernel) (by decide), by rw [wd_fmt h]; show 2 ≤ sizeLine; decide⟩
theorem add_len {p : Pl} (h : Dig p) : (sgn p).length + ((toString p.lab : String) : Str).length ≤ sizeLine :=
  Nat.le_trans (show _ ≤ 100 from dig_cases (P := fun p => (sgn p).length + ((toString p.lab : String) : Str).length ≤ 100) h fun i hi => by
    rcases hi with rfl | rfl | rfl <;> exact ⟨by decide +kernel, by decide +kernel, by decide +kernel⟩) (by decide)
theorem wd_int {p : Pl} (h : Dig p) : PySem.intText? (⟨#[48 + p.lab.toNat]⟩ : Str) = some p.lab := by
  rcases h with h | h | h <;> rw [h] <;> decide +kernel
theorem wd_digit {p : Pl} (h : Dig p) : decide ((48 + p.lab.toNat) ∈ ("0123456789" : Str).cps.toList) = true := by
  rcases h with h | h | h <;> rw [h] <;> decide +kernel
theorem wd_sp {p : Pl} (h : Dig p) : 32 ∉ TL.tl (wd p) := by
  show 32 ∉ [sc p, 48 + p.lab.toNat]
  intro z
  rcases List.mem_cons.mp z with z | z
  · cases p <;> cases z
  · have := List.mem_singleton.mp z
    omega
theorem join_split {t : List Pl} (ht : t ≠ []) (h : ∀ p ∈ t, Dig p) : Txt.split (Txt.join " " (t.map wd)) " " = t.map wd := by
  refine TL.split_join (s := 32) (S := []) (by decide +kernel) (by decide +kernel) (by simpa using ht) ?_
  intro w hw
  obtain ⟨p, hp, rfl⟩ := List.mem_map.mp hw
  exact wd_sp (h p hp)
theorem joinL_len : ∀ (t : List Pl), (TL.joinL [32] (t.map fun p => TL.tl (wd p))).length ≤ 3 * t.length
  | [] => Nat.le_refl _
  | [p] => by
    show (TL.tl (wd p)).length ≤ 3
    show 2 ≤ 3
    decide
  | p :: q :: t => by
    have ih := joinL_len (q :: t)
    show (TL.tl (wd p) ++ [32] ++ TL.joinL [32] ((q :: t).map fun p => TL.tl (wd p))).length ≤ _
    rw [List.length_append, List.length_append]
    have h2 : (TL.tl (wd p)).length = 2 := rfl
    simp only [List.length_cons, List.length_nil] at *
    omega
theorem join_len (t : List Pl) : (Txt.join " " (t.map wd)).length ≤ 3 * t.length := by
  have e := TL.tl_join " " (t.map wd)
  have h := joinL_len t
  rw [TL.join_eq]
  rw [List.map_map] at e
  have e2 : TL.tl (" " : Str) = [32] := by decide +kernel
  rw [e2] at e
  have e3 : (TL.tl (Str.join " " (t.map wd))).length = (Str.join " " (t.map wd)).length := by
    unfold TL.tl Str.length
    exact Array.length_toList
  rw [← e3, e]
  exact h
theorem join_nil : Txt.join " " (([] : List Pl).map wd) = ("" : Str) := by decide +kernel
theorem join_ne {t : List Pl} (ht : t ≠ []) (h : ∀ p ∈ t, Dig p) : ¬ Txt.join " " (t.map wd) = ("" : Str) := by
  intro e
  have h2 := join_split ht h
  rw [e] at h2
  have h3 : Txt.split "" " " = [("" : Str)] := by decide +kernel
  rw [h3] at h2
  cases t with
  | nil => exact ht rfl
  | cons p t =>
    have h4 : ("" : Str) = wd p := (List.cons.inj h2).1
    have h5 : ("" : Str).length = (wd p).length := by rw [h4]
    rw [wd_len] at h5
    exact absurd h5 (by decide +kernel)
theorem wd_sum (t : List Pl) : ((t.map wd).map (·.length)).sum = 2 * t.length := by
  induction t with
  | nil => rfl
  | cons p t ih =>
    simp only [List.map_cons, List.sum_cons, List.length_cons, wd_len] at *
    omega
/-! the defs' promises -/
def bnd (x y z : Int) : Pl → Int
  | .let_ _ => x | .cal _ => y | .ret _ => z
def sp_has_label : Sp := fun vs H Q _ => ∃ (l a : Addr) (x y z : Int) (p : Pl), vs = [.ref l, .ref a] ∧ H l = some (.tup [.int x, .int y, .int z]) ∧ H a = some (.tup p.vs) ∧ Q (.bl (decide (0 ≤ p.lab) && decide (p.lab < bnd x y z p))) H
theorem LabP.has {x y z : Int} {p : Pl} (h : LabP x y z p) : (decide (0 ≤ p.lab) && decide (p.lab < bnd x y z p)) = true := by
  cases p with
  | let_ a => have h : 0 ≤ a ∧ a < x := h; simp [Pl.lab, bnd, h.1, h.2]
  | cal a => have h : 0 ≤ a ∧ a < y := h; simp [Pl.lab, bnd, h.1, h.2]
  | ret a => have h : 0 ≤ a ∧ a < z := h; simp [Pl.lab, bnd, h.1, h.2]
/-- a text that is one -/
def sp_check_ok (K : PySem.W.Frag) : Sp := fun vs H Q _ => ∃ (l a : Addr) (x y z : Int) (t : List Pl), vs = [.ref l, .ref a] ∧ H l = some (.tup [.int x, .int y, .int z]) ∧ TxtAt K H a t ∧ LabT x y z t ∧ Bal t ∧ t.length ≤ 200 ∧ ∀ H', Kp [] H H' → Q .non H'
def sp_format_text (K : PySem.W.Frag) : Sp := fun vs H Q _ => ∃ (a : Addr) (t : List Pl), vs = [.ref a] ∧ TxtAt K H a t ∧ (∀ p ∈ t, Dig p) ∧ t.length ≤ 1000 ∧ ∀ H', Kp [] H H' → Q (.str (Txt.join " " (t.map wd))) H'
def sp__words_of : Sp := fun vs H Q _ => ∃ (t : List Pl), vs = [.str (Txt.join " " (t.map wd))] ∧ (∀ p ∈ t, Dig p) ∧ t.length ≤ 1000 ∧ ∀ (p : Addr) (H' : Hp), H p = none → H' p = some (.lst ((t.map wd).map V.str)) → Kp [] H H' → Q (.ref p) H'
def sp__place_ok : Sp := fun vs H Q _ => ∃ (l : Addr) (x y z : Int) (p : Pl), vs = [.ref l, .str (wd p)] ∧ H l = some (.tup [.int x, .int y, .int z]) ∧ Lab x y z ∧ LabP x y z p ∧ ∀ (a : Addr) (H' : Hp), H' a = some (.tup p.vs) → Kp [] H H' → Q (.ref a) H'
def sp_parse_ok : Sp := fun vs H Q _ => ∃ (l : Addr) (x y z : Int) (t : List Pl), vs = [.ref l, .str (Txt.join " " (t.map wd))] ∧ H l = some (.tup [.int x, .int y, .int z]) ∧ Lab x y z ∧ LabT x y z t ∧ Bal t ∧ t.length ≤ 200 ∧ ∀ (p : Addr) (H' : Hp), RowAt H' p t → Kp [] H H' → Q (.ref p) H'
def kinds : List Str := ["letter", "call", "return"]
def kidx : Pl → Nat
  | .let_ _ => 0 | .cal _ => 1 | .ret _ => 2
theorem kidx_at (p : Pl) : kinds[kidx p]? = some p.kind := by cases p <;> rfl
theorem kidx_first (p : Pl) : ∀ m, m < kidx p → kinds[m]? ≠ some p.kind := by
  intro m hm
  cases p with
  | let_ a => exact absurd hm (Nat.not_lt_zero m)
  | cal a =>
    have e : m = 0 := by have h : m < 1 := hm; omega
    subst e
    intro z
    exact kLC (Option.some.inj z)
  | ret a =>
    have h : m < 2 := hm
    rcases (show m = 0 ∨ m = 1 by omega) with e | e
    · subst e; intro z; exact kLR (Option.some.inj z)
    · subst e; intro z; exact kCR (Option.some.inj z)
theorem kidx_bnd (x y z : Int) (p : Pl) : atI [V.int x, V.int y, V.int z] ((kidx p : Nat) : Int) = some (.int (bnd x y z p)) := by
  cases p with
  | let_ a => exact atI_nat (j := 0) rfl
  | cal a => exact atI_nat (j := 1) rfl
  | ret a => exact atI_nat (j := 2) rfl
def marksD : List (Key × V) := [(.inr "letter", .str "l"), (.inr "call", .str "c"), (.inr "return", .str "r")]
theorem marks_merge : mergeK [] marksD = marksD := by decide +kernel
theorem marks_get (p : Pl) : valV marksD (.inr p.kind) = some (.str (sgn p)) := by
  cases p with
  | let_ a => show valV marksD (.inr "letter") = some (.str ⟨#[108]⟩); decide +kernel
  | cal a => show valV marksD (.inr "call") = some (.str ⟨#[99]⟩); decide +kernel
  | ret a => show valV marksD (.inr "return") = some (.str ⟨#[114]⟩); decide +kernel
/-! ### rows that are no texts -/
def hasP (x y z : Int) (p : Pl) : Bool := decide (0 ≤ p.lab) && decide (p.lab < bnd x y z p)
/-- the first place without a label -/
def BadAt (x y z : Int) (t : List Pl) (i : Nat) : Prop := (∃ p, t[i]? = some p ∧ hasP x y z p = false) ∧ ∀ (j : Nat) (p : Pl), j < i → t[j]? = some p → hasP x y z p = true
def AllHas (x y z : Int) (t : List Pl) : Prop := ∀ p ∈ t, hasP x y z p = true
def xdI (f : Str) (n : Nat) : HO := .xd [(f, .int (n : Int))]
/-- what check_text does -/
def sp_check (K : PySem.W.Frag) (mg : Str → Option Value) : Sp := fun vs H Q E => ∃ (l a : Addr) (x y z : Int) (t : List Pl), vs = [.ref l, .ref a] ∧ H l = some (.tup [.int x, .int y, .int z]) ∧ TxtAt K H a t ∧ t.length ≤ 250 ∧
  (∀ (i : Nat) (d : Addr) (H' : Hp), i < t.length → BadAt x y z t i → H d = none → H' d = some (xdI "number" i) → Kp [] H H' → E (.ref (clsA mg "InvalidPlace")) (some d) H') ∧
  (∀ (b : Bool) (n : Nat) (d : Addr) (H' : Hp), AllHas x y z t → flt t 0 [] = some (b, n) → H d = none → H' d = some (xdI "place" n) → Kp [] H H' → E (.ref (clsA mg "UnbalancedText")) (some d) H') ∧
  (∀ H', AllHas x y z t → flt t 0 [] = none → 200 < t.length → Kp [] H H' → E (.ref (clsA mg "TextTooLong")) none H') ∧
  (∀ H', AllHas x y z t → flt t 0 [] = none → t.length ≤ 200 → Kp [] H H' → Q .non H')
theorem flt_lt : ∀ (r : List Pl) (i : Nat) (st : List Nat) (b : Bool) (n : Nat), (∀ j ∈ st, j < i) → flt r i st = some (b, n) → n < i + r.length
  | [], i, st, b, n, hs, h => by
    unfold flt at h
    cases e : st.getLast? with
    | none => rw [e] at h; cases h
    | some j =>
      rw [e] at h
      cases h
      have := hs _ (List.mem_of_getLast? e)
      simpa using this
  | .let_ _ :: r, i, st, b, n, hs, h => by
    have := flt_lt r (i + 1) st b n (fun j hj => Nat.lt_succ_of_lt (hs j hj)) h
    simp only [List.length_cons]; omega
  | .cal _ :: r, i, st, b, n, hs, h => by
    have := flt_lt r (i + 1) (i :: st) b n (fun j hj => by
      rcases List.mem_cons.mp hj with z | z
      · omega
      · exact Nat.lt_succ_of_lt (hs j z)) h
    simp only [List.length_cons]; omega
  | .ret _ :: r, i, [], b, n, hs, h => by
    have h : some (true, i) = some (b, n) := h
    cases h
    simp only [List.length_cons]; omega
  | .ret _ :: r, i, x :: st, b, n, hs, h => by
    have := flt_lt r (i + 1) st b n (fun j hj => Nat.lt_succ_of_lt (hs j (List.mem_cons_of_mem _ hj))) h
    simp only [List.length_cons]; omega
/-- what _law_told says of a row -/
def toldV (s : Str) (n : Int) : HO := .tup [.str s, .int n, .bl false]
def sp__law_told (K : PySem.W.Frag) : Sp := fun vs H Q _ => ∃ (l a : Addr) (x y z : Int) (t : List Pl), vs = [.ref l, .ref a] ∧ H l = some (.tup [.int x, .int y, .int z]) ∧ TxtAt K H a t ∧ t.length ≤ 250 ∧
  (∀ (i : Nat) (p : Addr) (H' : Hp), i < t.length → BadAt x y z t i → H' p = some (toldV "place" i) → Kp [] H H' → Q (.ref p) H') ∧
  (∀ (b : Bool) (n : Nat) (p : Addr) (H' : Hp), AllHas x y z t → flt t 0 [] = some (b, n) → H' p = some (toldV "balance" n) → Kp [] H H' → Q (.ref p) H') ∧
  (∀ (p : Addr) (H' : Hp), AllHas x y z t → flt t 0 [] = none → 200 < t.length → H' p = some (toldV "long" 0) → Kp [] H H' → Q (.ref p) H') ∧
  (∀ H', AllHas x y z t → flt t 0 [] = none → t.length ≤ 200 → Kp [] H H' → Q .non H')
theorem refInj {c : V} {C : Addr} (h : c = .ref C) : ∀ u, RelV c u → u = .ref C := fun u r => by subst h; exact r
theorem tyInj (n : String) : ∀ u, RelV (.ty n) u → u = .type n := fun u r => r
theorem xdI_look (f : Str) (n : Nat) : List.lookup f [(f, V.int (n : Int))] = some (.int n) := by simp [List.lookup]
local macro_rules | `(tactic| walk_at "sd") => `(tactic| first
  | exact refInj rfl
  | exact tyInj _
  | exact xdI_look _ _)
theorem cut_last {xs : List V} : cutV xs none (some (-1)) = xs.take (xs.length - 1) := by
  unfold cutV
  have h : HT.sIx xs.length xs.length (some (-1)) = xs.length - 1 := by
    unfold HT.sIx
    simp
    try omega
  rw [h]
  simp [HT.sIx]
theorem nats_last (i : Nat) (st : List Nat) : (natsV (i :: st).reverse).take ((natsV (i :: st).reverse).length - 1) = natsV st.reverse := by
  simp [natsV]
/-- where a row's fault is, -1 if it has none -/
def fz (t : List Pl) : Int := match flt t 0 [] with
  | none => -1
  | some (_, n) => (n : Int)
theorem fz_none {t : List Pl} (h : flt t 0 [] = none) : fz t = -1 := by unfold fz; rw [h]
theorem fz_some {t : List Pl} {b : Bool} {n : Nat} (h : flt t 0 [] = some (b, n)) : fz t = (n : Int) := by unfold fz; rw [h]
def sp__law_fault (K : PySem.W.Frag) : Sp := fun vs H Q _ => ∃ (a : Addr) (t : List Pl), vs = [.ref a] ∧ TxtAt K H a t ∧ t.length ≤ 1000 ∧ ∀ (H' : Hp), Kp [] H H' → Q (.int (fz t)) H'
/-! the law's own -/
def setL (p : Pl) (b : Int) : Pl := match p with
  | .let_ _ => .let_ b
  | .cal _ => .cal b
  | .ret _ => .ret b
theorem setL_vs (p : Pl) (b : Int) : [V.str p.kind, V.int b] = (setL p b).vs := by cases p <;> rfl
theorem setL_bad {x y z : Int} {p : Pl} {b : Int} (h : ¬ (0 ≤ b ∧ b < bnd x y z p)) : hasP x y z (setL p b) = false := by
  have e1 : (setL p b).lab = b := by cases p <;> rfl
  have e2 : bnd x y z (setL p b) = bnd x y z p := by cases p <;> rfl
  unfold hasP
  rw [e1, e2]
  by_cases h0 : 0 ≤ b
  · have : ¬ b < bnd x y z p := fun z => h ⟨h0, z⟩
    simp [this]
  · simp [h0]
def bndC (x y : Int) (p : Pl) : Int := match p with
  | .cal _ => y
  | _ => x
theorem bad3 (m v : Int) (h0 : 0 ≤ v) (h1 : v < 3) : ∃ b, atI [V.int m, V.int (0 - 1), V.int (m + 1)] v = some (.int b) ∧ ¬ (0 ≤ b ∧ b < m) := by
  have h : v = 0 ∨ v = 1 ∨ v = 2 := by omega
  rcases h with rfl | rfl | rfl
  · exact ⟨m, rfl, by omega⟩
  · exact ⟨0 - 1, rfl, by omega⟩
  · exact ⟨m + 1, rfl, by omega⟩
theorem kind2 (c : Int) (h0 : 0 ≤ c) (h1 : c < 2) : ∃ p : Pl, p.lab = 0 ∧ atI [V.str "call", V.str "return"] c = some (.str p.kind) ∧ [V.str p.kind, V.int 0] = p.vs ∧ (dl p = 1 ∨ dl p = -1) := by
  have h : c = 0 ∨ c = 1 := by omega
  rcases h with rfl | rfl
  · exact ⟨.cal 0, rfl, rfl, rfl, .inl rfl⟩
  · exact ⟨.ret 0, rfl, rfl, rfl, .inr rfl⟩
theorem LabT.all {x y z : Int} {t : List Pl} (h : LabT x y z t) : AllHas x y z t := fun p hp => LabP.has (h p hp)
theorem lab0_has {x y z : Int} {p : Pl} (h : p.lab = 0) (hL : Lab x y z) : hasP x y z p = true := by
  unfold hasP
  rw [h]
  obtain ⟨h1, _, h2, _, h3, _⟩ := hL
  have : (0 : Int) < bnd x y z p := by cases p <;> (simp only [bnd]; omega)
  simp [this]
theorem BadAt.uniq {x y z : Int} {t : List Pl} {i j : Nat} (a : BadAt x y z t i) (b : BadAt x y z t j) : i = j := by
  obtain ⟨⟨p, hp, np⟩, ha⟩ := a
  obtain ⟨⟨q, hq, nq⟩, hb⟩ := b
  rcases Nat.lt_trichotomy i j with h | h | h
  · have := hb i p h hp
    rw [np] at this; cases this
  · exact h
  · have := ha j q h hq
    rw [nq] at this; cases this
theorem AllHas.notBad {x y z : Int} {t : List Pl} {i : Nat} (h : AllHas x y z t) (b : BadAt x y z t i) : False := by
  obtain ⟨⟨p, hp, np⟩, _⟩ := b
  have := h p (List.mem_of_getElem? hp)
  rw [np] at this; cases this
theorem set_bad {x y z : Int} {t : List Pl} {n : Nat} {p q : Pl} (h : AllHas x y z t) (hp : t[n]? = some p) (hq : hasP x y z q = false) : BadAt x y z (t.set n q) n := by
  have hn := (List.getElem?_eq_some_iff.mp hp).1
  refine ⟨⟨q, List.getElem?_set_self hn, hq⟩, fun j r hj hr => ?_⟩
  rw [List.getElem?_set_ne (by omega)] at hr
  exact h r (List.mem_of_getElem? hr)
theorem flt_sum : ∀ (r : List Pl) (i : Nat) (st : List Nat), flt r i st = none → (r.map dl).sum + (st.length : Int) = 0
  | [], i, st, h => by
    unfold flt at h
    cases e : st.getLast? with
    | none =>
      have es : st = [] := List.getLast?_eq_none_iff.mp e
      subst es
      rfl
    | some j => rw [e] at h; cases h
  | .let_ _ :: r, i, st, h => by
    have := flt_sum r (i + 1) st h
    simp only [List.map_cons, List.sum_cons, dl]
    omega
  | .cal _ :: r, i, st, h => by
    have := flt_sum r (i + 1) (i :: st) h
    simp only [List.map_cons, List.sum_cons, dl, List.length_cons] at *
    omega
  | .ret _ :: r, i, [], h => by cases h
  | .ret _ :: r, i, x :: st, h => by
    have := flt_sum r (i + 1) st h
    simp only [List.map_cons, List.sum_cons, dl, List.length_cons] at *
    omega
theorem put_fault {t : List Pl} {p : Pl} (n : Nat) (h : flt t 0 [] = none) (hp : dl p = 1 ∨ dl p = -1) : ∃ b k, flt (t.take n ++ [p] ++ t.drop n) 0 [] = some (b, k) := by
  cases e : flt (t.take n ++ [p] ++ t.drop n) 0 [] with
  | some bk => exact ⟨bk.1, bk.2, rfl⟩
  | none =>
    exfalso
    have h1 := flt_sum _ _ _ h
    have h2 := flt_sum _ _ _ e
    have h3 : (t.map dl).sum = ((t.take n).map dl).sum + ((t.drop n).map dl).sum := by
      rw [← List.sum_append, ← List.map_append, List.take_append_drop]
    simp only [List.map_append, List.sum_append, List.map_cons, List.map_nil, List.sum_cons, List.sum_nil, List.length_nil] at h1 h2
    omega
theorem put_has {x y z : Int} {t : List Pl} {p : Pl} (n : Nat) (h : AllHas x y z t) (hp : hasP x y z p = true) : AllHas x y z (t.take n ++ [p] ++ t.drop n) := by
  intro q hq
  rcases List.mem_append.mp hq with hq | hq
  · rcases List.mem_append.mp hq with hq | hq
    · exact h q (List.mem_of_mem_take hq)
    · rw [List.mem_singleton.mp hq]; exact hp
  · exact h q (List.mem_of_mem_drop hq)
def toldD (s : Str) (n : Int) : PyData := .tuple [.str s, .int n, .bool false]
theorem told_dp {K : PySem.W.Frag} {H : Hp} {p : Addr} {s : Str} {n : Int} (h : H p = some (toldV s n)) : Dp K H (.ref p) (toldD s n) := .tup (SqT.of h) (.cons (.str _) (.cons (.int _) (.cons (.bl _) .nil)))
theorem toldD_shaped {s : Str} {n : Int} (h0 : PyData.strOk s = true) : SeqAt.shaped (toldD s n) = true := by
  unfold SeqAt.shaped toldD
  have h1 : (PyData.tuple [.str s, .int n, .bool false]).canLay0 = true := by simp [PyData.canLay0, PyData.canLayAll0, h0]
  have h2 : (PyData.tuple [.str s, .int n, .bool false]).depth ≤ 64 := by simp [PyData.depth, PyData.depthAll]
  rw [h1, decide_eq_true h2]
  rfl
theorem okPlace : PyData.strOk ("place" : Str) = true := by decide +kernel
theorem okBal : PyData.strOk ("balance" : Str) = true := by decide +kernel
theorem okLong : PyData.strOk ("long" : Str) = true := by decide +kernel
def sp_check_labels (K : PySem.W.Frag) (mg : Str → Option Value) : Sp := fun vs H Q E => ∃ (l a : Addr) (x y z : Int) (t : List Pl), vs = [.ref l, .ref a] ∧ H l = some (.tup [.int x, .int y, .int z]) ∧ TxtAt K H a t ∧ t.length ≤ 250 ∧
  (∀ (i : Nat) (d : Addr) (H' : Hp), i < t.length → BadAt x y z t i → H d = none → H' d = some (xdI "number" i) → Kp [] H H' → E (.ref (clsA mg "InvalidPlace")) (some d) H') ∧
  (∀ H', AllHas x y z t → Kp [] H H' → Q .non H')
def topS (i : Nat) : Stmt := PySem.Challenge.pw_archway_k02_texts_are_checked.main.body.getD i (.Pass ⟨0, 0, 0, 0⟩)
abbrev s_fault_of : Stmt := topS 9
theorem sc_fault_of : FnScope ["row", "opened", "number", "kind", "_"] ["row"] (defScope s_fault_of) := ⟨rfl, rfl, rfl, by decide +kernel, rfl, by decide +kernel, by decide +kernel⟩
section
variable {P : Program} {w : World} {K : PySem.W.Frag} {mg : Str → Option Value} {base : Heap}
theorem ok_fault_of {f : Addr} {fd : FuncData} (F : Fun K "fault_of" "fault_of" s_fault_of f fd) (B : Glb mg) : FnOk P w K mg base CX0 1 f fd ["row"] (sp_fault_of K) := by
  refine F.ok sc_fault_of (fun vs H Q E h => ?_) (fun cdv A outer s H vs Q E hr h => ?_)
  · obtain ⟨a, t, rfl, _⟩ := h
    rfl
  · obtain ⟨a, t, rfl, hT, hlen, q⟩ := h
    have hu := hu_of hr
    refine ⟨_, (pss_cons (ps_set (i := 1) sc_fault_of.nd rfl (.inl rfl) (pe_lst pa_nil))
  (pss_cons (ps_for PassesOwn.never rfl (pi_enum (by rfl) B.enumerate (pa_cons (pv 0) pa_nil)) (pg_tup rfl (pgs_cons (pg_name (i := 2) sc_fault_of.nd rfl (.inl rfl)) (pgs_cons (pg_tup rfl (pgs_cons (pg_name (i := 3) sc_fault_of.nd rfl (.inl rfl)) (pgs_cons (pg_name (i := 4) sc_fault_of.nd rfl (.inl rfl)) pgs_nil))) pgs_nil)))
  (pss_one (ps_if (pt_cmpR op_eq (pv 3) pe_str (nomark _))
  (pss_one (ps_expr (pe_bm PySem.F.plainAttrs_list PySem.F.slot_list_append PySem.F.type_list_append mt_append (pv 1) (pa_cons (pv 2) pa_nil))))
  (pss_one (ps_if (pt_cmpR op_eq (pv 3) pe_str (nomark _))
  (pss_cons (ps_if (pt_not (pt_truthL (pv 1)))
  (pss_one (ps_ret (pe_tup (pa_cons pe_str (pa_cons (pv 2) pa_nil)))))
  pss_nil)
  (pss_one (ps_expr (pe_bm0 PySem.F.plainAttrs_list PySem.F.slot_list_pop PySem.F.type_list_pop mt_pop (pv 1)))))
  pss_nil)))))
  (pss_cons (ps_if (pt_truthL (pv 1))
  (pss_one (ps_ret (pe_tup (pa_cons pe_str (pa_cons (pe_ix ix_list (pv 1) pe_int (fun _ _ => rfl)) pa_nil)))))
  pss_nil)
  (pss_one (ps_ret pe_non))))), ?_⟩
    obtain ⟨vs, hS, hP⟩ := hT.ex
    have hvl := hP.length
    walk_at "st"
    intro o ho
    walk_at "st"
    refine for_enum (K := K) (a := a) (xs := vs) (fun i σ H2 => Wd <| ∃ (st : List Nat) (y2 y3 y4 : Option V), σ = [some (.ref a), some (.ref o), y2, y3, y4] ∧ H2 o = some (.lst (natsV st.reverse)) ∧ st.length ≤ i ∧
      flt t 0 [] = flt (t.drop i) i st ∧ Kp [] H H2) ⟨⟨[], none, none, none, rfl, upd_same, Nat.le_refl _, rfl, by walk_at "kp"⟩⟩ ?_ ?_ ?_
    · rintro i σ H2 _ ⟨⟨st, y2, y3, y4, rfl, h2, hl, hf, k2⟩⟩
      exact k2.seq hS
    · rintro i x T σ H2 hx ⟨⟨st, y2, y3, y4, rfl, h2, hl, hf, k2⟩⟩ nT
      obtain ⟨p, hp, tp, rfl, htp⟩ := Pd.get hP hx
      have hi : i < t.length := (List.getElem?_eq_some_iff.mp hp).1
      have e1 : t.drop i = p :: t.drop (i + 1) := by
        rw [List.drop_eq_getElem_cons hi]
        rw [List.getElem?_eq_getElem hi] at hp
        rw [Option.some.inj hp]
      rw [e1] at hf
      have htp2 := k2.at0 htp
      have h2' : (upd H2 T (.tup [.int (i : Nat), .ref tp])) o = some (.lst (natsV st.reverse)) := by walk_at "hs"
      have hnl : (natsV st.reverse).length = st.length := by simp [natsV]
      have hl3 : st.length < sizeLine := smallLt (by omega)
      cases p with
      | let_ l =>
        walk_at "st"
        exact ⟨⟨st, _, _, _, rfl, h2', by omega, hf, k2.new nT⟩⟩
      | cal l =>
        walk_at "st"
        refine ⟨⟨i :: st, _, _, _, rfl, ?_, by simp; omega, hf, (k2.new nT).own ho⟩⟩
        rw [upd_same]; simp [natsV]
      | ret l =>
        cases st with
        | nil =>
          walk_at "st"
          intro u nu
          refine q _ _ ?_ ((k2.new nT).new nu)
          rw [hf]
          exact ⟨u, rfl, upd_same⟩
        | cons j st =>
          have e2 : natsV (j :: st).reverse = natsV st.reverse ++ [V.int (j : Int)] := by simp [natsV]
          rw [e2] at h2'
          have e3 : (natsV st.reverse ++ [V.int (j : Int)])[(natsV st.reverse ++ [V.int (j : Int)]).length - 1]? = some (V.int (j : Int)) := by simp
          walk_at "st"
          refine iteN (by simp) ?_
          walk_at "st"
          refine ⟨⟨st, _, _, _, rfl, ?_, by simp at hl; omega, hf, (k2.new nT).own ho⟩⟩
          rw [upd_same]; simp
    · rintro σ H2 ⟨⟨st, y2, y3, y4, rfl, h2, hl, hf, k2⟩⟩
      have e0 : t.drop vs.length = [] := by rw [hvl]; simp
      rw [e0] at hf
      walk_at "st"
      apply iteA
      · intro e1
        have hne : st ≠ [] := by
          intro z
          subst z
          cases e1
        obtain ⟨j, hj⟩ : ∃ j, st.getLast? = some j := ⟨_, List.getLast?_eq_getLast hne⟩
        have ha : atI (natsV st.reverse) 0 = some (V.int (j : Int)) := by
          refine atI_nat (j := 0) ?_
          unfold natsV
          rw [List.getElem?_map]
          have : st.reverse[0]? = some j := by
            rw [← List.head?_eq_getElem?, List.head?_reverse, hj]
          rw [this]; rfl
        walk_at "st"
        intro u nu
        refine q _ _ ?_ (k2.new nu)
        rw [hf]
        show FltV _ _ (match st.getLast? with | none => none | some j => some (false, j))
        rw [hj]
        exact ⟨u, rfl, upd_same⟩
      · intro e1
        have hz : st = [] := by
          cases st with
          | nil => rfl
          | cons j st => simp [natsV] at e1
        subst hz
        walk_at "st"
        refine q _ _ ?_ k2
        rw [hf]
        rfl
end
abbrev s_has_label : Stmt := topS 10
theorem sc_has_label : FnScope ["labels", "place", "kind", "label"] ["labels", "place"] (defScope s_has_label) := ⟨rfl, rfl, rfl, by decide +kernel, rfl, by decide +kernel, by decide +kernel⟩
section
variable {P : Program} {w : World} {K : PySem.W.Frag} {mg : Str → Option Value} {base : Heap}
theorem ok_has_label {f : Addr} {fd : FuncData} (F : Fun K "has_label" "has_label" s_has_label f fd) (B : Glb mg) (k_KINDS : TupC K mg "KINDS" ["letter", "call", "return"]) : FnOk P w K mg base CX0 1 f fd ["labels", "place"] sp_has_label := by
  refine F.ok sc_has_label (fun vs H Q E h => ?_) (fun cdv A outer s H vs Q E hr h => ?_)
  · obtain ⟨l, a, x, y, z, p, rfl, _⟩ := h
    rfl
  · obtain ⟨l, a, x, y, z, p, rfl, hl, ha, q⟩ := h
    have hu := hu_of hr
    obtain ⟨d_KINDS, g_KINDS, hK⟩ := k_KINDS.ex
    refine ⟨_, (pss_cons (ps_asg (pv 1) (pg_tup rfl (pgs_cons (pg_name (i := 2) sc_has_label.nd rfl (.inl rfl)) (pgs_cons (pg_name (i := 3) sc_has_label.nd rfl (.inl rfl)) pgs_nil))))
  (pss_one (ps_ret (pe_chain2 op_le op_lt pe_int (pv 3) (pe_ix ix_tup (pv 0) (pe_bm PySem.F.plainAttrs_tuple PySem.F.slot_tuple_index PySem.F.type_tuple_index mt_tup_index (pe_glob (v := .ref d_KINDS) (by rfl) g_KINDS rfl) (pa_cons (pv 2) pa_nil)) (fun _ _ => rfl)))))), ?_⟩
    have hsq : SqT K H d_KINDS (kinds.map V.str) := hK.sq H
    have hty := hK.ty H
    have e1 := kidx_at p
    have e2 := kidx_first p
    have e3 := kidx_bnd x y z p
    walk_at "st"
    exact q
end
abbrev s_check_labels : Stmt := topS 11
theorem sc_check_labels : FnScope ["labels", "row", "number", "place"] ["labels", "row"] (defScope s_check_labels) := ⟨rfl, rfl, rfl, by decide +kernel, rfl, by decide +kernel, by decide +kernel⟩
section
variable {P : Program} {w : World} {K : PySem.W.Frag} {mg : Str → Option Value} {base : Heap}
theorem ok_check_labels {f : Addr} {fd : FuncData} (F : Fun K "check_labels" "check_labels" s_check_labels f fd) (B : Glb mg) (chas_label : Cal P w K mg base 1 "has_label" ["labels", "place"] sp_has_label) (k_InvalidPlace : SupC P K mg "InvalidPlace" "InvalidPlace.__init__" "number") : FnOk P w K mg base (L2.CX P w) 4 f fd ["labels", "row"] (sp_check_labels K mg) := by
  refine F.okX sc_check_labels (fun vs H Q E h => ?_) (fun cdv A outer s H vs Q E hr h => ?_)
  · obtain ⟨l, a, x, y, z, t, rfl, _⟩ := h
    rfl
  · obtain ⟨l, a, x, y, z, t, rfl, hl, hT, hlen, e1, q⟩ := h
    have hu := hu_of hr
    refine ⟨_, (pss_one (ps_for PassesOwn.leaving rfl (pi_enum (by rfl) B.enumerate (pa_cons (pv 1) pa_nil)) (pg_tup rfl (pgs_cons (pg_name (i := 2) sc_check_labels.nd rfl (.inl rfl)) (pgs_cons (pg_name (i := 3) sc_check_labels.nd rfl (.inl rfl)) pgs_nil)))
  (pss_one (ps_if (pt_not (pt_val (pe_cal chas_label (hr.mono (by decide)) (by rfl) (pa_cons (pv 0) (pa_cons (pv 3) pa_nil)))))
  (pss_one (ps_raise rfl (takes_of rfl rfl rfl rfl) (k_InvalidPlace.pmk hr (by exact (pa_cons (pv 2) pa_nil)) (by rfl))))
  pss_nil)))), ?_⟩
    obtain ⟨vs, hS, hP⟩ := hT.ex
    have hvl := hP.length
    walk_at "st"
    refine for_enum (K := K) (a := a) (xs := vs) (fun i σ H2 => Wd <| ∃ (y2 y3 : Option V), σ = [some (.ref l), some (.ref a), y2, y3] ∧ (∀ (j : Nat) (p : Pl), j < i → t[j]? = some p → hasP x y z p = true) ∧ Kp [] H H2) ⟨⟨none, none, rfl, fun j p hj => absurd hj (Nat.not_lt_zero j), Kp.refl _ _⟩⟩ ?_ ?_ ?_
    · rintro i σ H2 _ ⟨⟨y2, y3, rfl, ha, k2⟩⟩
      exact k2.seq hS
    · rintro i v T σ H2 hv ⟨⟨y2, y3, rfl, ha, k2⟩⟩ nT
      obtain ⟨p, hp, tp, rfl, htp⟩ := Pd.get hP hv
      have hi : i < t.length := (List.getElem?_eq_some_iff.mp hp).1
      have htp2 := k2.at0 htp
      have hl2 := k2.at0 hl
      walk_at "st"
      cases hb2 : hasP x y z p with
      | false =>
        refine iteY (show (!hasP x y z p) = true by rw [hb2]; rfl) ?_
        walk_at "st"
        intro d nd
        exact e1 i d _ hi ⟨⟨p, hp, hb2⟩, ha⟩ ((k2.new nT).fresh nd) upd_same (by walk_at "kp")
      | true =>
        refine iteN (show (!hasP x y z p) = false by rw [hb2]; rfl) ?_
        refine ⟨⟨_, _, rfl, ?_, k2.new nT⟩⟩
        intro j p' hj hp'
        rcases Nat.lt_succ_iff_lt_or_eq.mp hj with hj | rfl
        · exact ha j p' hj hp'
        · rw [hp] at hp'
          cases hp'
          exact hb2
    · rintro σ H2 ⟨⟨y2, y3, rfl, ha, k2⟩⟩
      have hall : AllHas x y z t := fun p hp => by
        obtain ⟨j, hj⟩ := List.getElem?_of_mem hp
        have := (List.getElem?_eq_some_iff.mp hj).1
        exact ha j p (by rw [hvl]; exact this) hj
      walk_at "st"
      exact q H2 hall k2
end
abbrev s_check_text : Stmt := topS 12
theorem sc_check_text : FnScope ["labels", "row", "fault"] ["labels", "row"] (defScope s_check_text) := ⟨rfl, rfl, rfl, by decide +kernel, rfl, by decide +kernel, by decide +kernel⟩
section
variable {P : Program} {w : World} {K : PySem.W.Frag} {mg : Str → Option Value} {base : Heap}
theorem ok_check_text {f : Addr} {fd : FuncData} (F : Fun K "check_text" "check_text" s_check_text f fd) (B : Glb mg) (ccheck_labels : CalX P w K mg base 4 "check_labels" ["labels", "row"] (sp_check_labels K mg)) (cfault_of : Cal P w K mg base 1 "fault_of" ["row"] (sp_fault_of K)) (k_MOST_PLACES : IntC mg "MOST_PLACES" 200)
    (k_InvalidPlace : SupC P K mg "InvalidPlace" "InvalidPlace.__init__" "number") (k_UnbalancedText : SupC P K mg "UnbalancedText" "UnbalancedText.__init__" "place") (k_TextTooLong : OwnC K mg "TextTooLong") : FnOk P w K mg base (L2.CX P w) 5 f fd ["labels", "row"] (sp_check K mg) := by
  refine F.okX sc_check_text (fun vs H Q E h => ?_) (fun cdv A outer s H vs Q E hr h => ?_)
  · obtain ⟨l, a, x, y, z, t, rfl, _⟩ := h
    rfl
  · obtain ⟨l, a, x, y, z, t, rfl, hl, hT, hlen, e1, e2, e3, q⟩ := h
    have hu := hu_of hr
    refine ⟨_, (pss_cons (ps_expr (pe_calX ccheck_labels (hr.mono (by decide)) (takes_of rfl rfl rfl rfl) (by rfl) (pa_cons (pv 0) (pa_cons (pv 1) pa_nil))))
  (pss_cons (ps_set (i := 2) sc_check_text.nd rfl (.inl rfl) (pe_cal cfault_of (hr.mono (by decide)) (by rfl) (pa_cons (pv 1) pa_nil)))
  (pss_cons (ps_if (pt_cmpR op_notN (pv 2) pe_non (nomark _))
  (pss_one (ps_raise rfl (takes_of rfl rfl rfl rfl) (k_UnbalancedText.pmk hr (by exact (pa_cons (pe_ix ix_tup (pv 2) pe_int (fun _ _ => rfl)) pa_nil)) (by rfl))))
  pss_nil)
  (pss_one (ps_if (pt_cmpR op_gt (pe_callB (call_lenL) (by rfl) B.len PySem.boot_len (pa_cons (pv 1) pa_nil)) (k_MOST_PLACES.pe (by rfl)) (nomark _))
  (pss_one (ps_raise rfl (takes_of rfl rfl rfl rfl) (k_TextTooLong.pmk (by exact (pa_cons (pe_joinedT (.cons pe_str (.cons (pe_fmtI (k_MOST_PLACES.pe (by rfl))) (.cons pe_str .nil)))) pa_nil)) (by rfl))))
  pss_nil))))), ?_⟩
    obtain ⟨vs, hS, hP⟩ := hT.ex
    have hvl := hP.length
    walk_at "st"
    intro H2 hall k2
    have hT2 := hT.kp k2
    have hl1k : t.length ≤ 1000 := by omega
    walk_at "st"
    intro v H3 hv k3
    have kk := k2.trans k3
    have hS3 := kk.seq hS
    cases ef : flt t 0 [] with
    | none =>
      rw [ef] at hv
      have ev : v = .non := hv
      subst ev
      walk_at "st"
      apply iteD
      · intro e
        walk_at "st"
        exact e3 H3 hall ef (by rw [hvl] at e; omega) kk
      · intro e
        exact q H3 hall ef (by rw [hvl] at e; omega) kk
    | some bn =>
      obtain ⟨b, n⟩ := bn
      rw [ef] at hv
      obtain ⟨fp, rfl, hfp⟩ := hv
      have hn := flt_lt t 0 [] b n (fun j hj => by cases hj) ef
      have b1 : atI [V.str (fk b), V.int (n : Int)] 1 = some (.int n) := rfl
      walk_at "st"
      intro d nd
      exact e2 b n d _ hall ef (kk.fresh nd) upd_same (by walk_at "kp")
end
abbrev s__law_draws : Stmt := topS 14
theorem sc__law_draws : FnScope ["cell", "modulus", "count", "number", "row", "k", "mixed"] ["cell", "modulus", "count"] (defScope s__law_draws) := ⟨rfl, rfl, rfl, by decide +kernel, rfl, by decide +kernel, by decide +kernel⟩
section
variable {P : Program} {w : World} {K : PySem.W.Frag} {mg : Str → Option Value} {base : Heap}
theorem ok__law_draws {f : Addr} {fd : FuncData} (F : Fun K "_law_draws" "_law_draws" s__law_draws f fd) (B : Glb mg) : FnOk P w K mg base CX0 1 f fd ["cell", "modulus", "count"] sp__law_draws := by
  refine F.ok sc__law_draws (fun vs H Q E h => ?_) (fun cdv A outer s H vs Q E hr h => ?_)
  · obtain ⟨c, m, k, rfl, _⟩ := h
    rfl
  · obtain ⟨c, m, k, rfl, hm, hm2, hk, hk2, q⟩ := h
    have hu := hu_of hr
    refine ⟨_, (pss_cons (ps_set (i := 3) sc__law_draws.nd rfl (.inl rfl) (pv 0))
  (pss_cut (ps_if (pt_cmpR op_lt (pv 3) pe_int (nomark _))
  (pss_one (ps_set (i := 3) sc__law_draws.nd rfl (.inl rfl) (pe_op op_sub pe_int (pv 3))))
  pss_nil)
  (pss_cons (ps_set (i := 4) sc__law_draws.nd rfl (.inl rfl) (pe_lst pa_nil))
  (pss_cons (ps_if (pt_cmpR op_ge (pv 3) (pe_op op_pow pe_int pe_int) (nomark _))
  (pss_cons (ps_for PassesOwn.never rfl (pi_rn1 (by rfl) B.range (pa_cons (pv 2) pa_nil)) (pg_name (i := 5) sc__law_draws.nd rfl (.inl rfl))
  (pss_cons (ps_expr (pe_bm PySem.F.plainAttrs_list PySem.F.slot_list_append PySem.F.type_list_append mt_append (pv 4) (pa_cons (pe_op op_mod (pe_callTy call_intI (by rfl) B.int (by decide +kernel) (pa_cons (pv 3) pa_nil)) (pv 1)) pa_nil)))
  (pss_one (ps_set (i := 3) sc__law_draws.nd rfl (.inl rfl) (pe_op op_fdiv (pv 3) (pv 1))))))
  (pss_one (ps_ret (pv 4))))
  pss_nil)
  (pss_cons (ps_for PassesOwn.never rfl (pi_rn1 (by rfl) B.range (pa_cons (pv 2) pa_nil)) (pg_name (i := 5) sc__law_draws.nd rfl (.inl rfl))
  (pss_cons (ps_set (i := 6) sc__law_draws.nd rfl (.inl rfl) (pe_op op_mod (pe_callTy call_intI (by rfl) B.int (by decide +kernel) (pa_cons (pe_op op_mul (pe_op op_add (pe_op op_add (pv 3) (pe_op op_mul pe_int (pv 5))) pe_int) pe_int) pa_nil)) pe_int))
  (pss_cons (ps_set (i := 6) sc__law_draws.nd rfl (.inl rfl) (pe_op op_mod (pe_callTy call_intI (by rfl) B.int (by decide +kernel) (pa_cons (pe_op op_add (pe_op op_mul (pv 6) pe_int) (pe_op op_mul pe_int (pv 5))) pa_nil)) pe_int))
  (pss_one (ps_expr (pe_bm PySem.F.plainAttrs_list PySem.F.slot_list_append PySem.F.type_list_append mt_append (pv 4) (pa_cons (pe_op op_mod (pe_callTy call_intI (by rfl) B.int (by decide +kernel) (pa_cons (pe_op op_fdiv (pv 6) pe_int) pa_nil)) (pv 1)) pa_nil)))))))
  (pss_one (ps_ret (pv 4)))))))), ?_⟩
    have cp : CPow 10 18 := ⟨by decide, by decide, by decide⟩
    have cd : ∀ z, CDiv z m := fun z => ⟨by omega, by omega⟩
    have grow : ∀ (rs : List Int) (x : Int), rs.map V.int ++ [V.int x] = (rs ++ [x]).map V.int := fun rs x => by simp
    walk_at "st"
    refine ⟨fun σ' H' => Wd (H' = H ∧ ∃ n : Int, σ' = [some (.int c), some (.int m), some (.int k), some (.int n), none, none, none]), ?_, ?_⟩
    · walk_at "st"
      refine iteD (fun e => ?_) (fun e => ?_)
      · walk_at "st"
        exact ⟨⟨rfl, _, rfl⟩⟩
      · exact ⟨⟨rfl, _, rfl⟩⟩
    rintro σ1 H1 ⟨⟨rfl, n, rfl⟩⟩
    walk_at "st"
    intro o ho
    walk_at "st"
    refine iteD (fun e => ?_) (fun e => ?_)
    · walk_at "st"
      refine for_range (lo := 0) (fun i σ H2 => Wd <| ∃ (z : Int) (rs : List Int) (y5 : Option V), σ = [some (.int c), some (.int m), some (.int k), some (.int z), some (.ref o), y5, none] ∧ rs.length = i ∧ H2 o = some (.lst (rs.map V.int)) ∧ Kp [] H1 H2) ⟨⟨n, [], none, rfl, rfl, upd_same, by walk_at "kp"⟩⟩ ?_ ?_
      · rintro i σ H2 hi ⟨⟨z, rs, y5, rfl, hl, h2, k2⟩⟩
        have hl2 : (rs.map V.int).length = i := by simp [hl]
        walk_at "st"
        refine ⟨⟨_, rs ++ [z % m], _, rfl, by simp [hl], upd_int, by walk_at "kp"⟩⟩
      · rintro σ H2 ⟨⟨z, rs, y5, rfl, hl, h2, k2⟩⟩
        walk_at "st"
        exact q _ _ rs (by omega) ho h2 k2
    · walk_at "st"
      refine for_range (lo := 0) (fun i σ H2 => Wd <| ∃ (rs : List Int) (y5 y6 : Option V), σ = [some (.int c), some (.int m), some (.int k), some (.int n), some (.ref o), y5, y6] ∧ rs.length = i ∧ H2 o = some (.lst (rs.map V.int)) ∧ Kp [] H1 H2) ⟨⟨[], none, none, rfl, rfl, upd_same, by walk_at "kp"⟩⟩ ?_ ?_
      · rintro i σ H2 hi ⟨⟨rs, y5, y6, rfl, hl, h2, k2⟩⟩
        have hl2 : (rs.map V.int).length = i := by simp [hl]
        walk_at "st"
        refine ⟨⟨rs ++ [_], _, _, rfl, by simp [hl], upd_int, by walk_at "kp"⟩⟩
      · rintro σ H2 ⟨⟨rs, y5, y6, rfl, hl, h2, k2⟩⟩
        walk_at "st"
        exact q _ _ rs (by omega) ho h2 k2
end
abbrev s__law_box : Stmt := topS 15
theorem sc__law_box : FnScope ["script", "row", "cell"] ["script"] (defScope s__law_box) := ⟨rfl, rfl, rfl, by decide +kernel, rfl, by decide +kernel, by decide +kernel⟩
section
variable {P : Program} {w : World} {K : PySem.W.Frag} {mg : Str → Option Value} {base : Heap}
theorem ok__law_box {f : Addr} {fd : FuncData} (F : Fun K "_law_box" "_law_box" s__law_box f fd) (B : Glb mg) (c_law_draws : Cal P w K mg base 1 "_law_draws" ["cell", "modulus", "count"] sp__law_draws) : FnOk P w K mg base CX0 2 f fd ["script"] (sp__law_box K) := by
  refine F.ok sc__law_box (fun vs H Q E h => ?_) (fun cdv A outer s H vs Q E hr h => ?_)
  · obtain ⟨a, ns, rfl, _⟩ := h
    rfl
  · obtain ⟨a, ns, rfl, hS, hn, q⟩ := h
    have hu := hu_of hr
    refine ⟨_, (pss_cons (ps_set (i := 1) sc__law_box.nd rfl (.inl rfl) (pe_lst pa_nil))
  (pss_cons (ps_for PassesOwn.never rfl (pi_list (pv 0)) (pg_name (i := 2) sc__law_box.nd rfl (.inl rfl))
  (pss_one (ps_set (i := 1) sc__law_box.nd rfl (.inl rfl) (pe_op op_cat (pv 1) (pe_cal c_law_draws (hr.mono (by decide)) (by rfl) (pa_cons (pv 2) (pa_cons pe_int (pa_cons pe_int pa_nil))))))))
  (pss_cut (ps_if (pt_cmpR op_eq (pe_callB (call_lenL) (by rfl) B.len PySem.boot_len (pa_cons (pv 1) pa_nil)) pe_int (nomark _))
  (pss_one (ps_set (i := 1) sc__law_box.nd rfl (.inl rfl) (pe_lst (pa_cons pe_int (pa_cons pe_int (pa_cons pe_int (pa_cons pe_int (pa_cons pe_int (pa_cons pe_int (pa_cons pe_int pa_nil))))))))))
  pss_nil)
  (pss_one (ps_ret (pe_disp (pps_cons pe_str (pv 1) (pps_cons pe_str pe_int pps_nil)) (by rfl) (by rfl) (fun z => by cases z) (by decide))))))), ?_⟩
    walk_at "st"
    intro o ho
    walk_at "st"
    refine for_list (K := K) (a := a) (xs := ns.map V.int) (fun i σ H2 => Wd <| ∃ (o2 : Addr) (rs : List Int) (y : Option V), σ = [some (.ref a), some (.ref o2), y] ∧ rs.length = 6 * i ∧ H2 o2 = some (.lst (rs.map V.int)) ∧ H o2 = none ∧ Kp [] H H2) ⟨⟨o, [], none, rfl, rfl, upd_same, ho, by walk_at "kp"⟩⟩ ?_ ?_ ?_
    · rintro i σ H2 _ ⟨⟨o2, rs, y, rfl, hl, h2, ho2, k2⟩⟩
      exact k2.seq hS
    · rintro i x σ H2 hx ⟨⟨o2, rs, y, rfl, hl, h2, ho2, k2⟩⟩
      obtain ⟨z, hz, rfl⟩ : ∃ z, ns[i]? = some z ∧ V.int z = x := by
        rw [List.getElem?_map] at hx
        cases e : ns[i]? with
        | none => rw [e] at hx; cases hx
        | some z => rw [e] at hx; exact ⟨z, rfl, Option.some.inj hx⟩
      have hi : i < ns.length := (List.getElem?_eq_some_iff.mp hz).1
      walk_at "st"
      intro p H3 ts hts hp h3 k3
      have h23 : H3 o2 = some (.lst (rs.map V.int)) := k3.at0 h2
      walk_at "st"
      intro p2 hp2
      exact ⟨⟨p2, rs ++ ts, _, rfl, by rw [List.length_append]; omega, by rw [upd_same, List.map_append], k2.fresh (k3.fresh hp2), (k2.trans k3).new hp2⟩⟩
    · rintro σ H2 ⟨⟨o2, rs, y, rfl, hl, h2, ho2, k2⟩⟩
      rw [List.length_map] at hl
      walk_at "st"
      refine ⟨fun σ' H' => Wd <| ∃ (o2 : Addr) (rs : List Int), σ' = [some (.ref a), some (.ref o2), y] ∧ 0 < rs.length ∧ rs.length ≤ 400 ∧ H' o2 = some (.lst (rs.map V.int)) ∧ Kp [] H H', ?_, ?_⟩
      · walk_at "st"
        refine iteD (fun e => ?_) (fun e => ?_)
        · walk_at "st"
          intro p hp
          exact ⟨⟨p, [11, 5, 2, 7, 31, 101, 997], rfl, by decide, by decide, upd_same, k2.new hp⟩⟩
        · refine ⟨⟨o2, rs, rfl, ?_, by omega, h2, k2⟩⟩
          have e' : ¬ (((rs.map V.int).length : Nat) : Int) = 0 := fun z => e (congrArg V.int z)
          rw [List.length_map] at e'
          omega
      rintro σ' H' ⟨⟨o3, rs3, rfl, l1, l2, h3, k3⟩⟩
      walk_at "st"
      intro p hp
      have hk : [(V.str "row", V.ref o3), (V.str "at", V.int 0)] = (boxD o3 0).map (fun kv => (kV kv.1, kv.2)) := rfl
      have hk15 : (boxD o3 0).length ≤ 15 := by show 2 ≤ 15; decide
      walk_at "st"
      have em : mergeK [] (boxD o3 0) = boxD o3 0 := by
        unfold mergeK boxD
        simp [putK, kRA]
      show Q _ (upd (upd H' p (.dK [])) p (.dK (mergeK [] (boxD o3 0))))
      rw [em, upd_upd]
      have h4 : (upd H' p (.dK (boxD o3 0))) o3 = some (.lst (rs3.map V.int)) := by walk_at "hs"
      exact q p o3 _ ⟨rs3, 0, upd_same, h4, l1, by omega, by decide⟩ (k3.fresh hp) (k3.new hp)
end
abbrev s__law_next : Stmt := topS 16
theorem sc__law_next : FnScope ["box", "modulus", "at", "number"] ["box", "modulus"] (defScope s__law_next) := ⟨rfl, rfl, rfl, by decide +kernel, rfl, by decide +kernel, by decide +kernel⟩
section
variable {P : Program} {w : World} {K : PySem.W.Frag} {mg : Str → Option Value} {base : Heap}
theorem ok__law_next {f : Addr} {fd : FuncData} (F : Fun K "_law_next" "_law_next" s__law_next f fd) (B : Glb mg) : FnOk P w K mg base CX0 1 f fd ["box", "modulus"] sp__law_next := by
  refine F.ok sc__law_next (fun vs H Q E h => ?_) (fun cdv A outer s H vs Q E hr h => ?_)
  · obtain ⟨b, r, m, rfl, _⟩ := h
    rfl
  · obtain ⟨b, r, m, rfl, hm, hm2, hb, q⟩ := h
    have hu := hu_of hr
    obtain ⟨rs, n, h1, h2, h3, h4, h5⟩ := hb.ex
    refine ⟨_, (pss_cons (ps_set (i := 2) sc__law_next.nd rfl (.inl rfl) (pe_dget hu (pv 0) pe_str (fun _ _ => rfl)))
  (pss_cons (ps_dput hu (pv 0) pe_str (pe_op op_add (pv 2) pe_int) rfl)
  (pss_cons (ps_set (i := 3) sc__law_next.nd rfl (.inl rfl) (pe_ix ix_list (pe_dget hu (pv 0) pe_str (fun _ _ => rfl)) (pe_op op_mod (pv 2) (pe_callB (call_lenL) (by rfl) B.len PySem.boot_len (pa_cons (pe_dget hu (pv 0) pe_str (fun _ _ => rfl)) pa_nil))) (fun _ _ => rfl)))
  (pss_one (ps_ret (pe_op op_mod (pe_callTy call_intI (by rfl) B.int (by decide +kernel) (pa_cons (pe_op op_add (pv 3) (pe_op op_mul pe_int (pe_op op_fdiv (pv 2) (pe_callB (call_lenL) (by rfl) B.len PySem.boot_len (pa_cons (pe_dget hu (pv 0) pe_str (fun _ _ => rfl)) pa_nil))))) pa_nil)) (pv 1))))))), ?_⟩
    have nrb : r ≠ b := ne_of h2 h1 (by intro z; cases z)
    have g1 : DGet H b (.str "at") (some (.int n)) := by have g := DGet.k (k := kAt) h1; rw [box_at] at g; exact g
    have p1 : DPut H b (.str "at") (.int (n + 1)) (upd H b (.dK (boxD r (n + 1)))) := by have g := DPut.k (k := kAt) (v := .int (n + 1)) h1 (by show 2 < sizeLine; decide); rw [box_put] at g; exact g
    have e1 : (upd H b (.dK (boxD r (n + 1)))) r = some (.lst (rs.map V.int)) := by walk_at "hs"
    have g2 : DGet (upd H b (.dK (boxD r (n + 1)))) b (.str "row") (some (.ref r)) := by have g := DGet.k (k := kRow) (H := upd H b (.dK (boxD r (n + 1)))) upd_same; rw [box_row] at g; exact g
    have hl : (rs.map V.int).length = rs.length := List.length_map ..
    have hi : ∃ x, rs[(n % (rs.length : Int)).toNat]? = some x := by
      have a1 : n % (rs.length : Int) < rs.length := Int.emod_lt_of_pos _ (by omega)
      have a2 : 0 ≤ n % (rs.length : Int) := Int.emod_nonneg _ (by omega)
      exact ⟨_, List.getElem?_eq_getElem (by omega)⟩
    obtain ⟨x, hx⟩ := hi
    have ax : atI (rs.map V.int) (n % ((rs.map V.int).length : Int)) = some (.int x) := by
      rw [hl]
      refine at_of (j := (n % (rs.length : Int)).toNat) ?_ ?_
      · have a2 : 0 ≤ n % (rs.length : Int) := Int.emod_nonneg _ (by omega)
        omega
      · rw [List.getElem?_map, hx]; rfl
    have hc : CDiv n (((rs.map V.int).length : Nat) : Int) := by rw [hl]; exact ⟨by omega, by omega⟩
    have hp : (0 : Int) < (((rs.map V.int).length : Nat) : Int) := by rw [hl]; omega
    have hM : ∀ z : Int, CMul 7919 z := fun z => .inl ⟨by decide, by decide⟩
    walk_at "st"
    exact q _ _ (Int.emod_nonneg _ (by omega)) (Int.emod_lt_of_pos _ hm) ⟨rs, n + 1, upd_same, e1, h3, h4, by omega⟩ (by walk_at "kp")
end
abbrev s__law_labels : Stmt := topS 17
theorem sc__law_labels : FnScope ["box"] ["box"] (defScope s__law_labels) := ⟨rfl, rfl, rfl, by decide +kernel, rfl, by decide +kernel, by decide +kernel⟩
section
variable {P : Program} {w : World} {K : PySem.W.Frag} {mg : Str → Option Value} {base : Heap}
theorem ok__law_labels {f : Addr} {fd : FuncData} (F : Fun K "_law_labels" "_law_labels" s__law_labels f fd) (B : Glb mg) (c_law_next : Cal P w K mg base 1 "_law_next" ["box", "modulus"] sp__law_next) : FnOk P w K mg base CX0 2 f fd ["box"] sp__law_labels := by
  refine F.ok sc__law_labels (fun vs H Q E h => ?_) (fun cdv A outer s H vs Q E hr h => ?_)
  · obtain ⟨b, r, rfl, _⟩ := h
    rfl
  · obtain ⟨b, r, rfl, hb, q⟩ := h
    have hu := hu_of hr
    refine ⟨_, (pss_one (ps_ret (pe_tup (pa_cons (pe_op op_add pe_int (pe_cal c_law_next (hr.mono (by decide)) (by rfl) (pa_cons (pv 0) (pa_cons pe_int pa_nil)))) (pa_cons (pe_op op_add pe_int (pe_cal c_law_next (hr.mono (by decide)) (by rfl) (pa_cons (pv 0) (pa_cons pe_int pa_nil)))) (pa_cons (pe_op op_add pe_int (pe_cal c_law_next (hr.mono (by decide)) (by rfl) (pa_cons (pv 0) (pa_cons pe_int pa_nil)))) pa_nil)))))), ?_⟩
    walk_at "st"
    intro v1 H1 a1 a2 b1 k1
    walk_at "st"
    intro v2 H2 a3 a4 b2 k2
    walk_at "st"
    intro v3 H3 a5 a6 b3 k3
    walk_at "st"
    intro p hp
    exact q p _ (1 + v1) (1 + v2) (1 + v3) ⟨by omega, by omega, by omega, by omega, by omega, by omega⟩ upd_same (((k1.trans k2).trans k3).fresh hp) (b3.kp ((Kp.refl _ _).new hp)) (((k1.trans k2).trans k3).new hp) 
end
abbrev s__law_text : Stmt := topS 18
theorem sc__law_text : FnScope ["box", "labels", "most", "row", "opened", "k", "choice"] ["box", "labels", "most"] (defScope s__law_text) := ⟨rfl, rfl, rfl, by decide +kernel, rfl, by decide +kernel, by decide +kernel⟩
section
variable {P : Program} {w : World} {K : PySem.W.Frag} {mg : Str → Option Value} {base : Heap}
theorem ok__law_text {f : Addr} {fd : FuncData} (F : Fun K "_law_text" "_law_text" s__law_text f fd) (B : Glb mg) (c_law_next : Cal P w K mg base 1 "_law_next" ["box", "modulus"] sp__law_next) : FnOk P w K mg base CX0 2 f fd ["box", "labels", "most"] (sp__law_text K) := by
  refine F.ok sc__law_text (fun vs H Q E h => ?_) (fun cdv A outer s H vs Q E hr h => ?_)
  · obtain ⟨b, r, l, x, y, z, m, rfl, _⟩ := h
    rfl
  · obtain ⟨b, r, l, x, y, z, m, rfl, hb, hl, hL, hm0, hm1, q⟩ := h
    have hu := hu_of hr
    refine ⟨_, (pss_cons (ps_set (i := 3) sc__law_text.nd rfl (.inl rfl) (pe_lst pa_nil))
  (pss_cons (ps_set (i := 4) sc__law_text.nd rfl (.inl rfl) pe_int)
  (pss_cons (ps_for PassesOwn.never rfl (pi_rn1 (by rfl) B.range (pa_cons (pv 2) pa_nil)) (pg_name (i := 5) sc__law_text.nd rfl (.inl rfl))
  (pss_cons (ps_set (i := 6) sc__law_text.nd rfl (.inl rfl) (pe_cal c_law_next (hr.mono (by decide)) (by rfl) (pa_cons (pv 0) (pa_cons pe_int pa_nil))))
  (pss_one (ps_if (PW.pt (pw_and2 (pt_cmpR op_lt (pv 6) pe_int (nomark _)) (pw_and1 (pt_cmpR op_le (pe_op op_add (pe_op op_add (pe_callB (call_lenL) (by rfl) B.len PySem.boot_len (pa_cons (pv 3) pa_nil)) (pv 4)) pe_int) (pv 2) (nomark _)))))
  (pss_cons (ps_expr (pe_bm PySem.F.plainAttrs_list PySem.F.slot_list_append PySem.F.type_list_append mt_append (pv 3) (pa_cons (pe_tup (pa_cons pe_str (pa_cons (pe_cal c_law_next (hr.mono (by decide)) (by rfl) (pa_cons (pv 0) (pa_cons (pe_ix ix_tup (pv 1) pe_int (fun _ _ => rfl)) pa_nil))) pa_nil))) pa_nil)))
  (pss_one (ps_set (i := 4) sc__law_text.nd rfl (.inl rfl) (pe_op op_add (pv 4) pe_int))))
  (pss_one (ps_if (PW.pt (pw_and2 (pt_cmpR op_lt (pv 6) pe_int (nomark _)) (pw_and1 (pt_cmpR op_gt (pv 4) pe_int (nomark _)))))
  (pss_cons (ps_expr (pe_bm PySem.F.plainAttrs_list PySem.F.slot_list_append PySem.F.type_list_append mt_append (pv 3) (pa_cons (pe_tup (pa_cons pe_str (pa_cons (pe_cal c_law_next (hr.mono (by decide)) (by rfl) (pa_cons (pv 0) (pa_cons (pe_ix ix_tup (pv 1) pe_int (fun _ _ => rfl)) pa_nil))) pa_nil))) pa_nil)))
  (pss_one (ps_set (i := 4) sc__law_text.nd rfl (.inl rfl) (pe_op op_sub (pv 4) pe_int))))
  (pss_one (ps_if (pt_cmpR op_lt (pe_op op_add (pe_callB (call_lenL) (by rfl) B.len PySem.boot_len (pa_cons (pv 3) pa_nil)) (pv 4)) (pv 2) (nomark _))
  (pss_one (ps_expr (pe_bm PySem.F.plainAttrs_list PySem.F.slot_list_append PySem.F.type_list_append mt_append (pv 3) (pa_cons (pe_tup (pa_cons pe_str (pa_cons (pe_cal c_law_next (hr.mono (by decide)) (by rfl) (pa_cons (pv 0) (pa_cons (pe_ix ix_tup (pv 1) pe_int (fun _ _ => rfl)) pa_nil))) pa_nil))) pa_nil))))
  pss_nil))))))))
  (pss_cons (ps_for PassesOwn.never rfl (pi_rn1 (by rfl) B.range (pa_cons (pv 4) pa_nil)) (pg_name (i := 5) sc__law_text.nd rfl (.inl rfl))
  (pss_one (ps_expr (pe_bm PySem.F.plainAttrs_list PySem.F.slot_list_append PySem.F.type_list_append mt_append (pv 3) (pa_cons (pe_tup (pa_cons pe_str (pa_cons (pe_cal c_law_next (hr.mono (by decide)) (by rfl) (pa_cons (pv 0) (pa_cons (pe_ix ix_tup (pv 1) pe_int (fun _ _ => rfl)) pa_nil))) pa_nil))) pa_nil)))))
  (pss_one (ps_ret (pv 3))))))), ?_⟩
    obtain ⟨L1, L2, L3, L4, L5, L6⟩ := id hL
    have a0 : atI [V.int x, V.int y, V.int z] 0 = some (.int x) := atI_nat (j := 0) rfl
    have a1 : atI [V.int x, V.int y, V.int z] 1 = some (.int y) := atI_nat (j := 1) rfl
    have a2 : atI [V.int x, V.int y, V.int z] 2 = some (.int z) := atI_nat (j := 2) rfl
    have nlb := hb.tupin hl
    walk_at "st"
    intro o ho
    have nob := hb.neb ho
    have nor := hb.ner ho
    have noq := hb.nin ho
    have hb0 : BoxAt (upd H o (.lst [])) b r := hb.upd nob nor
    -- a place put at the end of the row
    have put : ∀ (H2 H3 : Hp) (p : Addr) (vs' : List V) (t : List Pl) (c : Pl), H2 o = some (.lst vs') → Paired (PlV H2) vs' t → BoxAt H2 b r → Kp [b] H2 H3 → BoxAt H3 b r → H3 p = none → Kp [b] H H2 →
        H3 o = some (.lst vs') ∧ (upd H3 p (.tup c.vs)) o = some (.lst vs') ∧ Paired (PlV (upd (upd H3 p (.tup c.vs)) o (.lst (vs' ++ [.ref p])))) (vs' ++ [.ref p]) (t ++ [c]) ∧ BoxAt (upd (upd H3 p (.tup c.vs)) o (.lst (vs' ++ [.ref p]))) b r ∧ Kp [b] H (upd (upd H3 p (.tup c.vs)) o (.lst (vs' ++ [.ref p]))) := by
      intro H2 H3 p vs' t c h2 hp hb2 k3 hb3 np k2
      have h3o : H3 o = some (.lst vs') := k3.at_ h2 noq
      have npo : p ≠ o := (ne_of_none h3o np).symm
      have h3' : (upd H3 p (.tup c.vs)) o = some (.lst vs') := by walk_at "hs"
      have tk : TK H2 (upd (upd H3 p (.tup c.vs)) o (.lst (vs' ++ [.ref p]))) := ((TK.box hb2 k3).trans (.new np)).trans (.lst h3')
      exact ⟨h3o, h3', (Pd.tk hp tk).snoc ⟨p, rfl, by rw [upd_ne npo]; exact upd_same⟩, (hb3.upd (hb3.neb np) (hb3.ner np)).upd nob nor, ((k2.trans k3).new np).own ho⟩
    walk_at "st"
    refine for_range (lo := 0) (fun i σ H2 => Wd <| ∃ (n : Nat) (vs' : List V) (t : List Pl) (y5 y6 : Option V), σ = [some (.ref b), some (.ref l), some (.int m), some (.ref o), some (.int n), y5, y6] ∧
      H2 o = some (.lst vs') ∧ Paired (PlV H2) vs' t ∧ ht t 0 = some n ∧ LabT x y z t ∧ (t.length + n : Int) ≤ m ∧ BoxAt H2 b r ∧ Kp [b] H H2) ⟨⟨0, [], [], none, none, rfl, upd_same, .nil, rfl, fun _ h => (by cases h), by simpa using hm0, hb0, by walk_at "kp"⟩⟩ ?_ ?_
    · rintro i σ H2 hi ⟨⟨n, vs', t, y5, y6, rfl, h2, hp, hh, hlt, hlen, hb2, k2⟩⟩
      have hvl := hp.length
      walk_at "st"
      intro c H3 c1 c2 hb3 k3
      have h3 : H3 o = some (.lst vs') := k3.at_ h2 noq
      have hl3 : H3 l = some (.tup [.int x, .int y, .int z]) := (k2.trans k3).at_ hl nlb
      have stay : ∀ s, s = [some (V.ref b), some (V.ref l), some (V.int m), some (V.ref o), some (V.int n), some (V.int (0 + i)), some (V.int c)] → Wd (∃ (n : Nat) (vs' : List V) (t : List Pl) (y5 y6 : Option V), s = [some (.ref b), some (.ref l), some (.int m), some (.ref o), some (.int n), y5, y6] ∧
        H3 o = some (.lst vs') ∧ Paired (PlV H3) vs' t ∧ ht t 0 = some n ∧ LabT x y z t ∧ (t.length + n : Int) ≤ m ∧ BoxAt H3 b r ∧ Kp [b] H H3) := fun s e => ⟨⟨n, vs', t, _, _, e, h3, Pd.tk hp (.box hb2 k3), hh, hlt, hlen, hb3, k2.trans k3⟩⟩
      -- the ways of the choice
      have hvlt : vs'.length < sizeLine := smallLt (by omega)
      walk_at "st"
      apply iteAD
      · intro e1 e2
        -- a call
        walk_at "st"
        intro d H4 d1 d2 hb4 k4
        walk_at "st"
        intro p np
        obtain ⟨p1, p2, p3, p4, p5⟩ := put H2 H4 p vs' t (.cal d) h2 hp hb2 (k3.trans k4) hb4 np k2
        walk_at "st"
        refine ⟨⟨n + 1, vs' ++ [V.ref p], t ++ [Pl.cal d], _, _, rfl, upd_same, p3, ?_, hlt.snoc ⟨d1, d2⟩, ?_, p4, p5⟩⟩
        · rw [ht_app, hh]; rfl
        · rw [List.length_append]; simp; omega
      · intro e1
        walk_at "st"
        apply iteAD
        · intro e2 e3
          -- a return
          walk_at "st"
          intro d H4 d1 d2 hb4 k4
          walk_at "st"
          intro p np
          obtain ⟨p1, p2, p3, p4, p5⟩ := put H2 H4 p vs' t (.ret d) h2 hp hb2 (k3.trans k4) hb4 np k2
          walk_at "st"
          obtain ⟨j, rfl⟩ : ∃ j, n = j + 1 := ⟨n - 1, by omega⟩
          have ej : ((j + 1 : Nat) : Int) - 1 = (j : Int) := by omega
          refine ⟨⟨j, vs' ++ [V.ref p], t ++ [Pl.ret d], _, _, by rw [← ej]; rfl, upd_same, p3, ?_, hlt.snoc ⟨d1, d2⟩, ?_, p4, p5⟩⟩
          · rw [ht_app, hh]; rfl
          · rw [List.length_append]; simp; omega
        · intro e2
          walk_at "st"
          apply iteD
          · intro e3
            walk_at "st"
            intro d H4 d1 d2 hb4 k4
            walk_at "st"
            intro p np
            obtain ⟨p1, p2, p3, p4, p5⟩ := put H2 H4 p vs' t (.let_ d) h2 hp hb2 (k3.trans k4) hb4 np k2
            walk_at "st"
            refine ⟨⟨n, vs' ++ [V.ref p], t ++ [Pl.let_ d], _, _, rfl, upd_same, p3, ?_, hlt.snoc ⟨d1, d2⟩, ?_, p4, p5⟩⟩
            · rw [ht_app, hh]; rfl
            · rw [List.length_append]; simp; omega
          · intro e3
            exact stay _ rfl
    · rintro σ H2 ⟨⟨n, vs', t, y5, y6, rfl, h2, hp, hh, hlt, hlen, hb2, k2⟩⟩
      have hn62 : (n : Int) ≤ 1000 := by omega
      walk_at "st"
      refine for_range (lo := 0) (fun i σ H2 => Wd <| ∃ (vs' : List V) (t : List Pl) (y5 : Option V), σ = [some (.ref b), some (.ref l), some (.int m), some (.ref o), some (.int n), y5, y6] ∧
        H2 o = some (.lst vs') ∧ Paired (PlV H2) vs' t ∧ ht t 0 = some (n - i) ∧ i ≤ n ∧ LabT x y z t ∧ (t.length + (n - i : Nat) : Int) ≤ m ∧ BoxAt H2 b r ∧ Kp [b] H H2) ⟨⟨vs', t, y5, rfl, h2, hp, hh, Nat.zero_le _, hlt, hlen, hb2, k2⟩⟩ ?_ ?_
      · rintro i σ H2 hi ⟨⟨vs', t, y5, rfl, h2, hp, hh, hin, hlt, hlen, hb2, k2⟩⟩
        have hvl := hp.length
        have hl2 : H2 l = some (.tup [.int x, .int y, .int z]) := k2.at_ hl nlb
        walk_at "st"
        intro c H3 c1 c2 hb3 k3
        walk_at "st"
        intro p np
        obtain ⟨p1, p2, p3, p4, p5⟩ := put H2 H3 p vs' t (.ret c) h2 hp hb2 k3 hb3 np k2
        have hvlt : vs'.length < sizeLine := smallLt (by omega)
        walk_at "st"
        refine ⟨⟨vs' ++ [V.ref p], t ++ [Pl.ret c], _, rfl, upd_same, p3, ?_, by omega, hlt.snoc ⟨c1, c2⟩, ?_, p4, p5⟩⟩
        · rw [ht_app, hh]
          obtain ⟨j, hj⟩ : ∃ j, n - i = j + 1 := ⟨n - (i + 1), by omega⟩
          rw [hj]
          show some j = _
          congr 1
          omega
        · rw [List.length_append]; simp; omega
      · rintro σ H2 ⟨⟨vs', t, y5, rfl, h2, hp, hh, hin, hlt, hlen, hb2, k2⟩⟩
        walk_at "st"
        have e0 : n - (n : Int).toNat = 0 := by omega
        rw [e0] at hh hlen
        exact q o H2 vs' t h2 hp hh hlt (by omega) ho hb2 k2
end
abbrev s__law_told : Stmt := topS 19
theorem sc__law_told : FnScope ["labels", "row", "e"] ["labels", "row"] (defScope s__law_told) := ⟨rfl, rfl, rfl, by decide +kernel, rfl, by decide +kernel, by decide +kernel⟩
section
variable {P : Program} {w : World} {K : PySem.W.Frag} {mg : Str → Option Value} {base : Heap}
theorem ok__law_told {f : Addr} {fd : FuncData} (F : Fun K "_law_told" "_law_told" s__law_told f fd) (B : Glb mg) (ccheck_text : CalX P w K mg base 5 "check_text" ["labels", "row"] (sp_check K mg))
    (k_cArchwayError : ClsC mg "ArchwayError") (k_cInvalidText : ClsC mg "InvalidText") (k_cInvalidPlace : ClsC mg "InvalidPlace") (k_cUnbalancedText : ClsC mg "UnbalancedText") (k_cTextTooLong : ClsC mg "TextTooLong") (k_zValueError : BltC mg "ValueError")
    (k_InvalidPlace : SupC P K mg "InvalidPlace" "InvalidPlace.__init__" "number") (k_UnbalancedText : SupC P K mg "UnbalancedText" "UnbalancedText.__init__" "place")
    (k_gP : CgtC K mg "InvalidPlace" "ArchwayError") (k_gB : CgtC K mg "UnbalancedText" "ArchwayError") (k_gL : CgtC K mg "TextTooLong" "ArchwayError")
    (k_PT : KitC K mg "InvalidPlace" "InvalidText" true) (k_PV : KibC K mg "InvalidPlace" "ValueError" true) (k_PP : KitC K mg "InvalidPlace" "InvalidPlace" true) (k_PB : KitC K mg "InvalidPlace" "UnbalancedText" false) (k_PL : KitC K mg "InvalidPlace" "TextTooLong" false)
    (k_BT : KitC K mg "UnbalancedText" "InvalidText" true) (k_BV : KibC K mg "UnbalancedText" "ValueError" true) (k_BP : KitC K mg "UnbalancedText" "InvalidPlace" false) (k_BB : KitC K mg "UnbalancedText" "UnbalancedText" true) (k_BL : KitC K mg "UnbalancedText" "TextTooLong" false)
    (k_LT : KitC K mg "TextTooLong" "InvalidText" true) (k_LV : KibC K mg "TextTooLong" "ValueError" true) (k_LP : KitC K mg "TextTooLong" "InvalidPlace" false) (k_LB : KitC K mg "TextTooLong" "UnbalancedText" false) (k_LL : KitC K mg "TextTooLong" "TextTooLong" true) : FnOk P w K mg base CX0 6 f fd ["labels", "row"] (sp__law_told K) := by
  refine F.ok sc__law_told (fun vs H Q E h => ?_) (fun cdv A outer s H vs Q E hr h => ?_)
  · obtain ⟨l, a, x, y, z, t, rfl, _⟩ := h
    rfl
  · obtain ⟨l, a, x, y, z, t, rfl, hl, hT, hlen, q1, q2, q3, q4⟩ := h
    have hu := hu_of hr
    refine ⟨_, (pss_cons (ps_try_as (i := 2) rfl rfl sc__law_told.nd rfl rfl ⟨by rfl, by decide, .inl k_cArchwayError.g⟩ takes0
  (fun W pn xe tk po => (pss_one (ps_expr (pe_calX ccheck_text (hr.mono (by decide)) tk (by rfl) (pa_cons (pv 0) (pa_cons (pv 1) pa_nil))))))
  (fun a oe cls d pn hz hf => (pss_cons (ps_if (PW.pt (pw_or2 (pt_not (pt_val (pe_callB (call_isX hz hf) (by rfl) B.isinstance (by decide +kernel) (pa_cons (pv 2) (pa_cons (ClsC.peS k_cInvalidText (by rfl) (by rfl)) pa_nil))))) (pw_or1 (pt_not (pt_val (pe_callB (call_isX hz hf) (by rfl) B.isinstance (by decide +kernel) (pa_cons (pv 2) (pa_cons (pe_bltn (v := .ty "ValueError") (by rfl) k_zValueError.z (by decide +kernel) rfl) pa_nil))))))))
  (pss_one (ps_ret (pe_tup (pa_cons pe_str (pa_cons pe_int pa_nil)))))
  pss_nil)
  (pss_cons (ps_if (pt_val (pe_callB (call_isX hz hf) (by rfl) B.isinstance (by decide +kernel) (pa_cons (pv 2) (pa_cons (ClsC.peS k_cInvalidPlace (by rfl) (by rfl)) pa_nil))))
  (pss_one (ps_ret (pe_tup (pa_cons pe_str (pa_cons (pe_xv hz hf (pv 2)) (pa_cons (pe_or2 (pe_callB (call_isX hz hf) (by rfl) B.isinstance (by decide +kernel) (pa_cons (pv 2) (pa_cons (ClsC.peS k_cUnbalancedText (by rfl) (by rfl)) pa_nil))) (pe_one (pe_callB (call_isX hz hf) (by rfl) B.isinstance (by decide +kernel) (pa_cons (pv 2) (pa_cons (ClsC.peS k_cTextTooLong (by rfl) (by rfl)) pa_nil))))) pa_nil))))))
  pss_nil)
  (pss_cons (ps_if (pt_val (pe_callB (call_isX hz hf) (by rfl) B.isinstance (by decide +kernel) (pa_cons (pv 2) (pa_cons (ClsC.peS k_cUnbalancedText (by rfl) (by rfl)) pa_nil))))
  (pss_one (ps_ret (pe_tup (pa_cons pe_str (pa_cons (pe_xv hz hf (pv 2)) (pa_cons (pe_callB (call_isX hz hf) (by rfl) B.isinstance (by decide +kernel) (pa_cons (pv 2) (pa_cons (ClsC.peS k_cTextTooLong (by rfl) (by rfl)) pa_nil))) pa_nil))))))
  pss_nil)
  (pss_one (ps_ret (pe_tup (pa_cons pe_str (pa_cons pe_int (pa_cons (pe_not (pe_callB (call_isX hz hf) (by rfl) B.isinstance (by decide +kernel) (pa_cons (pv 2) (pa_cons (ClsC.peS k_cTextTooLong (by rfl) (by rfl)) pa_nil)))) pa_nil)))))))))))
  (pss_one (ps_ret pe_non))), ?_⟩
    have cP := k_gP.c
    have cB := k_gB.c
    have cL := k_gL.c
    have xP := ExcC.xf cP
    have xB := ExcC.xf cB
    have f1 := k_PT.e; have f2 := k_PV.e; have f3 := k_PP.e; have f4 := k_PB.e; have f5 := k_PL.e
    have g1 := k_BT.e; have g2 := k_BV.e; have g3 := k_BP.e; have g4 := k_BB.e; have g5 := k_BL.e
    have h1 := k_LT.e; have h2 := k_LV.e; have h3 := k_LP.e; have h4 := k_LB.e; have h5 := k_LL.e
    have nP : PySem.W.findIn K (.ref (clsA mg "InvalidPlace")) "number" = some none := by obtain ⟨_, T⟩ := k_InvalidPlace.ex; exact T.noN
    have nB : PySem.W.findIn K (.ref (clsA mg "UnbalancedText")) "place" = some none := by obtain ⟨_, T⟩ := k_UnbalancedText.ex; exact T.noN
    walk_at "st"
    refine ⟨?_, ?_, ?_, ?_⟩
    · intro i d H' hi hb nd hd kk
      refine ⟨true, k_gP.m, fun _ e ne => ?_, fun z => by cases z⟩
      have hd' : H' d = some (.xd [("number", .int (i : Int))]) := hd
      have ho : (some d = (none : Option Addr) ∨ ∃ (dd : Addr) (fs : List (Str × V)), some d = some dd ∧ H' dd = some (.xd fs)) := .inr ⟨d, _, rfl, hd'⟩
      walk_at "st"
      intro p np
      exact q1 i p _ hi hb upd_same (by walk_at "kp")
    · intro b n d H' ha hf nd hd kk
      refine ⟨true, k_gB.m, fun _ e ne => ?_, fun z => by cases z⟩
      have hd' : H' d = some (.xd [("place", .int (n : Int))]) := hd
      have ho : (some d = (none : Option Addr) ∨ ∃ (dd : Addr) (fs : List (Str × V)), some d = some dd ∧ H' dd = some (.xd fs)) := .inr ⟨d, _, rfl, hd'⟩
      walk_at "st"
      intro p np
      exact q2 b n p _ ha hf upd_same (by walk_at "kp")
    · intro H' ha hf hl2 kk
      refine ⟨true, k_gL.m, fun _ e ne => ?_, fun z => by cases z⟩
      have ho : ((none : Option Addr) = none ∨ ∃ (dd : Addr) (fs : List (Str × V)), (none : Option Addr) = some dd ∧ H' dd = some (.xd fs)) := .inl rfl
      walk_at "st"
      intro p np
      exact q3 p _ ha hf hl2 upd_same (by walk_at "kp")
    · intro H' ha hf hl2 kk
      walk_at "st"
      exact q4 H' ha hf hl2 kk
end
abbrev s__law_fault : Stmt := topS 20
theorem sc__law_fault : FnScope ["row", "opened", "at"] ["row"] (defScope s__law_fault) := ⟨rfl, rfl, rfl, by decide +kernel, rfl, by decide +kernel, by decide +kernel⟩
section
variable {P : Program} {w : World} {K : PySem.W.Frag} {mg : Str → Option Value} {base : Heap}
theorem ok__law_fault {f : Addr} {fd : FuncData} (F : Fun K "_law_fault" "_law_fault" s__law_fault f fd) (B : Glb mg) : FnOk P w K mg base CX0 1 f fd ["row"] (sp__law_fault K) := by
  refine F.ok sc__law_fault (fun vs H Q E h => ?_) (fun cdv A outer s H vs Q E hr h => ?_)
  · obtain ⟨a, t, rfl, _⟩ := h
    rfl
  · obtain ⟨a, t, rfl, hT, hlen, q⟩ := h
    have hu := hu_of hr
    refine ⟨_, (pss_cons (ps_set (i := 1) sc__law_fault.nd rfl (.inl rfl) (pe_lst pa_nil))
  (pss_cons (ps_for PassesOwn.never rfl (pi_rn1 (by rfl) B.range (pa_cons (pe_callB (call_lenL) (by rfl) B.len PySem.boot_len (pa_cons (pv 0) pa_nil)) pa_nil)) (pg_name (i := 2) sc__law_fault.nd rfl (.inl rfl))
  (pss_cut (ps_if (pt_cmpR op_eq (pe_ix ix_tup (pe_ix ix_list (pv 0) (pv 2) (fun _ _ => rfl)) pe_int (fun _ _ => rfl)) pe_str (nomark _))
  (pss_one (ps_set (i := 1) sc__law_fault.nd rfl (.inl rfl) (pe_op op_cat (pv 1) (pe_lst (pa_cons (pv 2) pa_nil)))))
  pss_nil)
  (pss_one (ps_if (pt_cmpR op_eq (pe_ix ix_tup (pe_ix ix_list (pv 0) (pv 2) (fun _ _ => rfl)) pe_int (fun _ _ => rfl)) pe_str (nomark _))
  (pss_cons (ps_if (pt_cmpR op_eq (pe_callB (call_lenL) (by rfl) B.len PySem.boot_len (pa_cons (pv 1) pa_nil)) pe_int (nomark _))
  (pss_one (ps_ret (pv 2)))
  pss_nil)
  (pss_one (ps_set (i := 1) sc__law_fault.nd rfl (.inl rfl) (pe_slice sl_list (pv 1) po_none (po_some (pe_un un_neg pe_int))))))
  pss_nil))))
  (pss_cons (ps_if (pt_cmpR op_gt (pe_callB (call_lenL) (by rfl) B.len PySem.boot_len (pa_cons (pv 1) pa_nil)) pe_int (nomark _))
  (pss_one (ps_ret (pe_ix ix_list (pv 1) pe_int (fun _ _ => rfl))))
  pss_nil)
  (pss_one (ps_ret (pe_op op_sub pe_int pe_int)))))), ?_⟩
    obtain ⟨vs, hS, hP⟩ := hT.ex
    have hvl := hP.length
    have rd : ∀ (i : Nat), i < vs.length → ∃ (p : Pl) (tp : Addr), t[i]? = some p ∧ vs[i]? = some (.ref tp) ∧ H tp = some (.tup p.vs) := by
      intro i hi
      obtain ⟨p, hp, tp, e, htp⟩ := Pd.get hP (List.getElem?_eq_getElem hi)
      exact ⟨p, tp, hp, by rw [List.getElem?_eq_getElem hi, e], htp⟩
    walk_at "st"
    intro o ho
    walk_at "st"
    refine for_range (lo := 0) (fun i σ H2 => Wd <| ∃ (st : List Nat) (o : Addr) (y2 : Option V), σ = [some (.ref a), some (.ref o), y2] ∧ H2 o = some (.lst (natsV st.reverse)) ∧ i ≤ vs.length ∧ st.length ≤ i ∧
      flt t 0 [] = flt (t.drop i) i st ∧ Kp [] H H2) ⟨⟨[], o, none, rfl, upd_same, Nat.zero_le _, Nat.le_refl _, rfl, by walk_at "kp"⟩⟩ ?_ ?_
    · rintro i σ H2 hi ⟨⟨st, o, y2, rfl, ho, hi', hsl, hf, k2⟩⟩
      have hiv : i < vs.length := by simpa using hi
      obtain ⟨p, tp, hp, hv, htp⟩ := rd i hiv
      have htp2 := k2.at0 htp
      rw [drop_at hp] at hf
      have ha := at0n hv
      have hb := vs0 p
      have hS2 := k2.seq hS
      have hnl : (natsV st.reverse).length = st.length := by simp [natsV]
      cases p with
      | let_ l =>
        walk_at "st"
        refine ⟨fun σ' H' => Wd (H' = H2 ∧ σ' = [some (.ref a), some (.ref o), some (.int (0 + (i : Int)))]), by walk_at "st"; exact ⟨⟨rfl, rfl⟩⟩, ?_⟩
        rintro σ' H' ⟨⟨rfl, rfl⟩⟩
        walk_at "st"
        exact ⟨⟨st, o, _, rfl, ho, hiv, by omega, hf, k2⟩⟩
      | cal l =>
        walk_at "st"
        refine ⟨fun σ' H' => Wd <| ∃ o', σ' = [some (.ref a), some (.ref o'), some (.int (0 + (i : Int)))] ∧ H' o' = some (.lst (natsV (i :: st).reverse)) ∧ Kp [] H2 H', ?_, ?_⟩
        · walk_at "st"
          intro o1 n1
          walk_at "st"
          intro o2 n2
          refine ⟨⟨o2, rfl, ?_, by walk_at "kp"⟩⟩
          rw [upd_same]
          simp [natsV]
        · rintro σ' H' ⟨⟨o', rfl, ho', k3⟩⟩
          have htp3 := k3.at0 htp2
          have hS3 := k3.seq hS2
          walk_at "st"
          exact ⟨⟨i :: st, o', _, rfl, ho', hiv, by simp only [List.length_cons]; omega, hf, k2.trans k3⟩⟩
      | ret l =>
        walk_at "st"
        refine ⟨fun σ' H' => Wd (H' = H2 ∧ σ' = [some (.ref a), some (.ref o), some (.int (0 + (i : Int)))]), by walk_at "st"; exact ⟨⟨rfl, rfl⟩⟩, ?_⟩
        rintro σ' H' ⟨⟨rfl, rfl⟩⟩
        cases st with
        | nil =>
          walk_at "st"
          have hf2 : flt t 0 [] = some (true, i) := hf
          have := q H' k2
          rw [fz_some hf2] at this
          rw [Int.zero_add]
          exact this
        | cons j st =>
          walk_at "st"
          refine iteN (by simp [natsV]; try omega) ?_
          walk_at "st"
          intro o1 n1
          refine ⟨⟨st, o1, _, rfl, ?_, hiv, by simp only [List.length_cons] at hsl; omega, hf, by walk_at "kp"⟩⟩
          rw [upd_same, cut_last, nats_last]
    · rintro σ H2 ⟨⟨st, o, y2, rfl, ho, hi', hsl, hf, k2⟩⟩
      have e0 : t.drop ((vs.length : Nat) : Int).toNat = [] := by simp [hvl]
      rw [e0] at hf
      have hnl : (natsV st.reverse).length = st.length := by simp [natsV]
      cases hl : st.getLast? with
      | none =>
        have es : st = [] := List.getLast?_eq_none_iff.mp hl
        subst es
        walk_at "st"
        have := q H2 k2
        rw [fz_none (by rw [hf]; rfl)] at this
        exact this
      | some j =>
        have hne : st ≠ [] := by intro z; rw [z] at hl; cases hl
        have hpos : 0 < st.length := List.length_pos_iff.mpr hne
        have h0 : atI (natsV st.reverse) 0 = some (.int (j : Int)) := by
          refine atI_nat (j := 0) ?_
          rw [natsV, List.getElem?_map, ← List.head?_eq_getElem?, List.head?_reverse, hl]
          rfl
        walk_at "st"
        refine iteY (by rw [hnl]; simp; try omega) ?_
        walk_at "st"
        have := q H2 k2
        rw [fz_some (b := false) (n := j) (by rw [hf]; unfold flt; rw [hl])] at this
        exact this
end
abbrev s_law : Stmt := topS 21
theorem sc_law : FnScope ["script", "box", "labels", "size", "row", "choice", "at", "kind", "most"] ["script"] (defScope s_law) := ⟨rfl, rfl, rfl, by decide +kernel, rfl, by decide +kernel, by decide +kernel⟩
section
variable {P : Program} {w : World} {K : PySem.W.Frag} {mg : Str → Option Value} {base : Heap}
theorem ok_law {f : Addr} {fd : FuncData} (F : Fun K "law" "law" s_law f fd) (B : Glb mg) (c_law_box : Cal P w K mg base 2 "_law_box" ["script"] (sp__law_box K)) (c_law_labels : Cal P w K mg base 2 "_law_labels" ["box"] sp__law_labels)
    (c_law_next : Cal P w K mg base 1 "_law_next" ["box", "modulus"] sp__law_next) (c_law_text : Cal P w K mg base 2 "_law_text" ["box", "labels", "most"] (sp__law_text K))
    (c_law_told : Cal P w K mg base 6 "_law_told" ["labels", "row"] (sp__law_told K)) (c_law_fault : Cal P w K mg base 1 "_law_fault" ["row"] (sp__law_fault K)) : FnOk P w K mg base CX0 7 f fd ["script"] (sp_law K) := by
  refine F.ok sc_law (fun vs H Q E h => ?_) (fun cdv A outer s H vs Q E hr h => ?_)
  · obtain ⟨a, ns, rfl, _⟩ := h
    rfl
  · obtain ⟨a, ns, rfl, hS, hn, q⟩ := h
    have hu := hu_of hr
    refine ⟨_, (pss_cons (ps_set (i := 1) sc_law.nd rfl (.inl rfl) (pe_cal c_law_box (hr.mono (by decide)) (by rfl) (pa_cons (pv 0) pa_nil)))
  (pss_cons (ps_set (i := 2) sc_law.nd rfl (.inl rfl) (pe_cal c_law_labels (hr.mono (by decide)) (by rfl) (pa_cons (pv 1) pa_nil)))
  (pss_cons (ps_set (i := 3) sc_law.nd rfl (.inl rfl) (pe_cal c_law_next (hr.mono (by decide)) (by rfl) (pa_cons (pv 1) (pa_cons pe_int pa_nil))))
  (pss_cut (ps_if (pt_cmpR op_eq (pe_cal c_law_next (hr.mono (by decide)) (by rfl) (pa_cons (pv 1) (pa_cons pe_int pa_nil))) pe_int (nomark _))
  (pss_one (ps_set (i := 3) sc_law.nd rfl (.inl rfl) (pe_op op_add pe_int (pe_cal c_law_next (hr.mono (by decide)) (by rfl) (pa_cons (pv 1) (pa_cons pe_int pa_nil))))))
  pss_nil)
  (pss_cons (ps_set (i := 4) sc_law.nd rfl (.inl rfl) (pe_cal c_law_text (hr.mono (by decide)) (by rfl) (pa_cons (pv 1) (pa_cons (pv 2) (pa_cons (pv 3) pa_nil)))))
  (pss_cons (ps_set (i := 5) sc_law.nd rfl (.inl rfl) (pe_cal c_law_next (hr.mono (by decide)) (by rfl) (pa_cons (pv 1) (pa_cons pe_int pa_nil))))
  (pss_cons (ps_if (PW.pt (pw_and2 (pt_cmpR op_lt (pv 5) pe_int (nomark _)) (pw_and1 (pt_cmpR op_gt (pe_callB (call_lenL) (by rfl) B.len PySem.boot_len (pa_cons (pv 4) pa_nil)) pe_int (nomark _)))))
  (pss_cons (ps_set (i := 6) sc_law.nd rfl (.inl rfl) (pe_cal c_law_next (hr.mono (by decide)) (by rfl) (pa_cons (pv 1) (pa_cons (pe_callB (call_lenL) (by rfl) B.len PySem.boot_len (pa_cons (pv 4) pa_nil)) pa_nil))))
  (pss_cons (ps_set (i := 7) sc_law.nd rfl (.inl rfl) (pe_ix ix_tup (pe_ix ix_list (pv 4) (pv 6) (fun _ _ => rfl)) pe_int (fun _ _ => rfl)))
  (pss_cons (ps_set (i := 8) sc_law.nd rfl (.inl rfl) (pe_ix ix_tup (pv 2) pe_int (fun _ _ => rfl)))
  (pss_cut (ps_if (pt_cmpR op_eq (pv 7) pe_str (nomark _))
  (pss_one (ps_set (i := 8) sc_law.nd rfl (.inl rfl) (pe_ix ix_tup (pv 2) pe_int (fun _ _ => rfl))))
  pss_nil)
  (pss_cut (ps_if (pt_cmpR op_eq (pv 7) pe_str (nomark _))
  (pss_one (ps_set (i := 8) sc_law.nd rfl (.inl rfl) (pe_ix ix_tup (pv 2) pe_int (fun _ _ => rfl))))
  pss_nil)
  (pss_cons (ps_asg (pe_tup (pa_cons (pv 7) (pa_cons (pe_ix ix_list (pe_lst (pa_cons (pv 8) (pa_cons (pe_op op_sub pe_int pe_int) (pa_cons (pe_op op_add (pv 8) pe_int) pa_nil)))) (pe_cal c_law_next (hr.mono (by decide)) (by rfl) (pa_cons (pv 1) (pa_cons pe_int pa_nil))) (fun _ _ => rfl)) pa_nil))) (pg_sub (pv 4) (pv 6) set_list))
  (pss_one (ps_ret (pe_cmpR (op_eqD hr.units) (pe_cal c_law_told (hr.mono (by decide)) (by rfl) (pa_cons (pv 2) (pa_cons (pe_callTy (call_listL) (by rfl) B.list (by decide +kernel) (pa_cons (pv 4) pa_nil)) pa_nil))) (pe_tup (pa_cons pe_str (pa_cons (pv 6) (pa_cons pe_bl pa_nil)))) (nomark _))))))))))
  pss_nil)
  (pss_cons (ps_if (pt_cmpR op_eq (pv 5) pe_int (nomark _))
  (pss_cons (ps_set (i := 6) sc_law.nd rfl (.inl rfl) (pe_cal c_law_next (hr.mono (by decide)) (by rfl) (pa_cons (pv 1) (pa_cons (pe_op op_add (pe_callB (call_lenL) (by rfl) B.len PySem.boot_len (pa_cons (pv 4) pa_nil)) pe_int) pa_nil))))
  (pss_cons (ps_set (i := 4) sc_law.nd rfl (.inl rfl) (pe_op op_cat (pe_op op_cat (pe_slice sl_list (pv 4) po_none (po_some (pv 6))) (pe_lst (pa_cons (pe_tup (pa_cons (pe_ix ix_list (pe_lst (pa_cons pe_str (pa_cons pe_str pa_nil))) (pe_cal c_law_next (hr.mono (by decide)) (by rfl) (pa_cons (pv 1) (pa_cons pe_int pa_nil))) (fun _ _ => rfl)) (pa_cons pe_int pa_nil))) pa_nil))) (pe_slice sl_list (pv 4) (po_some (pv 6)) po_none)))
  (pss_one (ps_ret (pe_cmpR (op_eqD hr.units) (pe_cal c_law_told (hr.mono (by decide)) (by rfl) (pa_cons (pv 2) (pa_cons (pe_callTy (call_listL) (by rfl) B.list (by decide +kernel) (pa_cons (pv 4) pa_nil)) pa_nil))) (pe_tup (pa_cons pe_str (pa_cons (pe_cal c_law_fault (hr.mono (by decide)) (by rfl) (pa_cons (pv 4) pa_nil)) (pa_cons pe_bl pa_nil)))) (nomark _))))))
  pss_nil)
  (pss_cons (ps_if (pt_cmpR op_gt (pe_callB (call_lenL) (by rfl) B.len PySem.boot_len (pa_cons (pv 4) pa_nil)) pe_int (nomark _))
  (pss_one (ps_ret (pe_cmpR (op_eqD hr.units) (pe_cal c_law_told (hr.mono (by decide)) (by rfl) (pa_cons (pv 2) (pa_cons (pe_callTy (call_listL) (by rfl) B.list (by decide +kernel) (pa_cons (pv 4) pa_nil)) pa_nil))) (pe_tup (pa_cons pe_str (pa_cons pe_int (pa_cons pe_bl pa_nil)))) (nomark _))))
  pss_nil)
  (pss_one (ps_ret (pe_cmpR op_isN (pe_cal c_law_told (hr.mono (by decide)) (by rfl) (pa_cons (pv 2) (pa_cons (pe_callTy (call_listL) (by rfl) B.list (by decide +kernel) (pa_cons (pv 4) pa_nil)) pa_nil))) pe_non (nomark _))))))))))))), ?_⟩
    walk_at "st"
    intro b r H1 hb1 _ k1
    walk_at "st"
    intro l H2 x y z hL hl _ hb2 k2
    walk_at "st"
    intro m H3 m0 m1 hb3 k3
    have hl3 : H3 l = some (.tup [.int x, .int y, .int z]) := k3.at_ hl (hb2.tupin hl)
    walk_at "st"
    refine ⟨fun σ' H' => Wd <| ∃ (sz : Int), σ' = [some (.ref a), some (.ref b), some (.ref l), some (.int sz), none, none, none, none, none] ∧ 0 ≤ sz ∧ sz ≤ 205 ∧ BoxAt H' b r ∧ H' l = some (.tup [.int x, .int y, .int z]), ?_, ?_⟩
    · walk_at "st"
      intro c Hc c0 c1 hbc kc
      have hlc : Hc l = some (.tup [.int x, .int y, .int z]) := kc.at_ hl3 (hb3.tupin hl3)
      walk_at "st"
      apply iteD
      · intro e
        walk_at "st"
        intro v Hv v0 v1 hbv kv
        walk_at "st"
        exact ⟨⟨_, rfl, by omega, by omega, hbv, kv.at_ hlc (hbc.tupin hlc)⟩⟩
      · intro e
        exact ⟨⟨_, rfl, by omega, by omega, hbc, hlc⟩⟩
    rintro σ' H4 ⟨⟨sz, rfl, s0, s1, hb4, hl4⟩⟩
    walk_at "st"
    intro p H5 vs t h5 hp hbal hlt hlen _ hb5 k5
    have hl5 := k5.at_ hl4 (hb4.tupin hl4)
    have hvl := hp.length
    have hlen2 : t.length ≤ 205 := by omega
    have hall := LabT.all hlt
    have hflt := Bal.flt hbal
    walk_at "st"
    intro ch H6 ch0 ch1 hb6 k6
    have hl6 := k6.at_ hl5 (hb5.tupin hl5)
    have hR6 : RowAt H6 p t := RowAt.box ⟨vs, h5, hp⟩ hb5 k6
    obtain ⟨vs6, e6, hp6⟩ := hR6.ex
    have hv6 := hp6.length
    walk_at "st"
    apply iteAD
    · intro ec el
      have hm0 : (0 : Int) < (vs6.length : Int) := by omega
      walk_at "st"
      intro n H7 n0 n1 hb7 k7
      have hl7 := k7.at_ hl6 (hb6.tupin hl6)
      have hR7 := hR6.box hb6 k7
      obtain ⟨vs7, e7, hp7⟩ := hR7.ex
      have hv7 := hp7.length
      obtain ⟨n, rfl⟩ := Int.eq_ofNat_of_zero_le n0
      have hnt : n < t.length := by omega
      have hp : t[n]? = some t[n] := List.getElem?_eq_getElem hnt
      obtain ⟨v7, hv, tp, rfl, htp⟩ := Pd.get' hp7 hp
      generalize hq0 : t[n] = q0 at hp htp
      have ha := atI_nat (j := n) hv
      have hb := vs0 q0
      walk_at "st"
      refine ⟨fun σ' H' => Wd (H' = H7 ∧ σ' = [some (.ref a), some (.ref b), some (.ref l), some (.int sz), some (.ref p), some (.int ch), some (.int (n : Int)), some (.str q0.kind), some (.int (bndC x y q0))]), ?_, ?_⟩
      · cases q0 with
        | let_ c => walk_at "st"; exact ⟨⟨rfl, rfl⟩⟩
        | cal c => walk_at "st"; exact ⟨⟨rfl, rfl⟩⟩
        | ret c => walk_at "st"; exact ⟨⟨rfl, rfl⟩⟩
      rintro σ' H' ⟨⟨rfl, rfl⟩⟩
      refine ⟨fun σ' H'' => Wd (H'' = H' ∧ σ' = [some (.ref a), some (.ref b), some (.ref l), some (.int sz), some (.ref p), some (.int ch), some (.int (n : Int)), some (.str q0.kind), some (.int (bnd x y z q0))]), ?_, ?_⟩
      · cases q0 with
        | let_ c => walk_at "st"; exact ⟨⟨rfl, rfl⟩⟩
        | cal c => walk_at "st"; exact ⟨⟨rfl, rfl⟩⟩
        | ret c => walk_at "st"; exact ⟨⟨rfl, rfl⟩⟩
      rintro σ' H'' ⟨⟨rfl, rfl⟩⟩
      walk_at "st"
      intro u nu
      have kU : Kp [] H'' (upd H'' u (.lst [V.int (bnd x y z q0), V.int (0 - 1), V.int (bnd x y z q0 + 1)])) := (Kp.refl _ _).new nu
      have hbU := hb7.kp kU
      have hRU := hR7.kp kU
      have hlU := kU.at0 hl7
      walk_at "st"
      intro c H8 c0 c1 hb8 k8
      have hl8 := k8.at_ hlU (hbU.tupin hlU)
      have hR8 := hRU.box hbU k8
      have hu8 : H8 u = some (.lst [V.int (bnd x y z q0), V.int (0 - 1), V.int (bnd x y z q0 + 1)]) := k8.at_ upd_same (hb7.nin nu)
      obtain ⟨lb, hlb, hbad⟩ := bad3 (bnd x y z q0) c c0 c1
      walk_at "st"
      intro tq ntq
      rw [setL_vs]
      have kT : Kp [] H8 (upd H8 tq (.tup (setL q0 lb).vs)) := (Kp.refl _ _).new ntq
      have hb9 := hb8.kp kT
      have hR9 := hR8.kp kT
      have hl9 := kT.at0 hl8
      have ht9 : (upd H8 tq (.tup (setL q0 lb).vs)) tq = some (.tup (setL q0 lb).vs) := upd_same
      obtain ⟨vs9, e9, hp9⟩ := hR9.ex
      have hv9 := hp9.length
      have ix : ixN vs9.length (n : Int) = some n := by
        unfold ixN
        rw [if_pos (by omega), if_pos (by omega)]
        rfl
      walk_at "st"
      have tk := TK.lst (o := .lst (vs9.set n (.ref tq))) e9
      have hpX : Paired (PlV (upd (upd H8 tq (.tup (setL q0 lb).vs)) p (.lst (vs9.set n (.ref tq))))) (vs9.set n (.ref tq)) (t.set n (setL q0 lb)) := Pd.set ⟨tq, rfl, tk _ _ ht9⟩ n (Pd.tk hp9 tk)
      have hlX : (upd (upd H8 tq (.tup (setL q0 lb).vs)) p (.lst (vs9.set n (.ref tq)))) l = some (.tup [.int x, .int y, .int z]) := by
        rw [upd_ne (ne_of hl9 e9 (by intro z; cases z))]; exact hl9
      generalize hHX : upd (upd H8 tq (.tup (setL q0 lb).vs)) p (.lst (vs9.set n (.ref tq))) = HX at hpX hlX
      have hpp : HX p = some (.lst (vs9.set n (.ref tq))) := by rw [← hHX]; exact upd_same
      have hlenX : (t.set n (setL q0 lb)).length ≤ 250 := by rw [List.length_set]; omega
      have hvX := hpX.length
      have hbadX : BadAt x y z (t.set n (setL q0 lb)) n := set_bad hall hp (setL_bad hbad)
      walk_at "st"
      intro u2 nu2
      have kV : Kp [] HX (upd HX u2 (.lst (vs9.set n (.ref tq)))) := (Kp.refl _ _).new nu2
      have gV : TxtAt K (upd HX u2 (.lst (vs9.set n (.ref tq)))) u2 (t.set n (setL q0 lb)) := ⟨_, SqL.of upd_same, Pd.tk hpX (.new nu2)⟩
      have hlV := kV.at0 hlX
      walk_at "st"
      refine ⟨?_, ?_, ?_, ?_⟩
      · intro i pr Hr hi hbi hpr kr
        have ei := hbadX.uniq hbi
        subst ei
        walk_at "st"
        intro w nw
        have hpr2 : (upd Hr w (toldV "place" n)) pr = some (toldV "place" n) := by rw [upd_ne (ne_of_none hpr nw)]; exact hpr
        have hw : (upd Hr w (toldV "place" n)) w = some (toldV "place" n) := upd_same
        have d1 := told_dp (K := K) hpr2
        have d2 := told_dp (K := K) hw
        have d3 := toldD_shaped (n := (n : Int)) okPlace
        walk_at "st"
        rw [eqv_self d3]
        exact q _
      · intro b' n' pr Hr ha' _ _ _
        exact absurd hbadX fun h => ha'.notBad h
      · intro pr Hr ha' _ _ _ _
        exact absurd hbadX fun h => ha'.notBad h
      · intro Hr ha' _ _ _
        exact absurd hbadX fun h => ha'.notBad h
    · intro _
      walk_at "st"
      apply iteD
      · intro ec
        have hm0 : (0 : Int) < (vs6.length : Int) + 1 := by omega
        walk_at "st"
        intro n H7 n0 n1 hb7 k7
        have hl7 := k7.at_ hl6 (hb6.tupin hl6)
        have hR7 := hR6.box hb6 k7
        obtain ⟨vs7, e7, hp7⟩ := hR7.ex
        have hv7 := hp7.length
        obtain ⟨n, rfl⟩ := Int.eq_ofNat_of_zero_le n0
        have c1 : cutV vs7 none (some (n : Int)) = vs7.take n := cut_take
        have c2 : cutV vs7 (some (n : Int)) none = vs7.drop n := cut_drop
        have l1 : (cutV vs7 none (some (n : Int))).length ≤ 205 := by rw [c1, List.length_take]; omega
        have l2 : (cutV vs7 (some (n : Int)) none).length ≤ 205 := by rw [c2, List.length_drop]; omega
        walk_at "st"
        intro s1 ns1
        have hs1 : (upd H7 s1 (.lst (cutV vs7 none (some (n : Int))))) s1 = some (.lst (cutV vs7 none (some (n : Int)))) := upd_same
        have k1' : Kp [] H7 (upd H7 s1 (.lst (cutV vs7 none (some (n : Int))))) := (Kp.refl _ _).new ns1
        have hTA : RowAt (upd H7 s1 (.lst (cutV vs7 none (some (n : Int))))) s1 (t.take n) := ⟨_, hs1, Pd.tk (show Paired (PlV H7) (cutV vs7 none (some (n : Int))) (t.take n) by rw [c1]; exact Pd.take n hp7) (.kp k1')⟩
        generalize upd H7 s1 (.lst (cutV vs7 none (some (n : Int)))) = HA at hTA k1'
        have hbA := hb7.kp k1'
        have hRA := hR7.kp k1'
        have hlA := k1'.at0 hl7
        walk_at "st"
        intro L nL
        have kL : Kp [] HA (upd HA L (.lst [V.str "call", V.str "return"])) := (Kp.refl _ _).new nL
        have hbL := hbA.kp kL
        have hRL := hRA.kp kL
        have hlL := kL.at0 hlA
        have hTL := hTA.kp kL
        walk_at "st"
        intro c Hc cc0 cc1 hbC kC
        have hLC : Hc L = some (.lst [V.str "call", V.str "return"]) := kC.at_ upd_same (hbA.nin nL)
        have hTC := hTL.box hbL kC
        have hlC := kC.at_ hlL (hbL.tupin hlL)
        have hRC := hRL.box hbL kC
        obtain ⟨p0, q0, q1, q2, q3⟩ := kind2 c cc0 cc1
        walk_at "st"
        intro pl npl
        rw [q2]
        have hpl : (upd Hc pl (.tup p0.vs)) pl = some (.tup p0.vs) := upd_same
        have kP : Kp [] Hc (upd Hc pl (.tup p0.vs)) := (Kp.refl _ _).new npl
        generalize upd Hc pl (.tup p0.vs) = HP at hpl kP
        have hbP := hbC.kp kP
        have hRP := hRC.kp kP
        have hlP := kP.at0 hlC
        obtain ⟨vsT, eT, hpT⟩ := (hTC.kp kP).ex
        have hvT := hpT.length
        have l1' : vsT.length ≤ 205 := by rw [hvT, List.length_take]; omega
        obtain ⟨vsP, eP, hpP⟩ := hRP.ex
        have hvP := hpP.length
        have c2' : cutV vsP (some (n : Int)) none = vsP.drop n := cut_drop
        have l2' : (cutV vsP (some (n : Int)) none).length ≤ 205 := by rw [c2', List.length_drop]; omega
        walk_at "st"
        intro s3 ns3
        walk_at "st"
        intro s4 ns4
        walk_at "st"
        intro s5 ns5
        walk_at "st"
        intro s6 ns6
        have hp3 : Paired (PlV HP) (cutV vsP (some (n : Int)) none) (t.drop n) := by rw [c2']; exact Pd.drop n hpP
        have kF : ∀ HF : Hp, Kp [] HP HF → True := fun _ _ => trivial
        have hRF : RowAt (upd (upd (upd (upd HP s3 (.lst [V.ref pl])) s4 (.lst (vsT ++ [V.ref pl]))) s5 (.lst (cutV vsP (some (n : Int)) none))) s6 (.lst (vsT ++ [V.ref pl] ++ cutV vsP (some (n : Int)) none))) s6 (t.take n ++ [p0] ++ t.drop n) :=
          ⟨_, upd_same, Pd.app ((Pd.tk hpT (.kp (by walk_at "kp"))).snoc ⟨pl, rfl, TK.kp (by walk_at "kp") _ _ hpl⟩) (Pd.tk hp3 (.kp (by walk_at "kp")))⟩
        have hlF : (upd (upd (upd (upd HP s3 (.lst [V.ref pl])) s4 (.lst (vsT ++ [V.ref pl]))) s5 (.lst (cutV vsP (some (n : Int)) none))) s6 (.lst (vsT ++ [V.ref pl] ++ cutV vsP (some (n : Int)) none))) l = some (.tup [.int x, .int y, .int z]) := by walk_at "hs"
        generalize upd (upd (upd (upd HP s3 (.lst [V.ref pl])) s4 (.lst (vsT ++ [V.ref pl]))) s5 (.lst (cutV vsP (some (n : Int)) none))) s6 (.lst (vsT ++ [V.ref pl] ++ cutV vsP (some (n : Int)) none)) = HF at hRF hlF
        have hallF : AllHas x y z (t.take n ++ [p0] ++ t.drop n) := put_has n hall (lab0_has q0 hL)
        obtain ⟨fb, fn, hfF⟩ := put_fault n hflt q3
        have hlenF : (t.take n ++ [p0] ++ t.drop n).length ≤ 250 := by
          simp only [List.length_append, List.length_take, List.length_drop, List.length_cons, List.length_nil]; omega
        generalize t.take n ++ [p0] ++ t.drop n = tF at hRF hallF hfF hlenF
        obtain ⟨vsF, eF, hpF⟩ := hRF.ex
        have hvF := hpF.length
        walk_at "st"
        intro u2 nu2
        have kV : Kp [] HF (upd HF u2 (.lst vsF)) := (Kp.refl _ _).new nu2
        have gV : TxtAt K (upd HF u2 (.lst vsF)) u2 tF := ⟨_, SqL.of upd_same, Pd.tk hpF (.new nu2)⟩
        have hlV := kV.at0 hlF
        have hRV := hRF.kp kV
        have hl1k : tF.length ≤ 1000 := by omega
        walk_at "st"
        refine ⟨?_, ?_, ?_, ?_⟩
        · intro i pr Hr hi hbi _ _
          exact absurd hbi fun h => hallF.notBad h
        · intro b' n' pr Hr _ hf' hpr kr
          rw [hfF] at hf'
          cases hf'
          have gR := (hRV.kp kr).txt (K := K)
          walk_at "st"
          intro H9 k9
          rw [fz_some hfF]
          have hpr9 := k9.at0 hpr
          walk_at "st"
          intro w nw
          have hpr2 : (upd H9 w (toldV "balance" fn)) pr = some (toldV "balance" fn) := by rw [upd_ne (ne_of_none hpr9 nw)]; exact hpr9
          have hw : (upd H9 w (toldV "balance" fn)) w = some (toldV "balance" fn) := upd_same
          have d1 := told_dp (K := K) hpr2
          have d2 := told_dp (K := K) hw
          have d3 := toldD_shaped (n := (fn : Int)) okBal
          walk_at "st"
          rw [eqv_self d3]
          exact q _
        · intro pr Hr _ hf' _ _ _
          rw [hfF] at hf'
          cases hf'
        · intro Hr _ hf' _ _
          rw [hfF] at hf'
          cases hf'
      · intro _
        walk_at "st"
        apply iteD
        · intro el
          walk_at "st"
          intro u2 nu2
          have kV : Kp [] H6 (upd H6 u2 (.lst vs6)) := (Kp.refl _ _).new nu2
          have gV : TxtAt K (upd H6 u2 (.lst vs6)) u2 t := ⟨_, SqL.of upd_same, Pd.tk hp6 (.new nu2)⟩
          have hlV := kV.at0 hl6
          have hlenV : t.length ≤ 250 := by omega
          walk_at "st"
          refine ⟨?_, ?_, ?_, ?_⟩
          · intro i pr Hr hi hbi _ _
            exact absurd hbi fun h => hall.notBad h
          · intro b' n' pr Hr _ hf' _ _
            rw [hflt] at hf'
            cases hf'
          · intro pr Hr _ _ _ hpr kr
            walk_at "st"
            intro w nw
            have hpr2 : (upd Hr w (toldV "long" 0)) pr = some (toldV "long" 0) := by rw [upd_ne (ne_of_none hpr nw)]; exact hpr
            have hw : (upd Hr w (toldV "long" 0)) w = some (toldV "long" 0) := upd_same
            have d1 := told_dp (K := K) hpr2
            have d2 := told_dp (K := K) hw
            have d3 := toldD_shaped (n := (0 : Int)) okLong
            walk_at "st"
            rw [eqv_self d3]
            exact q _
          · intro Hr _ _ hs _
            exfalso
            omega
        · intro el
          walk_at "st"
          intro u2 nu2
          have kV : Kp [] H6 (upd H6 u2 (.lst vs6)) := (Kp.refl _ _).new nu2
          have gV : TxtAt K (upd H6 u2 (.lst vs6)) u2 t := ⟨_, SqL.of upd_same, Pd.tk hp6 (.new nu2)⟩
          have hlV := kV.at0 hl6
          have hlenV : t.length ≤ 250 := by omega
          walk_at "st"
          refine ⟨?_, ?_, ?_, ?_⟩
          · intro i pr Hr hi hbi _ _
            exact absurd hbi fun h => hall.notBad h
          · intro b' n' pr Hr _ hf' _ _
            rw [hflt] at hf'
            cases hf'
          · intro pr Hr _ _ hs _ _
            exfalso
            omega
          · intro Hr _ _ _ kr
            walk_at "st"
            exact q _
end
theorem all_mk {l : PySem.W.OpenLaw} {w : World} {K : PySem.W.Frag} {h : Heap} {mg : Str → Option Value} {fa : Addr} (X : K.In h) (G : h.Ns mainGlobals mg) (hfa : mg "law" = some (.ref fa))
    {f0 f1 f2 f3 f4 f5 f6 f7 f8 f9 f10 f11 : Addr} {od0 an0 od1 an1 od2 an2 od3 an3 od4 an4 od5 an5 od6 an6 od7 an7 od8 an8 od9 an9 od10 an10 od11 an11 : Option Addr} {sl0 sl1 sl2 sl3 sl4 sl5 sl6 sl7 sl8 sl9 sl10 sl11 : Array (Option Value)} {oc0 kV0 dc0 pm0 ct0 cd0 oc1 kV1 dc1 pm1 ct1 cd1 oc2 kV2 dc2 pm2 ct2 cd2 oc3 kV3 dc3 pm3 ct3 cd3 oc4 kV4 dc4 pm4 ct4 cd4 oc5 kV5 dc5 pm5 ct5 cd5 oc6 kV6 dc6 pm6 ct6 cd6 oc7 kV7 dc7 pm7 ct7 cd7 oc8 kV8 dc8 pm8 ct8 cd8 oc9 kV9 dc9 pm9 ct9 cd9 oc10 kV10 dc10 pm10 ct10 cd10 oc11 kV11 dc11 pm11 ct11 cd11 : Value}
    (a0 : PySem.W.nsIn K mainGlobals "fault_of" = some (some (.ref f0))) (l0 : K.lookup f0 = some ⟨oc0, od0, .func (PySem.W.fnOf "fault_of" "fault_of" (defArgs s_fault_of) (defBody s_fault_of) (defScope s_fault_of) .none kV0 dc0 pm0 an0 cd0 ct0), sl0⟩) (c0 : PySem.W.codeIn K cd0 "fault_of" = true) (k0 : PySem.W.keepIn K (.ref f0) = true)
    (a1 : PySem.W.nsIn K mainGlobals "has_label" = some (some (.ref f1))) (l1 : K.lookup f1 = some ⟨oc1, od1, .func (PySem.W.fnOf "has_label" "has_label" (defArgs s_has_label) (defBody s_has_label) (defScope s_has_label) .none kV1 dc1 pm1 an1 cd1 ct1), sl1⟩) (c1 : PySem.W.codeIn K cd1 "has_label" = true) (k1 : PySem.W.keepIn K (.ref f1) = true)
    (a2 : PySem.W.nsIn K mainGlobals "check_labels" = some (some (.ref f2))) (l2 : K.lookup f2 = some ⟨oc2, od2, .func (PySem.W.fnOf "check_labels" "check_labels" (defArgs s_check_labels) (defBody s_check_labels) (defScope s_check_labels) .none kV2 dc2 pm2 an2 cd2 ct2), sl2⟩) (c2 : PySem.W.codeIn K cd2 "check_labels" = true) (k2 : PySem.W.keepIn K (.ref f2) = true)
    (a3 : PySem.W.nsIn K mainGlobals "check_text" = some (some (.ref f3))) (l3 : K.lookup f3 = some ⟨oc3, od3, .func (PySem.W.fnOf "check_text" "check_text" (defArgs s_check_text) (defBody s_check_text) (defScope s_check_text) .none kV3 dc3 pm3 an3 cd3 ct3), sl3⟩) (c3 : PySem.W.codeIn K cd3 "check_text" = true) (k3 : PySem.W.keepIn K (.ref f3) = true)
    (a4 : PySem.W.nsIn K mainGlobals "_law_draws" = some (some (.ref f4))) (l4 : K.lookup f4 = some ⟨oc4, od4, .func (PySem.W.fnOf "_law_draws" "_law_draws" (defArgs s__law_draws) (defBody s__law_draws) (defScope s__law_draws) .none kV4 dc4 pm4 an4 cd4 ct4), sl4⟩) (c4 : PySem.W.codeIn K cd4 "_law_draws" = true) (k4 : PySem.W.keepIn K (.ref f4) = true)
    (a5 : PySem.W.nsIn K mainGlobals "_law_box" = some (some (.ref f5))) (l5 : K.lookup f5 = some ⟨oc5, od5, .func (PySem.W.fnOf "_law_box" "_law_box" (defArgs s__law_box) (defBody s__law_box) (defScope s__law_box) .none kV5 dc5 pm5 an5 cd5 ct5), sl5⟩) (c5 : PySem.W.codeIn K cd5 "_law_box" = true) (k5 : PySem.W.keepIn K (.ref f5) = true)
    (a6 : PySem.W.nsIn K mainGlobals "_law_next" = some (some (.ref f6))) (l6 : K.lookup f6 = some ⟨oc6, od6, .func (PySem.W.fnOf "_law_next" "_law_next" (defArgs s__law_next) (defBody s__law_next) (defScope s__law_next) .none kV6 dc6 pm6 an6 cd6 ct6), sl6⟩) (c6 : PySem.W.codeIn K cd6 "_law_next" = true) (k6 : PySem.W.keepIn K (.ref f6) = true)
    (a7 : PySem.W.nsIn K mainGlobals "_law_labels" = some (some (.ref f7))) (l7 : K.lookup f7 = some ⟨oc7, od7, .func (PySem.W.fnOf "_law_labels" "_law_labels" (defArgs s__law_labels) (defBody s__law_labels) (defScope s__law_labels) .none kV7 dc7 pm7 an7 cd7 ct7), sl7⟩) (c7 : PySem.W.codeIn K cd7 "_law_labels" = true) (k7 : PySem.W.keepIn K (.ref f7) = true)
    (a8 : PySem.W.nsIn K mainGlobals "_law_text" = some (some (.ref f8))) (l8 : K.lookup f8 = some ⟨oc8, od8, .func (PySem.W.fnOf "_law_text" "_law_text" (defArgs s__law_text) (defBody s__law_text) (defScope s__law_text) .none kV8 dc8 pm8 an8 cd8 ct8), sl8⟩) (c8 : PySem.W.codeIn K cd8 "_law_text" = true) (k8 : PySem.W.keepIn K (.ref f8) = true)
    (a9 : PySem.W.nsIn K mainGlobals "_law_told" = some (some (.ref f9))) (l9 : K.lookup f9 = some ⟨oc9, od9, .func (PySem.W.fnOf "_law_told" "_law_told" (defArgs s__law_told) (defBody s__law_told) (defScope s__law_told) .none kV9 dc9 pm9 an9 cd9 ct9), sl9⟩) (c9 : PySem.W.codeIn K cd9 "_law_told" = true) (k9 : PySem.W.keepIn K (.ref f9) = true)
    (a10 : PySem.W.nsIn K mainGlobals "_law_fault" = some (some (.ref f10))) (l10 : K.lookup f10 = some ⟨oc10, od10, .func (PySem.W.fnOf "_law_fault" "_law_fault" (defArgs s__law_fault) (defBody s__law_fault) (defScope s__law_fault) .none kV10 dc10 pm10 an10 cd10 ct10), sl10⟩) (c10 : PySem.W.codeIn K cd10 "_law_fault" = true) (k10 : PySem.W.keepIn K (.ref f10) = true)
    (a11 : PySem.W.nsIn K mainGlobals "law" = some (some (.ref f11))) (l11 : K.lookup f11 = some ⟨oc11, od11, .func (PySem.W.fnOf "law" "law" (defArgs s_law) (defBody s_law) (defScope s_law) .none kV11 dc11 pm11 an11 cd11 ct11), sl11⟩) (c11 : PySem.W.codeIn K cd11 "law" = true) (k11 : PySem.W.keepIn K (.ref f11) = true)
    (z0 : PySem.W.nsIn K mainGlobals "len" = some none) (z1 : PySem.W.nsIn K mainGlobals "range" = some none) (z2 : PySem.W.nsIn K mainGlobals "int" = some none) (z3 : PySem.W.nsIn K mainGlobals "str" = some none) (z4 : PySem.W.nsIn K mainGlobals "list" = some none) (z5 : PySem.W.nsIn K mainGlobals "isinstance" = some none) (z6 : PySem.W.nsIn K mainGlobals "enumerate" = some none) (z7 : PySem.W.nsIn K mainGlobals "sorted" = some none) (z8 : PySem.W.nsIn K mainGlobals "tuple" = some none) (z9 : PySem.W.nsIn K mainGlobals "bool" = some none) (z10 : PySem.W.nsIn K mainGlobals "max" = some none) (z11 : PySem.W.nsIn K mainGlobals "min" = some none) (z12 : PySem.W.nsIn K mainGlobals "sum" = some none) (z13 : PySem.W.nsIn K mainGlobals "all" = some none) (z14 : PySem.W.nsIn K mainGlobals "any" = some none) (z15 : PySem.W.nsIn K mainGlobals "zip" = some none) (z16 : PySem.W.nsIn K mainGlobals "set" = some none) (z17 : PySem.W.nsIn K mainGlobals "reversed" = some none)
    {kd_UnbalancedText : Addr}
    (kn_UnbalancedText : PySem.W.nsIn K mainGlobals "UnbalancedText" = some (some (.ref kd_UnbalancedText)))
    {kd_TextTooLong : Addr}
    (kn_TextTooLong : PySem.W.nsIn K mainGlobals "TextTooLong" = some (some (.ref kd_TextTooLong)))
    {kd_InvalidPlace : Addr}
    (kn_InvalidPlace : PySem.W.nsIn K mainGlobals "InvalidPlace" = some (some (.ref kd_InvalidPlace)))
    {kd_InvalidText : Addr}
    (kn_InvalidText : PySem.W.nsIn K mainGlobals "InvalidText" = some (some (.ref kd_InvalidText)))
    {kd_ArchwayError : Addr}
    (kn_ArchwayError : PySem.W.nsIn K mainGlobals "ArchwayError" = some (some (.ref kd_ArchwayError)))
    (xi_TextTooLong : PySem.W.isClsIn K kd_TextTooLong = true)
    (xt_TextTooLong : PySem.W.typeIn K (.ref kd_TextTooLong) = some (.type "type"))
    (xk_BL : PySem.W.subIn K (.ref kd_UnbalancedText) (.ref kd_TextTooLong) = some false)
    (xn_BL : kd_UnbalancedText ≠ kd_TextTooLong)
    (xi_InvalidPlace : PySem.W.isClsIn K kd_InvalidPlace = true)
    (xt_InvalidPlace : PySem.W.typeIn K (.ref kd_InvalidPlace) = some (.type "type"))
    (xk_BP : PySem.W.subIn K (.ref kd_UnbalancedText) (.ref kd_InvalidPlace) = some false)
    (xn_BP : kd_UnbalancedText ≠ kd_InvalidPlace)
    (xi_InvalidText : PySem.W.isClsIn K kd_InvalidText = true)
    (xt_InvalidText : PySem.W.typeIn K (.ref kd_InvalidText) = some (.type "type"))
    (xk_BT : PySem.W.subIn K (.ref kd_UnbalancedText) (.ref kd_InvalidText) = some true)
    (xk_BV : PySem.W.subIn K (.ref kd_UnbalancedText) (.type "ValueError") = some true)
    {nm_InvalidPlace qn_InvalidPlace : Str} {Nn_InvalidPlace kfi_InvalidPlace cda_InvalidPlace cc_InvalidPlace : Addr} {bs_InvalidPlace bm_InvalidPlace sub_InvalidPlace : List Value} {sn_InvalidPlace : List Str} {ab_InvalidPlace : Bool} {col_InvalidPlace : Option Bool} {dd_InvalidPlace fod_InvalidPlace cdd_InvalidPlace cld_InvalidPlace fan_InvalidPlace : Option Addr} {k0_InvalidPlace k1_InvalidPlace k2_InvalidPlace k3_InvalidPlace k5_InvalidPlace : Option Value}
    {foc_InvalidPlace ccl_InvalidPlace cl_InvalidPlace fdoc_InvalidPlace fpm_InvalidPlace fct_InvalidPlace : Value} {osl_InvalidPlace ccs_InvalidPlace csl_InvalidPlace : Array (Option Value)} {vs_InvalidPlace : Array Value} {file_InvalidPlace : Str} {tf_InvalidPlace : Tok} {msg_InvalidPlace : Expr} {p1_InvalidPlace p2_InvalidPlace a1_InvalidPlace a2_InvalidPlace a3_InvalidPlace a4_InvalidPlace a5_InvalidPlace q1_InvalidPlace q2_InvalidPlace q3_InvalidPlace q4_InvalidPlace : Pos}
    (xs1_InvalidPlace : K.lookup kd_InvalidPlace = some (excClassObj nm_InvalidPlace qn_InvalidPlace kd_InvalidPlace Nn_InvalidPlace bs_InvalidPlace bm_InvalidPlace true sn_InvalidPlace sub_InvalidPlace ab_InvalidPlace col_InvalidPlace dd_InvalidPlace k0_InvalidPlace k1_InvalidPlace k2_InvalidPlace k3_InvalidPlace k5_InvalidPlace "ValueError.__new__"))
    (xs2_InvalidPlace : PySem.HandSPX.refsVE bm_InvalidPlace = true)
    (xs3_InvalidPlace : PySem.W.excTail SX.veT bm_InvalidPlace = true)
    (xs4_InvalidPlace : PySem.W.findIn K (.ref kd_InvalidPlace) "__setattr__" = some (some (.builtin "object.__setattr__")))
    (xs5_InvalidPlace : PySem.W.findIn K (.ref kd_InvalidPlace) "number" = some none)
    (xs6_InvalidPlace : PySem.W.findIn K (.ref kd_InvalidPlace) "__init__" = some (some (.ref kfi_InvalidPlace)))
    (xs7_InvalidPlace : PySem.W.typeIn K (.ref kfi_InvalidPlace) = some (.type "function"))
    (xs8_InvalidPlace : PySem.W.keepIn K (.ref kd_InvalidPlace) = true)
    (xs9_InvalidPlace : PySem.W.subIn K (.ref kd_InvalidPlace) (.type "BaseException") = some true)
    (xs10_InvalidPlace : PySem.W.subIn K (.ref kd_InvalidPlace) (.type "ValueError") = some true)
    (xs11_InvalidPlace : PySem.W.typeIn K (.ref kd_InvalidPlace) = some (.type "type"))
    (xs12_InvalidPlace : PySem.W.nsIn K cStatics "thirdparty.any" = some none)
    (xs13_InvalidPlace : PySem.W.ks_superIn K kd_InvalidPlace kd_InvalidPlace "__init__" = some (some (.builtin "ValueError.__init__")))
    (xs14_InvalidPlace : PySem.W.mroIn K kd_InvalidPlace (.ref kd_InvalidPlace) = some true)
    (xs15_InvalidPlace : PySem.W.nsIn K mainGlobals "super" = some none)
    (xs16_InvalidPlace : (l.prog.main.scope.names.lookup ("super" : Str)).isSome = false)
    (xs17_InvalidPlace : K.lookup kfi_InvalidPlace = some ⟨foc_InvalidPlace, fod_InvalidPlace, .func (PySem.W.ksFn "__init__" "InvalidPlace.__init__" (SX.iA "number" p1_InvalidPlace p2_InvalidPlace) (SX.iB "number" msg_InvalidPlace a1_InvalidPlace a2_InvalidPlace a3_InvalidPlace a4_InvalidPlace a5_InvalidPlace q1_InvalidPlace q2_InvalidPlace q3_InvalidPlace q4_InvalidPlace) (SX.iS "number") .none .none fdoc_InvalidPlace fpm_InvalidPlace fan_InvalidPlace (.ref cda_InvalidPlace) fct_InvalidPlace cc_InvalidPlace), osl_InvalidPlace⟩)
    (xs18_InvalidPlace : PySem.W.codeIn K (.ref cda_InvalidPlace) "InvalidPlace.__init__" = true)
    (xs19_InvalidPlace : K.lookup cda_InvalidPlace = some ⟨ccl_InvalidPlace, cdd_InvalidPlace, .fields vs_InvalidPlace, ccs_InvalidPlace⟩)
    (xs20_InvalidPlace : vs_InvalidPlace[2]? = some (.str file_InvalidPlace tf_InvalidPlace))
    (xs21_InvalidPlace : (l.prog.main.file == file_InvalidPlace) = true)
    (xs22_InvalidPlace : K.lookup cc_InvalidPlace = some ⟨cl_InvalidPlace, cld_InvalidPlace, .cell (some (.ref kd_InvalidPlace)), csl_InvalidPlace⟩)
    (xs23_InvalidPlace : SX.Txt "number" msg_InvalidPlace)
    (xs24_InvalidPlace : (a3_InvalidPlace.endLine == a4_InvalidPlace.line) = true)
    {kt_KINDS0 kt_KINDS1 kt_KINDS2 : Tok} {kd_KINDS : Addr} {km_KINDS : Nat} {ksl_KINDS : Array (Option Value)} (kn_KINDS : PySem.W.nsIn K mainGlobals "KINDS" = some (some (.ref kd_KINDS))) (kl_KINDS : K.lookup kd_KINDS = some ⟨.type "tuple", none, .seq #[.str "letter" kt_KINDS0, .str "call" kt_KINDS1, .str "return" kt_KINDS2] km_KINDS, ksl_KINDS⟩)
    (xi_UnbalancedText : PySem.W.isClsIn K kd_UnbalancedText = true)
    (xt_UnbalancedText : PySem.W.typeIn K (.ref kd_UnbalancedText) = some (.type "type"))
    (xk_LB : PySem.W.subIn K (.ref kd_TextTooLong) (.ref kd_UnbalancedText) = some false)
    (xn_LB : kd_TextTooLong ≠ kd_UnbalancedText)
    (xk_LP : PySem.W.subIn K (.ref kd_TextTooLong) (.ref kd_InvalidPlace) = some false)
    (xn_LP : kd_TextTooLong ≠ kd_InvalidPlace)
    (xk_LT : PySem.W.subIn K (.ref kd_TextTooLong) (.ref kd_InvalidText) = some true)
    (xk_LV : PySem.W.subIn K (.ref kd_TextTooLong) (.type "ValueError") = some true)
    {kt_MOST_PLACES : Tok} (kn_MOST_PLACES : PySem.W.nsIn K mainGlobals "MOST_PLACES" = some (some (.int 200 kt_MOST_PLACES)))
    (xk_PB : PySem.W.subIn K (.ref kd_InvalidPlace) (.ref kd_UnbalancedText) = some false)
    (xn_PB : kd_InvalidPlace ≠ kd_UnbalancedText)
    (xk_PL : PySem.W.subIn K (.ref kd_InvalidPlace) (.ref kd_TextTooLong) = some false)
    (xn_PL : kd_InvalidPlace ≠ kd_TextTooLong)
    (xk_PT : PySem.W.subIn K (.ref kd_InvalidPlace) (.ref kd_InvalidText) = some true)
    (xk_PV : PySem.W.subIn K (.ref kd_InvalidPlace) (.type "ValueError") = some true)
    (xo1_TextTooLong : PySem.W.excIn K kd_TextTooLong SX.veT "ValueError.__new__" = true)
    (xo2_TextTooLong : PySem.W.keepIn K (.ref kd_TextTooLong) = true)
    (xo3_TextTooLong : PySem.W.subIn K (.ref kd_TextTooLong) (.type "BaseException") = some true)
    (xo4_TextTooLong : PySem.W.typeIn K (.ref kd_TextTooLong) = some (.type "type"))
    {nm_UnbalancedText qn_UnbalancedText : Str} {Nn_UnbalancedText kfi_UnbalancedText cda_UnbalancedText cc_UnbalancedText : Addr} {bs_UnbalancedText bm_UnbalancedText sub_UnbalancedText : List Value} {sn_UnbalancedText : List Str} {ab_UnbalancedText : Bool} {col_UnbalancedText : Option Bool} {dd_UnbalancedText fod_UnbalancedText cdd_UnbalancedText cld_UnbalancedText fan_UnbalancedText : Option Addr} {k0_UnbalancedText k1_UnbalancedText k2_UnbalancedText k3_UnbalancedText k5_UnbalancedText : Option Value}
    {foc_UnbalancedText ccl_UnbalancedText cl_UnbalancedText fdoc_UnbalancedText fpm_UnbalancedText fct_UnbalancedText : Value} {osl_UnbalancedText ccs_UnbalancedText csl_UnbalancedText : Array (Option Value)} {vs_UnbalancedText : Array Value} {file_UnbalancedText : Str} {tf_UnbalancedText : Tok} {msg_UnbalancedText : Expr} {p1_UnbalancedText p2_UnbalancedText a1_UnbalancedText a2_UnbalancedText a3_UnbalancedText a4_UnbalancedText a5_UnbalancedText q1_UnbalancedText q2_UnbalancedText q3_UnbalancedText q4_UnbalancedText : Pos}
    (xs1_UnbalancedText : K.lookup kd_UnbalancedText = some (excClassObj nm_UnbalancedText qn_UnbalancedText kd_UnbalancedText Nn_UnbalancedText bs_UnbalancedText bm_UnbalancedText true sn_UnbalancedText sub_UnbalancedText ab_UnbalancedText col_UnbalancedText dd_UnbalancedText k0_UnbalancedText k1_UnbalancedText k2_UnbalancedText k3_UnbalancedText k5_UnbalancedText "ValueError.__new__"))
    (xs2_UnbalancedText : PySem.HandSPX.refsVE bm_UnbalancedText = true)
    (xs3_UnbalancedText : PySem.W.excTail SX.veT bm_UnbalancedText = true)
    (xs4_UnbalancedText : PySem.W.findIn K (.ref kd_UnbalancedText) "__setattr__" = some (some (.builtin "object.__setattr__")))
    (xs5_UnbalancedText : PySem.W.findIn K (.ref kd_UnbalancedText) "place" = some none)
    (xs6_UnbalancedText : PySem.W.findIn K (.ref kd_UnbalancedText) "__init__" = some (some (.ref kfi_UnbalancedText)))
    (xs7_UnbalancedText : PySem.W.typeIn K (.ref kfi_UnbalancedText) = some (.type "function"))
    (xs8_UnbalancedText : PySem.W.keepIn K (.ref kd_UnbalancedText) = true)
    (xs9_UnbalancedText : PySem.W.subIn K (.ref kd_UnbalancedText) (.type "BaseException") = some true)
    (xs10_UnbalancedText : PySem.W.subIn K (.ref kd_UnbalancedText) (.type "ValueError") = some true)
    (xs11_UnbalancedText : PySem.W.typeIn K (.ref kd_UnbalancedText) = some (.type "type"))
    (xs12_UnbalancedText : PySem.W.nsIn K cStatics "thirdparty.any" = some none)
    (xs13_UnbalancedText : PySem.W.ks_superIn K kd_UnbalancedText kd_UnbalancedText "__init__" = some (some (.builtin "ValueError.__init__")))
    (xs14_UnbalancedText : PySem.W.mroIn K kd_UnbalancedText (.ref kd_UnbalancedText) = some true)
    (xs15_UnbalancedText : PySem.W.nsIn K mainGlobals "super" = some none)
    (xs16_UnbalancedText : (l.prog.main.scope.names.lookup ("super" : Str)).isSome = false)
    (xs17_UnbalancedText : K.lookup kfi_UnbalancedText = some ⟨foc_UnbalancedText, fod_UnbalancedText, .func (PySem.W.ksFn "__init__" "UnbalancedText.__init__" (SX.iA "place" p1_UnbalancedText p2_UnbalancedText) (SX.iB "place" msg_UnbalancedText a1_UnbalancedText a2_UnbalancedText a3_UnbalancedText a4_UnbalancedText a5_UnbalancedText q1_UnbalancedText q2_UnbalancedText q3_UnbalancedText q4_UnbalancedText) (SX.iS "place") .none .none fdoc_UnbalancedText fpm_UnbalancedText fan_UnbalancedText (.ref cda_UnbalancedText) fct_UnbalancedText cc_UnbalancedText), osl_UnbalancedText⟩)
    (xs18_UnbalancedText : PySem.W.codeIn K (.ref cda_UnbalancedText) "UnbalancedText.__init__" = true)
    (xs19_UnbalancedText : K.lookup cda_UnbalancedText = some ⟨ccl_UnbalancedText, cdd_UnbalancedText, .fields vs_UnbalancedText, ccs_UnbalancedText⟩)
    (xs20_UnbalancedText : vs_UnbalancedText[2]? = some (.str file_UnbalancedText tf_UnbalancedText))
    (xs21_UnbalancedText : (l.prog.main.file == file_UnbalancedText) = true)
    (xs22_UnbalancedText : K.lookup cc_UnbalancedText = some ⟨cl_UnbalancedText, cld_UnbalancedText, .cell (some (.ref kd_UnbalancedText)), csl_UnbalancedText⟩)
    (xs23_UnbalancedText : SX.Txt "place" msg_UnbalancedText)
    (xs24_UnbalancedText : (a3_UnbalancedText.endLine == a4_UnbalancedText.line) = true)
    (xe1_UnbalancedText : PySem.W.findIn K (.ref kd_UnbalancedText) "__getattribute__" = some (some (.builtin "BaseException.__getattribute__")))
    (xe2_UnbalancedText : PySem.W.findIn K (.ref kd_UnbalancedText) "__getattr__" = some none)
    (xe3_UnbalancedText : PySem.W.subIn K (.ref kd_UnbalancedText) (.type "BaseException") = some true)
    (xe4_UnbalancedText : PySem.W.hasDictIn K kd_UnbalancedText = true)
    (xe5_UnbalancedText : PySem.W.findIn K (.ref kd_UnbalancedText) "__class__" = some (some (.builtin "object.__class__")))
    (xe6_UnbalancedText : PySem.W.specialIn K (.builtin "object.__class__") "__get__" = some (some (.builtin "getset_descriptor.__get__")))
    (xe7_UnbalancedText : PySem.W.takesIn K (.builtin "object.__class__") = some true)
    (xe8_UnbalancedText : PySem.W.mroIn K kd_UnbalancedText (.type "object") = some true)
    (xi_ArchwayError : PySem.W.isClsIn K kd_ArchwayError = true)
    (xt_ArchwayError : PySem.W.typeIn K (.ref kd_ArchwayError) = some (.type "type"))
    (xg_gB : PySem.W.subIn K (.ref kd_ArchwayError) (.type "BaseException") = some true)
    (xh_gB : PySem.W.subIn K (.ref kd_UnbalancedText) (.ref kd_ArchwayError) = some true)
    (xe1_TextTooLong : PySem.W.findIn K (.ref kd_TextTooLong) "__getattribute__" = some (some (.builtin "BaseException.__getattribute__")))
    (xe2_TextTooLong : PySem.W.findIn K (.ref kd_TextTooLong) "__getattr__" = some none)
    (xe3_TextTooLong : PySem.W.subIn K (.ref kd_TextTooLong) (.type "BaseException") = some true)
    (xe4_TextTooLong : PySem.W.hasDictIn K kd_TextTooLong = true)
    (xe5_TextTooLong : PySem.W.findIn K (.ref kd_TextTooLong) "__class__" = some (some (.builtin "object.__class__")))
    (xe6_TextTooLong : PySem.W.specialIn K (.builtin "object.__class__") "__get__" = some (some (.builtin "getset_descriptor.__get__")))
    (xe7_TextTooLong : PySem.W.takesIn K (.builtin "object.__class__") = some true)
    (xe8_TextTooLong : PySem.W.mroIn K kd_TextTooLong (.type "object") = some true)
    (xg_gL : PySem.W.subIn K (.ref kd_ArchwayError) (.type "BaseException") = some true)
    (xh_gL : PySem.W.subIn K (.ref kd_TextTooLong) (.ref kd_ArchwayError) = some true)
    (xe1_InvalidPlace : PySem.W.findIn K (.ref kd_InvalidPlace) "__getattribute__" = some (some (.builtin "BaseException.__getattribute__")))
    (xe2_InvalidPlace : PySem.W.findIn K (.ref kd_InvalidPlace) "__getattr__" = some none)
    (xe3_InvalidPlace : PySem.W.subIn K (.ref kd_InvalidPlace) (.type "BaseException") = some true)
    (xe4_InvalidPlace : PySem.W.hasDictIn K kd_InvalidPlace = true)
    (xe5_InvalidPlace : PySem.W.findIn K (.ref kd_InvalidPlace) "__class__" = some (some (.builtin "object.__class__")))
    (xe6_InvalidPlace : PySem.W.specialIn K (.builtin "object.__class__") "__get__" = some (some (.builtin "getset_descriptor.__get__")))
    (xe7_InvalidPlace : PySem.W.takesIn K (.builtin "object.__class__") = some true)
    (xe8_InvalidPlace : PySem.W.mroIn K kd_InvalidPlace (.type "object") = some true)
    (xg_gP : PySem.W.subIn K (.ref kd_ArchwayError) (.type "BaseException") = some true)
    (xh_gP : PySem.W.subIn K (.ref kd_InvalidPlace) (.ref kd_ArchwayError) = some true)
    (xz_zValueError : PySem.W.nsIn K mainGlobals "ValueError" = some none)
    : ∃ fd : FuncData, (∀ (s : Shared) (v : Value), BindsTo s fd ⟨[v], []⟩ [("script", v)]) ∧ ∀ base : Heap, K.In base → base.Ns mainGlobals mg → FnOk l.prog w K mg base CX0 7 fa fd ["script"] (sp_law K) := by
  have e := hfa.symm.trans (PySem.W.mg_of X G a11)
  cases e
  have B : Glb mg := ⟨PySem.W.mg_none_of X G z0, PySem.W.mg_none_of X G z1, PySem.W.mg_none_of X G z2, PySem.W.mg_none_of X G z3, PySem.W.mg_none_of X G z4, PySem.W.mg_none_of X G z5, PySem.W.mg_none_of X G z6, PySem.W.mg_none_of X G z7, PySem.W.mg_none_of X G z8, PySem.W.mg_none_of X G z9, PySem.W.mg_none_of X G z10, PySem.W.mg_none_of X G z11, PySem.W.mg_none_of X G z12, PySem.W.mg_none_of X G z13, PySem.W.mg_none_of X G z14, PySem.W.mg_none_of X G z15, PySem.W.mg_none_of X G z16, PySem.W.mg_none_of X G z17⟩
  have e_UnbalancedText : clsA mg "UnbalancedText" = kd_UnbalancedText := clsA_of (PySem.W.mg_of X G kn_UnbalancedText)
  have e_TextTooLong : clsA mg "TextTooLong" = kd_TextTooLong := clsA_of (PySem.W.mg_of X G kn_TextTooLong)
  have e_InvalidPlace : clsA mg "InvalidPlace" = kd_InvalidPlace := clsA_of (PySem.W.mg_of X G kn_InvalidPlace)
  have e_InvalidText : clsA mg "InvalidText" = kd_InvalidText := clsA_of (PySem.W.mg_of X G kn_InvalidText)
  have e_ArchwayError : clsA mg "ArchwayError" = kd_ArchwayError := clsA_of (PySem.W.mg_of X G kn_ArchwayError)
  have k_BB : KitC K mg "UnbalancedText" "UnbalancedText" true := ⟨kit_self⟩
  have k_BL : KitC K mg "UnbalancedText" "TextTooLong" false := ⟨by rw [e_UnbalancedText, e_TextTooLong]; exact kit_f xn_BL xi_TextTooLong xt_TextTooLong xk_BL⟩
  have k_BP : KitC K mg "UnbalancedText" "InvalidPlace" false := ⟨by rw [e_UnbalancedText, e_InvalidPlace]; exact kit_f xn_BP xi_InvalidPlace xt_InvalidPlace xk_BP⟩
  have k_BT : KitC K mg "UnbalancedText" "InvalidText" true := ⟨by rw [e_UnbalancedText, e_InvalidText]; exact kit_t xi_InvalidText xt_InvalidText xk_BT⟩
  have k_BV : KibC K mg "UnbalancedText" "ValueError" true := ⟨by rw [e_UnbalancedText]; exact kib_of xk_BV⟩
  have k_InvalidPlace : SupC l.prog K mg "InvalidPlace" "InvalidPlace.__init__" "number" := ⟨⟨kfi_InvalidPlace, by rw [e_InvalidPlace]; exact ⟨PySem.W.mg_of X G kn_InvalidPlace, ⟨_, _, _, _, _, _, _, _, _, _, _, _, _, _, _, xs1_InvalidPlace, xs2_InvalidPlace⟩, excInit_of xs1_InvalidPlace xs3_InvalidPlace, xs4_InvalidPlace, xs5_InvalidPlace, xs6_InvalidPlace, xs7_InvalidPlace, xs8_InvalidPlace, xs9_InvalidPlace, xs10_InvalidPlace, xs11_InvalidPlace, xs12_InvalidPlace, xs13_InvalidPlace, xs14_InvalidPlace, PySem.W.mg_none_of X G xs15_InvalidPlace, xs16_InvalidPlace, ⟨_, _, _, _, _, _, _, _, _, _, _, _, _, _, _, _, _, _, _, _, _, _, _, _, _, _, _, _, _, _, xs17_InvalidPlace, xs18_InvalidPlace, xs19_InvalidPlace, xs20_InvalidPlace, xs21_InvalidPlace, xs22_InvalidPlace, xs23_InvalidPlace, xs24_InvalidPlace⟩⟩⟩, by decide⟩
  have k_KINDS : TupC K mg "KINDS" ["letter", "call", "return"] := ⟨⟨kd_KINDS, PySem.W.mg_of X G kn_KINDS, ⟨_, _, _, kl_KINDS, rfl, rfl, rfl, by show 3 ≤ sizeLine; decide, .cons ⟨_, rfl⟩ (.cons ⟨_, rfl⟩ (.cons ⟨_, rfl⟩ (.nil)))⟩⟩⟩
  have k_LB : KitC K mg "TextTooLong" "UnbalancedText" false := ⟨by rw [e_TextTooLong, e_UnbalancedText]; exact kit_f xn_LB xi_UnbalancedText xt_UnbalancedText xk_LB⟩
  have k_LL : KitC K mg "TextTooLong" "TextTooLong" true := ⟨kit_self⟩
  have k_LP : KitC K mg "TextTooLong" "InvalidPlace" false := ⟨by rw [e_TextTooLong, e_InvalidPlace]; exact kit_f xn_LP xi_InvalidPlace xt_InvalidPlace xk_LP⟩
  have k_LT : KitC K mg "TextTooLong" "InvalidText" true := ⟨by rw [e_TextTooLong, e_InvalidText]; exact kit_t xi_InvalidText xt_InvalidText xk_LT⟩
  have k_LV : KibC K mg "TextTooLong" "ValueError" true := ⟨by rw [e_TextTooLong]; exact kib_of xk_LV⟩
  have k_MOST_PLACES : IntC mg "MOST_PLACES" 200 := ⟨⟨_, PySem.W.mg_of X G kn_MOST_PLACES⟩⟩
  have k_PB : KitC K mg "InvalidPlace" "UnbalancedText" false := ⟨by rw [e_InvalidPlace, e_UnbalancedText]; exact kit_f xn_PB xi_UnbalancedText xt_UnbalancedText xk_PB⟩
  have k_PL : KitC K mg "InvalidPlace" "TextTooLong" false := ⟨by rw [e_InvalidPlace, e_TextTooLong]; exact kit_f xn_PL xi_TextTooLong xt_TextTooLong xk_PL⟩
  have k_PP : KitC K mg "InvalidPlace" "InvalidPlace" true := ⟨kit_self⟩
  have k_PT : KitC K mg "InvalidPlace" "InvalidText" true := ⟨by rw [e_InvalidPlace, e_InvalidText]; exact kit_t xi_InvalidText xt_InvalidText xk_PT⟩
  have k_PV : KibC K mg "InvalidPlace" "ValueError" true := ⟨by rw [e_InvalidPlace]; exact kib_of xk_PV⟩
  have k_TextTooLong : OwnC K mg "TextTooLong" := ⟨(ClsC.of (PySem.W.mg_of X G kn_TextTooLong)).g, by rw [e_TextTooLong]; exact xo1_TextTooLong, by rw [e_TextTooLong]; exact xo2_TextTooLong, by rw [e_TextTooLong]; exact xo3_TextTooLong, by rw [e_TextTooLong]; exact xo4_TextTooLong⟩
  have k_UnbalancedText : SupC l.prog K mg "UnbalancedText" "UnbalancedText.__init__" "place" := ⟨⟨kfi_UnbalancedText, by rw [e_UnbalancedText]; exact ⟨PySem.W.mg_of X G kn_UnbalancedText, ⟨_, _, _, _, _, _, _, _, _, _, _, _, _, _, _, xs1_UnbalancedText, xs2_UnbalancedText⟩, excInit_of xs1_UnbalancedText xs3_UnbalancedText, xs4_UnbalancedText, xs5_UnbalancedText, xs6_UnbalancedText, xs7_UnbalancedText, xs8_UnbalancedText, xs9_UnbalancedText, xs10_UnbalancedText, xs11_UnbalancedText, xs12_UnbalancedText, xs13_UnbalancedText, xs14_UnbalancedText, PySem.W.mg_none_of X G xs15_UnbalancedText, xs16_UnbalancedText, ⟨_, _, _, _, _, _, _, _, _, _, _, _, _, _, _, _, _, _, _, _, _, _, _, _, _, _, _, _, _, _, xs17_UnbalancedText, xs18_UnbalancedText, xs19_UnbalancedText, xs20_UnbalancedText, xs21_UnbalancedText, xs22_UnbalancedText, xs23_UnbalancedText, xs24_UnbalancedText⟩⟩⟩, by decide⟩
  have k_cArchwayError : ClsC mg "ArchwayError" := ClsC.of (PySem.W.mg_of X G kn_ArchwayError)
  have k_cInvalidPlace : ClsC mg "InvalidPlace" := ClsC.of (PySem.W.mg_of X G kn_InvalidPlace)
  have k_cInvalidText : ClsC mg "InvalidText" := ClsC.of (PySem.W.mg_of X G kn_InvalidText)
  have k_cTextTooLong : ClsC mg "TextTooLong" := ClsC.of (PySem.W.mg_of X G kn_TextTooLong)
  have k_cUnbalancedText : ClsC mg "UnbalancedText" := ClsC.of (PySem.W.mg_of X G kn_UnbalancedText)
  have ex_UnbalancedText : L2.ExcC K (clsA mg "UnbalancedText") := by rw [e_UnbalancedText]; exact ⟨xe1_UnbalancedText, xe2_UnbalancedText, xe3_UnbalancedText, xe4_UnbalancedText, xe5_UnbalancedText, xe6_UnbalancedText, xe7_UnbalancedText, xe8_UnbalancedText⟩
  have k_gB : CgtC K mg "UnbalancedText" "ArchwayError" := ⟨ex_UnbalancedText, by rw [e_UnbalancedText, e_ArchwayError]; exact exm_one xg_gB xi_ArchwayError xt_ArchwayError xh_gB⟩
  have ex_TextTooLong : L2.ExcC K (clsA mg "TextTooLong") := by rw [e_TextTooLong]; exact ⟨xe1_TextTooLong, xe2_TextTooLong, xe3_TextTooLong, xe4_TextTooLong, xe5_TextTooLong, xe6_TextTooLong, xe7_TextTooLong, xe8_TextTooLong⟩
  have k_gL : CgtC K mg "TextTooLong" "ArchwayError" := ⟨ex_TextTooLong, by rw [e_TextTooLong, e_ArchwayError]; exact exm_one xg_gL xi_ArchwayError xt_ArchwayError xh_gL⟩
  have ex_InvalidPlace : L2.ExcC K (clsA mg "InvalidPlace") := by rw [e_InvalidPlace]; exact ⟨xe1_InvalidPlace, xe2_InvalidPlace, xe3_InvalidPlace, xe4_InvalidPlace, xe5_InvalidPlace, xe6_InvalidPlace, xe7_InvalidPlace, xe8_InvalidPlace⟩
  have k_gP : CgtC K mg "InvalidPlace" "ArchwayError" := ⟨ex_InvalidPlace, by rw [e_InvalidPlace, e_ArchwayError]; exact exm_one xg_gP xi_ArchwayError xt_ArchwayError xh_gP⟩
  have k_zValueError : BltC mg "ValueError" := ⟨PySem.W.mg_none_of X G xz_zValueError⟩
  have F0 := fun_mk (st := s_fault_of) l0 c0 k0
  have b0 := F0.binds (ps := ["row"]) fun _ _ _ _ _ _ us hl => match us, hl with | [_], _ => rfl
  have cfault_of : ∀ base : Heap, Cal l.prog w K mg base 1 "fault_of" ["row"] (sp_fault_of K) := fun base => ⟨⟨_, _, ok_fault_of F0 B, PySem.W.mg_of X G a0, k0, b0⟩⟩
  have F1 := fun_mk (st := s_has_label) l1 c1 k1
  have b1 := F1.binds (ps := ["labels", "place"]) fun _ _ _ _ _ _ us hl => match us, hl with | [_, _], _ => rfl
  have chas_label : ∀ base : Heap, Cal l.prog w K mg base 1 "has_label" ["labels", "place"] sp_has_label := fun base => ⟨⟨_, _, ok_has_label F1 B k_KINDS, PySem.W.mg_of X G a1, k1, b1⟩⟩
  have F2 := fun_mk (st := s_check_labels) l2 c2 k2
  have b2 := F2.binds (ps := ["labels", "row"]) fun _ _ _ _ _ _ us hl => match us, hl with | [_, _], _ => rfl
  have ccheck_labels : ∀ base : Heap, CalX l.prog w K mg base 4 "check_labels" ["labels", "row"] (sp_check_labels K mg) := fun base => ⟨⟨_, _, ok_check_labels F2 B (chas_label base) k_InvalidPlace, PySem.W.mg_of X G a2, k2, b2⟩⟩
  have F3 := fun_mk (st := s_check_text) l3 c3 k3
  have b3 := F3.binds (ps := ["labels", "row"]) fun _ _ _ _ _ _ us hl => match us, hl with | [_, _], _ => rfl
  have ccheck_text : ∀ base : Heap, CalX l.prog w K mg base 5 "check_text" ["labels", "row"] (sp_check K mg) := fun base => ⟨⟨_, _, ok_check_text F3 B (ccheck_labels base) (cfault_of base) k_MOST_PLACES k_InvalidPlace k_UnbalancedText k_TextTooLong, PySem.W.mg_of X G a3, k3, b3⟩⟩
  have F4 := fun_mk (st := s__law_draws) l4 c4 k4
  have b4 := F4.binds (ps := ["cell", "modulus", "count"]) fun _ _ _ _ _ _ us hl => match us, hl with | [_, _, _], _ => rfl
  have c_law_draws : ∀ base : Heap, Cal l.prog w K mg base 1 "_law_draws" ["cell", "modulus", "count"] sp__law_draws := fun base => ⟨⟨_, _, ok__law_draws F4 B, PySem.W.mg_of X G a4, k4, b4⟩⟩
  have F5 := fun_mk (st := s__law_box) l5 c5 k5
  have b5 := F5.binds (ps := ["script"]) fun _ _ _ _ _ _ us hl => match us, hl with | [_], _ => rfl
  have c_law_box : ∀ base : Heap, Cal l.prog w K mg base 2 "_law_box" ["script"] (sp__law_box K) := fun base => ⟨⟨_, _, ok__law_box F5 B (c_law_draws base), PySem.W.mg_of X G a5, k5, b5⟩⟩
  have F6 := fun_mk (st := s__law_next) l6 c6 k6
  have b6 := F6.binds (ps := ["box", "modulus"]) fun _ _ _ _ _ _ us hl => match us, hl with | [_, _], _ => rfl
  have c_law_next : ∀ base : Heap, Cal l.prog w K mg base 1 "_law_next" ["box", "modulus"] sp__law_next := fun base => ⟨⟨_, _, ok__law_next F6 B, PySem.W.mg_of X G a6, k6, b6⟩⟩
  have F7 := fun_mk (st := s__law_labels) l7 c7 k7
  have b7 := F7.binds (ps := ["box"]) fun _ _ _ _ _ _ us hl => match us, hl with | [_], _ => rfl
  have c_law_labels : ∀ base : Heap, Cal l.prog w K mg base 2 "_law_labels" ["box"] sp__law_labels := fun base => ⟨⟨_, _, ok__law_labels F7 B (c_law_next base), PySem.W.mg_of X G a7, k7, b7⟩⟩
  have F8 := fun_mk (st := s__law_text) l8 c8 k8
  have b8 := F8.binds (ps := ["box", "labels", "most"]) fun _ _ _ _ _ _ us hl => match us, hl with | [_, _, _], _ => rfl
  have c_law_text : ∀ base : Heap, Cal l.prog w K mg base 2 "_law_text" ["box", "labels", "most"] (sp__law_text K) := fun base => ⟨⟨_, _, ok__law_text F8 B (c_law_next base), PySem.W.mg_of X G a8, k8, b8⟩⟩
  have F9 := fun_mk (st := s__law_told) l9 c9 k9
  have b9 := F9.binds (ps := ["labels", "row"]) fun _ _ _ _ _ _ us hl => match us, hl with | [_, _], _ => rfl
  have c_law_told : ∀ base : Heap, Cal l.prog w K mg base 6 "_law_told" ["labels", "row"] (sp__law_told K) := fun base => ⟨⟨_, _, ok__law_told F9 B (ccheck_text base) k_cArchwayError k_cInvalidText k_cInvalidPlace k_cUnbalancedText k_cTextTooLong k_zValueError k_InvalidPlace k_UnbalancedText k_gP k_gB k_gL k_PT k_PV k_PP k_PB k_PL k_BT k_BV k_BP k_BB k_BL k_LT k_LV k_LP k_LB k_LL, PySem.W.mg_of X G a9, k9, b9⟩⟩
  have F10 := fun_mk (st := s__law_fault) l10 c10 k10
  have b10 := F10.binds (ps := ["row"]) fun _ _ _ _ _ _ us hl => match us, hl with | [_], _ => rfl
  have c_law_fault : ∀ base : Heap, Cal l.prog w K mg base 1 "_law_fault" ["row"] (sp__law_fault K) := fun base => ⟨⟨_, _, ok__law_fault F10 B, PySem.W.mg_of X G a10, k10, b10⟩⟩
  have F11 := fun_mk (st := s_law) l11 c11 k11
  exact ⟨_, fun s v => .of_eq rfl, fun base _ _ => ok_law F11 B (c_law_box base) (c_law_labels base) (c_law_next base) (c_law_text base) (c_law_told base) (c_law_fault base)⟩
end A
open PySem PySem.W PyProof.Rows
set_option maxHeartbeats 0 in
theorem PySem.Challenge.cw_archway_k02_texts_are_checked_holds : PySem.Challenge.rw_archway_k02_texts_are_checked.Holds := by
  w_on; o_law; k_head; (case hw => w_witness2)
  k_fill
  refine L2.walk_of (l := PySem.Challenge.rw_archway_k02_texts_are_checked) (n := 63) (k := 7) (x := "script") (CX := fun _ => L2.CX0) (sp := fun w => A.sp_law _) rfl (by decide) rfl ⟨rfl, by decide, by decide⟩ (fun w h Y => PySem.W.kIn_of Y) ?F (fun _ _ a ns hl _ hS => ⟨a, ns, rfl, hS, hl, fun _ => rfl⟩) (fun _ _ _ _ _ h => h)
  case F =>
    intro w mg fa h KX G hmg
    refine' A.all_mk KX G hmg ?a0 ?l0 ?c0 ?k0 ?a1 ?l1 ?c1 ?k1 ?a2 ?l2 ?c2 ?k2 ?a3 ?l3 ?c3 ?k3 ?a4 ?l4 ?c4 ?k4 ?a5 ?l5 ?c5 ?k5 ?a6 ?l6 ?c6 ?k6 ?a7 ?l7 ?c7 ?k7 ?a8 ?l8 ?c8 ?k8 ?a9 ?l9 ?c9 ?k9 ?a10 ?l10 ?c10 ?k10 ?a11 ?l11 ?c11 ?k11 ?z0 ?z1 ?z2 ?z3 ?z4 ?z5 ?z6 ?z7 ?z8 ?z9 ?z10 ?z11 ?z12 ?z13 ?z14 ?z15 ?z16 ?z17 ?kn_UnbalancedText ?kn_TextTooLong ?kn_InvalidPlace ?kn_InvalidText ?kn_ArchwayError ?xi_TextTooLong ?xt_TextTooLong ?xk_BL ?xn_BL ?xi_InvalidPlace ?xt_InvalidPlace ?xk_BP ?xn_BP ?xi_InvalidText ?xt_InvalidText ?xk_BT ?xk_BV ?xs1_InvalidPlace ?xs2_InvalidPlace ?xs3_InvalidPlace ?xs4_InvalidPlace ?xs5_InvalidPlace ?xs6_InvalidPlace ?xs7_InvalidPlace ?xs8_InvalidPlace ?xs9_InvalidPlace ?xs10_InvalidPlace ?xs11_InvalidPlace ?xs12_InvalidPlace ?xs13_InvalidPlace ?xs14_InvalidPlace ?xs15_InvalidPlace ?xs16_InvalidPlace ?xs17_InvalidPlace ?xs18_InvalidPlace ?xs19_InvalidPlace ?xs20_InvalidPlace ?xs21_InvalidPlace ?xs22_InvalidPlace ?xs23_InvalidPlace ?xs24_InvalidPlace ?kn_KINDS ?kl_KINDS ?xi_UnbalancedText ?xt_UnbalancedText ?xk_LB ?xn_LB ?xk_LP ?xn_LP ?xk_LT ?xk_LV ?kn_MOST_PLACES ?xk_PB ?xn_PB ?xk_PL ?xn_PL ?xk_PT ?xk_PV ?xo1_TextTooLong ?xo2_TextTooLong ?xo3_TextTooLong ?xo4_TextTooLong ?xs1_UnbalancedText ?xs2_UnbalancedText ?xs3_UnbalancedText ?xs4_UnbalancedText ?xs5_UnbalancedText ?xs6_UnbalancedText ?xs7_UnbalancedText ?xs8_UnbalancedText ?xs9_UnbalancedText ?xs10_UnbalancedText ?xs11_UnbalancedText ?xs12_UnbalancedText ?xs13_UnbalancedText ?xs14_UnbalancedText ?xs15_UnbalancedText ?xs16_UnbalancedText ?xs17_UnbalancedText ?xs18_UnbalancedText ?xs19_UnbalancedText ?xs20_UnbalancedText ?xs21_UnbalancedText ?xs22_UnbalancedText ?xs23_UnbalancedText ?xs24_UnbalancedText ?xe1_UnbalancedText ?xe2_UnbalancedText ?xe3_UnbalancedText ?xe4_UnbalancedText ?xe5_UnbalancedText ?xe6_UnbalancedText ?xe7_UnbalancedText ?xe8_UnbalancedText ?xi_ArchwayError ?xt_ArchwayError ?xg_gB ?xh_gB ?xe1_TextTooLong ?xe2_TextTooLong ?xe3_TextTooLong ?xe4_TextTooLong ?xe5_TextTooLong ?xe6_TextTooLong ?xe7_TextTooLong ?xe8_TextTooLong ?xg_gL ?xh_gL ?xe1_InvalidPlace ?xe2_InvalidPlace ?xe3_InvalidPlace ?xe4_InvalidPlace ?xe5_InvalidPlace ?xe6_InvalidPlace ?xe7_InvalidPlace ?xe8_InvalidPlace ?xg_gP ?xh_gP ?xz_zValueError
    (case a0 => k_is)
    (case l0 => k_is)
    (case c0 => k_is)
    (case k0 => k_is)
    (case a1 => k_is)
    (case l1 => k_is)
    (case c1 => k_is)
    (case k1 => k_is)
    (case a2 => k_is)
    (case l2 => k_is)
    (case c2 => k_is)
    (case k2 => k_is)
    (case a3 => k_is)
    (case l3 => k_is)
    (case c3 => k_is)
    (case k3 => k_is)
    (case a4 => k_is)
    (case l4 => k_is)
    (case c4 => k_is)
    (case k4 => k_is)
    (case a5 => k_is)
    (case l5 => k_is)
    (case c5 => k_is)
    (case k5 => k_is)
    (case a6 => k_is)
    (case l6 => k_is)
    (case c6 => k_is)
    (case k6 => k_is)
    (case a7 => k_is)
    (case l7 => k_is)
    (case c7 => k_is)
    (case k7 => k_is)
    (case a8 => k_is)
    (case l8 => k_is)
    (case c8 => k_is)
    (case k8 => k_is)
    (case a9 => k_is)
    (case l9 => k_is)
    (case c9 => k_is)
    (case k9 => k_is)
    (case a10 => k_is)
    (case l10 => k_is)
    (case c10 => k_is)
    (case k10 => k_is)
    (case a11 => k_is)
    (case l11 => k_is)
    (case c11 => k_is)
    (case k11 => k_is)
    (case z0 => k_is)
    (case z1 => k_is)
    (case z2 => k_is)
    (case z3 => k_is)
    (case z4 => k_is)
    (case z5 => k_is)
    (case z6 => k_is)
    (case z7 => k_is)
    (case z8 => k_is)
    (case z9 => k_is)
    (case z10 => k_is)
    (case z11 => k_is)
    (case z12 => k_is)
    (case z13 => k_is)
    (case z14 => k_is)
    (case z15 => k_is)
    (case z16 => k_is)
    (case z17 => k_is)
    (case kn_UnbalancedText => k_is)
    (case kn_TextTooLong => k_is)
    (case kn_InvalidPlace => k_is)
    (case kn_InvalidText => k_is)
    (case kn_ArchwayError => k_is)
    (case xi_TextTooLong => k_is)
    (case xt_TextTooLong => k_is)
    (case xk_BL => k_is)
    (case xn_BL => decide)
    (case xi_InvalidPlace => k_is)
    (case xt_InvalidPlace => k_is)
    (case xk_BP => k_is)
    (case xn_BP => decide)
    (case xi_InvalidText => k_is)
    (case xt_InvalidText => k_is)
    (case xk_BT => k_is)
    (case xk_BV => k_is)
    (case xs1_InvalidPlace => k_is)
    (case xs2_InvalidPlace => first | decide +kernel | rfl)
    (case xs3_InvalidPlace => first | rfl | decide +kernel)
    (case xs4_InvalidPlace => k_is)
    (case xs5_InvalidPlace => k_is)
    (case xs6_InvalidPlace => k_is)
    (case xs7_InvalidPlace => k_is)
    (case xs8_InvalidPlace => k_is)
    (case xs9_InvalidPlace => k_is)
    (case xs10_InvalidPlace => k_is)
    (case xs11_InvalidPlace => k_is)
    (case xs12_InvalidPlace => k_is)
    (case xs13_InvalidPlace => first | k_is | rfl | decide +kernel)
    (case xs14_InvalidPlace => k_is)
    (case xs15_InvalidPlace => k_is)
    (case xs16_InvalidPlace => first | rfl | decide +kernel)
    (case xs17_InvalidPlace => k_is)
    (case xs18_InvalidPlace => k_is)
    (case xs19_InvalidPlace => k_is)
    (case xs20_InvalidPlace => first | k_is | rfl)
    (case xs21_InvalidPlace => first | rfl | decide +kernel)
    (case xs22_InvalidPlace => k_is)
    (case xs23_InvalidPlace => first | exact SX.txt3 (by decide +kernel) (by decide +kernel) (by decide +kernel) | exact SX.txt2 (by decide +kernel) (by decide +kernel))
    (case xs24_InvalidPlace => first | rfl | decide +kernel)
    (case kn_KINDS => k_is)
    (case kl_KINDS => k_is)
    (case xi_UnbalancedText => k_is)
    (case xt_UnbalancedText => k_is)
    (case xk_LB => k_is)
    (case xn_LB => decide)
    (case xk_LP => k_is)
    (case xn_LP => decide)
    (case xk_LT => k_is)
    (case xk_LV => k_is)
    (case kn_MOST_PLACES => k_is)
    (case xk_PB => k_is)
    (case xn_PB => decide)
    (case xk_PL => k_is)
    (case xn_PL => decide)
    (case xk_PT => k_is)
    (case xk_PV => k_is)
    (case xo1_TextTooLong => first | k_exc | k_is | decide +kernel)
    (case xo2_TextTooLong => k_is)
    (case xo3_TextTooLong => k_is)
    (case xo4_TextTooLong => k_is)
    (case xs1_UnbalancedText => k_is)
    (case xs2_UnbalancedText => first | decide +kernel | rfl)
    (case xs3_UnbalancedText => first | rfl | decide +kernel)
    (case xs4_UnbalancedText => k_is)
    (case xs5_UnbalancedText => k_is)
    (case xs6_UnbalancedText => k_is)
    (case xs7_UnbalancedText => k_is)
    (case xs8_UnbalancedText => k_is)
    (case xs9_UnbalancedText => k_is)
    (case xs10_UnbalancedText => k_is)
    (case xs11_UnbalancedText => k_is)
    (case xs12_UnbalancedText => k_is)
    (case xs13_UnbalancedText => first | k_is | rfl | decide +kernel)
    (case xs14_UnbalancedText => k_is)
    (case xs15_UnbalancedText => k_is)
    (case xs16_UnbalancedText => first | rfl | decide +kernel)
    (case xs17_UnbalancedText => k_is)
    (case xs18_UnbalancedText => k_is)
    (case xs19_UnbalancedText => k_is)
    (case xs20_UnbalancedText => first | k_is | rfl)
    (case xs21_UnbalancedText => first | rfl | decide +kernel)
    (case xs22_UnbalancedText => k_is)
    (case xs23_UnbalancedText => first | exact SX.txt3 (by decide +kernel) (by decide +kernel) (by decide +kernel) | exact SX.txt2 (by decide +kernel) (by decide +kernel))
    (case xs24_UnbalancedText => first | rfl | decide +kernel)
    (case xe1_UnbalancedText => k_is)
    (case xe2_UnbalancedText => k_is)
    (case xe3_UnbalancedText => k_is)
    (case xe4_UnbalancedText => k_is)
    (case xe5_UnbalancedText => k_is)
    (case xe6_UnbalancedText => k_is)
    (case xe7_UnbalancedText => k_is)
    (case xe8_UnbalancedText => k_is)
    (case xi_ArchwayError => k_is)
    (case xt_ArchwayError => k_is)
    (case xg_gB => k_is)
    (case xh_gB => k_is)
    (case xe1_TextTooLong => k_is)
    (case xe2_TextTooLong => k_is)
    (case xe3_TextTooLong => k_is)
    (case xe4_TextTooLong => k_is)
    (case xe5_TextTooLong => k_is)
    (case xe6_TextTooLong => k_is)
    (case xe7_TextTooLong => k_is)
    (case xe8_TextTooLong => k_is)
    (case xg_gL => k_is)
    (case xh_gL => k_is)
    (case xe1_InvalidPlace => k_is)
    (case xe2_InvalidPlace => k_is)
    (case xe3_InvalidPlace => k_is)
    (case xe4_InvalidPlace => k_is)
    (case xe5_InvalidPlace => k_is)
    (case xe6_InvalidPlace => k_is)
    (case xe7_InvalidPlace => k_is)
    (case xe8_InvalidPlace => k_is)
    (case xg_gP => k_is)
    (case xh_gP => k_is)
    (case xz_zValueError => k_is)
