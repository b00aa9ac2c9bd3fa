import PyProof.Rows.All
import Wide.All
import OpenK.AllK
import Wide.FinOn
import HandS.ForMost
import HandS.ForExc
import HandS.IsInst
import HandS.Style
import HandS.Flow
import HandS.Sort
import HandS.SortRule
import PySem.Challenge.RW_archway_k03_arches_and_depths
set_option Elab.async false
set_option linter.all false
set_option maxRecDepth 100000
set_option maxHeartbeats 4000000
namespace A
open PySem PySem.Spec PyProof.Rows L2
/-! ### what a step leaves -/
/-- M may have changed, all else that was tracked is as it was -/
structure Kp (M : List Addr) (H H' : Hp) : Prop where
  keep : ∀ a o, H a = some o → a ∉ M → H' a = some o
  there : ∀ a o, H a = some o → ∃ o', H' a = some o'
theorem Kp.refl (M : List Addr) (H : Hp) : Kp M H H := ⟨fun _ _ h _ => h, fun _ o h => ⟨o, h⟩⟩
theorem Kp.trans {M : List Addr} {H H1 H2 : Hp} (x : Kp M H H1) (y : Kp M H1 H2) : Kp M H H2 :=
  ⟨fun a o h n => y.keep a o (x.keep a o h n) n, fun a o h => by
    obtain ⟨o1, h1⟩ := x.there a o h
    exact y.there a o1 h1⟩
theorem Kp.mono {M N : List Addr} {H H1 : Hp} (x : Kp M H H1) (s : ∀ a, a ∈ M → a ∈ N) : Kp N H H1 := ⟨fun a o h n => x.keep a o h fun z => n (s a z), x.there⟩
theorem Kp.nil {M : List Addr} {H H1 : Hp} (x : Kp [] H H1) : Kp M H H1 := x.mono fun _ z => nomatch z
theorem Kp.fresh {M : List Addr} {H H1 : Hp} {p : Addr} (x : Kp M H H1) (h : H1 p = none) : H p = none := by
  cases q : H p with
  | none => rfl
  | some o =>
    obtain ⟨o', e⟩ := x.there p o q
    rw [h] at e
    cases e
theorem Kp.new {M : List Addr} {H H1 : Hp} {p : Addr} {o : HO} (x : Kp M H H1) (h : H1 p = none) : Kp M H (upd H1 p o) :=
  x.trans ⟨fun a u e _ => by rw [upd_ne (ne_of_none e h)]; exact e, fun a u e => ⟨u, by rw [upd_ne (ne_of_none e h)]; exact e⟩⟩
/-- an object that H does not know changes -/
theorem Kp.own {M : List Addr} {H H1 : Hp} {p : Addr} {o : HO} (x : Kp M H H1) (h : H p = none) : Kp M H (upd H1 p o) :=
  ⟨fun a u e n => by rw [upd_ne (ne_of_none e h)]; exact x.keep a u e n, fun a u e => by rw [upd_ne (ne_of_none e h)]; exact x.there a u e⟩
theorem Kp.inn {M : List Addr} {H H1 : Hp} {p : Addr} {o : HO} (x : Kp M H H1) (h : p ∈ M) : Kp M H (upd H1 p o) :=
  ⟨fun a u e n => by rw [upd_ne (fun z => n (by rw [z]; exact h))]; exact x.keep a u e n, fun a u e => by
    by_cases z : a = p
    · exact ⟨o, by rw [z, upd_same]⟩
    · rw [upd_ne z]; exact x.there a u e⟩
theorem Kp.at_ {M : List Addr} {H H1 : Hp} {a : Addr} {o : HO} (x : Kp M H H1) (h : H a = some o) (n : a ∉ M) : H1 a = some o := x.keep a o h n
theorem Kp.at0 {H H1 : Hp} {a : Addr} {o : HO} (x : Kp [] H H1) (h : H a = some o) : H1 a = some o := x.keep a o h (by simp)
theorem Kp.seq {K : PySem.W.Frag} {H H' : Hp} {a : Addr} {xs : List V} (e : Kp [] H H') (h : SqL K H a xs) : SqL K H' a xs := by
  rcases h with (h | ⟨o, h⟩) | h
  · exact .inl (.inl (e.at0 h))
  · exact .inl (.inr ⟨o, e.at0 h⟩)
  · exact .inr h
theorem Kp.sqt {K : PySem.W.Frag} {H H' : Hp} {a : Addr} {xs : List V} (e : Kp [] H H') (h : SqT K H a xs) : SqT K H' a xs := by
  rcases h with (h | ⟨o, h⟩) | h
  · exact .inl (.inl (e.at0 h))
  · exact .inl (.inr ⟨o, e.at0 h⟩)
  · exact .inr h
theorem nin1 {a b : Addr} (h : a ≠ b) : a ∉ [b] := by simpa using h

/-! ### the built-ins that no text here binds -/
structure Glb (mg : Str → Option Value) : Prop where
  len : mg "len" = none
  range : mg "range" = none
  int : mg "int" = none
  str : mg "str" = none
  list : mg "list" = none
  isinstance : mg "isinstance" = none
  enumerate : mg "enumerate" = none
  sorted : mg "sorted" = none
  tuple : mg "tuple" = none
  bool : mg "bool" = none
  max : mg "max" = none
  min : mg "min" = none
  sum : mg "sum" = none
  all : mg "all" = none
  any : mg "any" = none
  zip : mg "zip" = none
  set : mg "set" = none
  reversed : mg "reversed" = none
/-- a def of the text that keeps its promise, as callers see it -/
structure Cal (P : Program) (w : World) (K : PySem.W.Frag) (mg : Str → Option Value) (base : Heap) (k : Nat) (x : Str) (ps : List Str) (sp : Sp) : Prop where
  ex : ∃ (f : Addr) (fd : FuncData), FnOk P w K mg base CX0 k f fd ps sp ∧ mg x = some (.ref f) ∧ PySem.W.keepIn K (.ref f) = true ∧ Binds K fd ps []
theorem pe_cal {X : Cx} {k : Nat} {x : Str} {ps : List Str} {sp : Sp} {e : Expr} {es : List Expr} {t : TA} {p pos : Pos} (C : Cal X.prog X.w X.K X.mg X.base k x ps sp) (hr : Room k X.A) (hg : Gl X x) (ha : PA X (e :: es) t)
    (hd : (x == ("__debug__" : Str)) = false := by decide)
    (he : starEach (e :: es) X.env = (false, eval e X.env) :: starEach es X.env := by rfl) (hpl : (backTo pos (starEach es X.env)).any (·.1) = false := by rfl) : PE X (.Call (.Name x p) (e :: es) [] pos) (tCall sp [] E0 t) := by
  obtain ⟨f, fd, F, g, kp, b⟩ := C.ex
  exact pe_call F hr hg g kp b .nil pass0 ha hd he hpl
theorem Cal.mono {P : Program} {w : World} {K : PySem.W.Frag} {mg : Str → Option Value} {base : Heap} {j k : Nat} {x : Str} {ps : List Str} {sp : Sp} (C : Cal P w K mg base j x ps sp) (h : j ≤ k) : Cal P w K mg base k x ps sp := by
  obtain ⟨f, fd, F, r⟩ := C.ex
  exact ⟨f, fd, F.mono h, r⟩
/-! ### rules told more narrowly -/
section
variable {X : Cx}
theorem CallR.imp {f : Value} {r r' : List V → Hp → VK → Prop} (h : CallR X f r) (i : ∀ xs H Q, r' xs H Q → r xs H Q) : CallR X f r' := fun pins s σ H xs us Q I v q => h pins s σ H xs us Q I v (i _ _ _ q)
theorem OpR.imp {f : Value → Value → Sem Value} {r r' : R2} (h : OpR X f r) (i : ∀ x y H Q, r' x y H Q → r x y H Q) : OpR X f r' := fun pins s σ H x y v u Q I a b q => h pins s σ H x y v u Q I a b (i _ _ _ _ q)
theorem call_intI : CallR X (.type "int") (fun xs H Q => ∃ i, xs = [.int i] ∧ Q (.int i) H) := CallR.imp call_int1 fun _ _ _ q => .inl q
theorem call_intB : CallR X (.type "int") (fun xs H Q => ∃ k, xs = [.bl k] ∧ Q (.int (if k then 1 else 0)) H) := CallR.imp call_int1 fun _ _ _ q => .inr q
theorem call_lenL : CallR X (.builtin "len") (fun xs H Q => ∃ p ys, xs = [.ref p] ∧ SqL X.K H p ys ∧ Q (.int ys.length) H) := CallR.imp call_len_seq fun _ _ _ ⟨p, ys, e, h, q⟩ => ⟨p, ys, e, .inl h, q⟩
theorem call_lenT : CallR X (.builtin "len") (fun xs H Q => ∃ p ys, xs = [.ref p] ∧ SqT X.K H p ys ∧ Q (.int ys.length) H) := CallR.imp call_len_seq fun _ _ _ ⟨p, ys, e, h, q⟩ => ⟨p, ys, e, .inr h, q⟩
theorem call_listL : CallR X (.type "list") (fun xs H Q => ∃ p ys, xs = [.ref p] ∧ SqL X.K H p ys ∧ ∀ l, H l = none → Q (.ref l) (upd H l (.lst ys))) := CallR.imp call_list_of fun _ _ _ ⟨p, ys, e, h, q⟩ => ⟨p, ys, e, .inl h, q⟩
theorem call_listT : CallR X (.type "list") (fun xs H Q => ∃ p ys, xs = [.ref p] ∧ SqT X.K H p ys ∧ ∀ l, H l = none → Q (.ref l) (upd H l (.lst ys))) := CallR.imp call_list_of fun _ _ _ ⟨p, ys, e, h, q⟩ => ⟨p, ys, e, .inr h, q⟩
theorem call_tupleL : CallR X (.type "tuple") (fun xs H Q => ∃ p ys, xs = [.ref p] ∧ SqL X.K H p ys ∧ ∀ l, H l = none → Q (.ref l) (upd H l (.tup ys))) := CallR.imp call_tuple_of fun _ _ _ ⟨p, ys, e, h, q⟩ => ⟨p, ys, e, .inl ⟨h, q⟩⟩
end
/-! ### small things -/
theorem kv_r (s : Str) : kV (Sum.inr s : Key) = .str s := rfl
theorem iteA {c : Bool} {A B : Prop} (h1 : c = true → A) (h2 : c = false → B) : if c = true then A else B := by
  cases c with
  | true => exact iteT (h1 rfl)
  | false => exact iteF (h2 rfl)
theorem iteD {c : Prop} [Decidable c] {A B : Prop} (h1 : c → A) (h2 : ¬ c → B) : if decide c = true then A else B := ite2 (fun e => h1 (of_decide_eq_true e)) (fun e => h2 fun z => e (decide_eq_true z))
theorem iteND {c : Prop} [Decidable c] {A B : Prop} (h1 : ¬ c → A) (h2 : c → B) : if (!decide c) = true then A else B := ite2 (fun e => h1 (by simpa using e)) (fun e => h2 (by simpa using e))
theorem small {n : Nat} (h : n ≤ 100000) : n ≤ sizeLine := Nat.le_trans h (by decide)
theorem smallLt {n : Nat} (h : n < 100000) : n < sizeLine := Nat.lt_of_lt_of_le h (by decide)
theorem nodupPair {a b : Str} (h : a ≠ b) : (Sum.inr a : Key) ≠ Sum.inr b := fun z => h (Sum.inr.inj z)

/-- a statement, then a word that holds behind it, then the rest -/
def tCut (t u : TS) : TS := fun D σ H => ∃ W : L2.St → Hp → Prop, t { D with nx := W } σ H ∧ ∀ σ' H', W σ' H' → u D σ' H'
theorem pss_cut {X : Cx} {st : Stmt} {rest : List Stmt} {t u : TS} (h1 : PS X st t) (h2 : PSs X rest u) : PSs X (st :: rest) (tCut t u) := by
  refine ⟨fun pins s σ H D I h => ?_⟩
  obtain ⟨W, ht, hu⟩ := h
  refine wpAny_execs_cons (thn (h1.run pins s σ H { D with nx := W } I ht) fun f s1 q => ?_)
  cases f with
  | next =>
    obtain ⟨σ', H', I', q⟩ := q
    exact h2.run pins s1 σ' H' D I' (hu _ _ q)
  | ret v => exact q
  | brk => exact q
  | cont => exact q
theorem tyL {K : PySem.W.Frag} {H : Hp} {a : Addr} {xs : List V} (h : H a = some (.lst xs)) : tyV K "list" (.ref a) H := .inl ⟨rfl, _, .inl (.inl h)⟩
/-- a word: the steps stop at it -/
structure Wd (p : Prop) : Prop where
  get : p
theorem upd_int {H : Hp} {o : Addr} {rs : List Int} {x : Int} : upd H o (.lst (rs.map V.int ++ [V.int x])) o = some (.lst ((rs ++ [x]).map V.int)) := by
  rw [upd_same, List.map_append]
  rfl
/-- ranges of a few turns -/
def iRn1 (ta : TA) : TI := fun σ H R => ta σ H fun vs H1 => ∃ j : Int, vs = [.int j] ∧ -1000000 ≤ j ∧ j ≤ 1000000 ∧ R (Itr 0 j.toNat) H1
def iRn2 (ta : TA) : TI := fun σ H R => ta σ H fun vs H1 => ∃ i j : Int, vs = [.int i, .int j] ∧ -1000000 ≤ i ∧ i ≤ 1000000 ∧ -1000000 ≤ j ∧ j ≤ 1000000 ∧ R (Itr i (j - i).toNat) H1
theorem PA.imp {X : Cx} {es : List Expr} {t t' : TA} (h : PA X es t) (i : ∀ σ H Q, t' σ H Q → t σ H Q) : PA X es t' := ⟨fun pos pins s σ H Q I q => h.run pos pins s σ H Q I (i _ _ _ q)⟩
theorem PI.imp {X : Cx} {tg iter : Expr} {w w' : TI} (h : PI X tg iter w) (i : ∀ σ H R, w' σ H R → w σ H R) : PI X tg iter w' := ⟨fun pins s σ H R I q => h.run pins s σ H R I (i _ _ _ q)⟩
/-- arguments read, then weakened -/
theorem PA.clo {X : Cx} {es : List Expr} {t : TA} (h : PA X es t) : PA X es (fun σ H Q => ∃ Q0, t σ H Q0 ∧ ∀ vs H', Q0 vs H' → Q vs H') := ⟨fun pos pins s σ H Q I ⟨Q0, q, i⟩ =>
  thn (h.run pos pins s σ H Q0 I q) fun us s1 ⟨vs, H1, I1, r1, q1⟩ => ⟨vs, H1, I1, r1, i _ _ q1⟩⟩
theorem p62 {j : Int} (h1 : -1000000 ≤ j) (h2 : j ≤ 1000000) : -(2 ^ 62) ≤ j ∧ j < 2 ^ 62 := ⟨Int.le_trans (by decide) h1, Int.lt_of_le_of_lt h2 (by decide)⟩
theorem pi_rn1 {X : Cx} {tg a : Expr} {ta : TA} {p pos : Pos} (hg : Gl X "range") (hm : X.mg "range" = none) (ha : PA X [a] ta) (hs : starEach [a] X.env = [(false, eval a X.env)] := by rfl) : PI X tg (.Call (.Name "range" p) [a] [] pos) (iRn1 ta) :=
  PI.imp (pi_range1 hg hm (PA.clo ha) hs) fun σ H R q => ⟨_, q, fun vs H' ⟨j, e, h1, h2, r⟩ => ⟨j, e, (p62 h1 h2).1, (p62 h1 h2).2, r⟩⟩
theorem pi_rn2 {X : Cx} {tg a b : Expr} {ta : TA} {p pos : Pos} (hg : Gl X "range") (hm : X.mg "range" = none) (ha : PA X [a, b] ta) (hs : starEach [a, b] X.env = [(false, eval a X.env), (false, eval b X.env)] := by rfl) (hs2 : starEach [b] X.env = [(false, eval b X.env)] := by rfl) : PI X tg (.Call (.Name "range" p) [a, b] [] pos) (iRn2 ta) :=
  PI.imp (pi_range2 hg hm (PA.clo ha) hs hs2) fun σ H R q => ⟨_, q, fun vs H' ⟨i, j, e, h1, h2, h3, h4, r⟩ => ⟨i, j, e, ⟨(p62 h1 h2).1, (p62 h1 h2).2, (p62 h3 h4).1, (p62 h3 h4).2⟩, r⟩⟩
/-! ### tests and bools whose parts change nothing -/
def AnsT (t : TT) (σ : L2.St) (H : Hp) (b : Bool) : Prop := ∀ Q : Bool → Hp → Prop, Q b H → t σ H Q
def ValE (t : TE) (σ : L2.St) (H : Hp) (v : V) : Prop := ∀ Q : VK, Q v H → t σ H Q
def tAnd2 (t u : TT) : TT := fun σ H Q => ∃ b1 b2, AnsT t σ H b1 ∧ (b1 = true → AnsT u σ H b2) ∧ Q (b1 && b2) H
def tOr2 (t u : TT) : TT := fun σ H Q => ∃ b1 b2, AnsT t σ H b1 ∧ (b1 = false → AnsT u σ H b2) ∧ Q (b1 || b2) H
def tAndV2 (t u : TE) : TE := fun σ H Q => ∃ b1 b2, ValE t σ H (.bl b1) ∧ (b1 = true → ValE u σ H (.bl b2)) ∧ Q (.bl (b1 && b2)) H
def tOrV2 (t u : TE) : TE := fun σ H Q => ∃ b1 b2, ValE t σ H (.bl b1) ∧ (b1 = false → ValE u σ H (.bl b2)) ∧ Q (.bl (b1 || b2)) H
def tChain2 (r r' : R2) (ta tb tc : TE) : TE := fun σ H Q => ∃ b1 b2 x y z, ValE ta σ H x ∧ ValE tb σ H y ∧ (∀ Q : VK, Q (.bl b1) H → r x y H Q) ∧ (b1 = true → ValE tc σ H z ∧ ∀ Q : VK, Q (.bl b2) H → r' y z H Q) ∧ Q (.bl (b1 && b2)) H
section
variable {X : Cx} {a b c : Expr} {rest : List Expr} {tA tB' : TT} {ta tb tc : TE} {pos : Pos}
theorem PW.imp {e : Expr} {t t' : TT} (h : PW X e t) (i : ∀ σ H Q, t' σ H Q → t σ H Q) : PW X e t' := ⟨fun wh pins s σ H Q I q => h.run wh pins s σ H Q I (i _ _ _ q)⟩
theorem PT.imp {e : Expr} {t t' : TT} (h : PT X e t) (i : ∀ σ H Q, t' σ H Q → t σ H Q) : PT X e t' := ⟨fun pins s σ H Q I q => h.run pins s σ H Q I (i _ _ _ q)⟩
theorem PE.imp {e : Expr} {t t' : TE} (h : PE X e t) (i : ∀ σ H Q, t' σ H Q → t σ H Q) : PE X e t' := ⟨fun pins s σ H Q I q => h.run pins s σ H Q I (i _ _ _ q)⟩
theorem pw_and2 (ha : PT X a tA) (hb : PW X (.BoolOp .And (b :: rest) pos) tB') : PW X (.BoolOp .And (a :: b :: rest) pos) (tAnd2 tA tB') :=
  PW.imp (pw_and ha hb) fun σ H Q ⟨b1, b2, h1, h2, q⟩ => h1 _ (by
    cases b1 with
    | true => exact iteT (h2 rfl _ q)
    | false => exact iteF q)
theorem pw_or2 (ha : PT X a tA) (hb : PW X (.BoolOp .Or (b :: rest) pos) tB') : PW X (.BoolOp .Or (a :: b :: rest) pos) (tOr2 tA tB') :=
  PW.imp (pw_or ha hb) fun σ H Q ⟨b1, b2, h1, h2, q⟩ => h1 _ (by
    cases b1 with
    | true => exact iteT q
    | false => exact iteF (h2 rfl _ q))
theorem pe_and2 (ha : PE X a ta) (hb : PE X (.BoolOp .And (b :: rest) pos) tb) : PE X (.BoolOp .And (a :: b :: rest) pos) (tAndV2 ta tb) :=
  PE.imp (pe_and ha hb) fun σ H Q ⟨b1, b2, h1, h2, q⟩ => h1 _ ⟨b1, rfl, by
    cases b1 with
    | true => exact iteT (h2 rfl _ q)
    | false => exact iteF q⟩
theorem pe_or2 (ha : PE X a ta) (hb : PE X (.BoolOp .Or (b :: rest) pos) tb) : PE X (.BoolOp .Or (a :: b :: rest) pos) (tOrV2 ta tb) :=
  PE.imp (pe_or ha hb) fun σ H Q ⟨b1, b2, h1, h2, q⟩ => h1 _ ⟨b1, rfl, by
    cases b1 with
    | true => exact iteT q
    | false => exact iteF (h2 rfl _ q)⟩
theorem chain2_imp {r r' : R2} {σ : L2.St} {H : Hp} {Q : VK} (h : tChain2 r r' ta tb tc σ H Q) : tChain r r' ta tb tc σ H Q := by
  obtain ⟨b1, b2, x, y, z, h1, h2, h3, h4, q⟩ := h
  refine h1 _ (h2 _ (h3 _ ⟨b1, rfl, ?_⟩))
  cases b1 with
  | true => exact iteT ((h4 rfl).1 _ ((h4 rfl).2 _ q))
  | false => exact iteF q
theorem pe_chain2 {op op' : CmpOp} {r r' : R2} (ho : OpR X (compareOp op) r) (ho' : OpR X (compareOp op') r') (ha : PE X a ta) (hb : PE X b tb) (hc : PE X c tc)
    (hm : lastMarks [op, op'] [b, c] = false := by with_unfolding_all rfl) : PE X (.Compare a [op, op'] [b, c] pos) (tChain2 r r' ta tb tc) := PE.imp (pe_chain ho ho' ha hb hc hm) fun _ _ _ q => chain2_imp q
theorem pt_chain2 {op op' : CmpOp} {r r' : R2} (ho : OpR X (compareOp op) r) (ho' : OpR X (compareOp op') r') (ha : PE X a ta) (hb : PE X b tb) (hc : PE X c tc)
    (hm : lastMarks [op, op'] [b, c] = false := by with_unfolding_all rfl) : PT X (.Compare a [op, op'] [b, c] pos) (tTest (tChain2 r r' ta tb tc)) := PT.imp (pt_chain ho ho' ha hb hc hm) fun _ _ _ q => chain2_imp q
/-- a list's truth -/
theorem pt_truthL (ha : PE X a ta) (he : ∀ whole, isTrue a X.env whole = (do let v ← whole; standAt a.pos; holding [v] (truthy v)) := by intro _; rfl) :
    PT X a (fun σ H Q => ∃ p xs, ValE ta σ H (.ref p) ∧ SqL X.K H p xs ∧ Q (!xs.isEmpty) H) :=
  PT.imp (pt_truth ha he) fun σ H Q ⟨p, xs, h1, h2, q⟩ => h1 _ ⟨_, .inl ⟨xs, h2, rfl⟩, q⟩
end
theorem u65 {k : Nat} {A : Around} (r : Room k A) : A.units + 65 < cLine := by have := r.un; omega
theorem andP {c d : Prop} [Decidable c] [Decidable d] : (decide c && decide d) = decide (c ∧ d) := by simp
theorem orP {c d : Prop} [Decidable c] [Decidable d] : (decide c || decide d) = decide (c ∨ d) := by simp
theorem iteAD {c d A B : Prop} [Decidable c] [Decidable d] (h1 : c → d → A) (h2 : ¬ (c ∧ d) → B) : if (decide c && decide d) = true then A else B := by
  rw [andP]
  exact iteD (fun e => h1 e.1 e.2) h2
theorem iteOD {c d A B : Prop} [Decidable c] [Decidable d] (h1 : c ∨ d → A) (h2 : ¬ c → ¬ d → B) : if (decide c || decide d) = true then A else B := by
  rw [orP]
  exact iteD h1 (fun e => h2 (fun z => e (.inl z)) fun z => e (.inr z))
/-- for i, x in enumerate(xs), the list as it was -/
theorem for_enum {K : PySem.W.Frag} {a : Addr} {xs : List V} {g : TG} {tb : TS} {D : Ends} {σ : L2.St} {H : Hp} (Pv : Nat → L2.St → Hp → Prop) (h0 : Pv 0 σ H) (hl : ∀ i σ H, i ≤ xs.length → Pv i σ H → SqL K H a xs)
    (hs : ∀ i x T σ H, xs[i]? = some x → Pv i σ H → H T = none → g (.ref T) σ (upd H T (.tup [.int (i : Nat), x])) fun σ2 H2 => tb { D with nx := Pv (i + 1), ct := Pv (i + 1), bk := D.nx } σ2 H2) (hd : ∀ σ H, Pv xs.length σ H → D.nx σ H) :
    ∃ W : Nat → Nat → L2.St → Hp → Prop, (∃ m, W 0 m σ H) ∧ ∀ i m σ H, W i m σ H →
      ((Ite K a).stop i H ∧ D.nx σ H) ∨ ((Ite K a).go i H ∧ ∃ N : L2.St → Hp → Prop, (∀ σ' H', N σ' H' → ∃ m', m' < m ∧ W (i + 1) m' σ' H') ∧ ∀ x H', (Ite K a).yld i H x H' → g x σ H' fun σ2 H2 => tb { D with nx := N, ct := N, bk := D.nx } σ2 H2) := by
  refine ⟨fun i m σ H => m = xs.length - i ∧ i ≤ xs.length ∧ Pv i σ H, ⟨xs.length, by simp, Nat.zero_le _, h0⟩, ?_⟩
  rintro i m σ H ⟨rfl, hi, p⟩
  have q := hl i σ H hi p
  by_cases hlt : i < xs.length
  · refine .inr ⟨⟨xs, xs[i], q, by simp [hlt]⟩, Pv (i + 1), fun σ' H' p' => ⟨xs.length - (i + 1), by omega, rfl, hlt, p'⟩, fun x H' y => ?_⟩
    obtain ⟨T, z, rfl, nT, rfl, y⟩ := y
    exact hs i z T σ _ (y xs q) p nT
  · have e : i = xs.length := by omega
    subst e
    exact .inl ⟨⟨xs, q, Nat.le_refl _⟩, hd σ H p⟩
theorem iteY {c : Bool} {A B : Prop} (h : c = true) (q : A) : if c = true then A else B := by rw [h]; exact iteT q
theorem iteN {c : Bool} {A B : Prop} (h : c = false) (q : B) : if c = true then A else B := by rw [h]; exact iteF q
theorem dstrY {a : Str} : decide (V.str a = V.str a) = true := decide_eq_true rfl
theorem dstrN {a b : Str} (h : ¬ a = b) : decide (V.str a = V.str b) = false := decide_eq_false fun z => h (V.str.inj z)
/-- isinstance(x, T), T a built-in class -/
structure Kit (S T : String) (b : Bool) : Prop where
  eq : kitB S T = some b
def rIs (K : PySem.W.Frag) : List V → Hp → VK → Prop := fun xs H Q => ∃ (x : V) (T S : String) (b : Bool), xs = [x, .ty T] ∧ TyX K H x (.type S) ∧ Kit S T b ∧ Q (.bl b) H
theorem call_is {X : Cx} : CallR X (.builtin "isinstance") (rIs X.K) := CallR.imp call_isi fun xs H Q ⟨x, T, S, b, e, h1, h2, q⟩ => ⟨x, .ty T, .type S, .type T, b, e, .ty T, h1, kit_ty h2.eq, q⟩
theorem kit_ll : Kit "list" "list" true := ⟨by decide +kernel⟩
theorem kit_tt : Kit "tuple" "tuple" true := ⟨by decide +kernel⟩
theorem kit_ss : Kit "str" "str" true := ⟨by decide +kernel⟩
theorem kit_ib : Kit "int" "bool" false := ⟨by decide +kernel⟩
theorem kit_ii : Kit "int" "int" true := ⟨by decide +kernel⟩
theorem kit_bb : Kit "bool" "bool" true := ⟨by decide +kernel⟩
theorem cut_take {xs : List V} {n : Nat} : cutV xs none (some (n : Int)) = xs.take n := by
  unfold cutV
  rw [HT.sIx_nat, HT.sIx_none, List.drop_zero, Nat.sub_zero]
  by_cases h : n ≤ xs.length
  · rw [Nat.min_eq_left h]
  · rw [Nat.min_eq_right (by omega), List.take_of_length_le (Nat.le_refl _), List.take_of_length_le (by omega)]
theorem cut_drop {xs : List V} {n : Nat} : cutV xs (some (n : Int)) none = xs.drop n := by
  unfold cutV
  rw [HT.sIx_nat, HT.sIx_none]
  by_cases h : n ≤ xs.length
  · rw [Nat.min_eq_left h, List.take_of_length_le (by rw [List.length_drop]; exact Nat.le_refl _)]
  · rw [Nat.min_eq_right (by omega), List.drop_of_length_le (Nat.le_refl _), List.drop_of_length_le (by omega)]
    exact List.take_nil
/-- a def that calls itself: its own name -/
structure Slf (K : PySem.W.Frag) (mg : Str → Option Value) (x : Str) (f : Addr) (fd : FuncData) (ps : List Str) : Prop where
  g : mg x = some (.ref f)
  k : PySem.W.keepIn K (.ref f) = true
  b : Binds K fd ps []
/-! ### the steps: hs (what stands at an address), ne (two addresses), kp (what is left), sd (a side question), st (one place of a reading) -/
local macro_rules | `(tactic| walk_at "ne") => `(tactic| first
  | assumption
  | (apply Ne.symm; assumption)
  | (apply ne_of_none (h' := by assumption); walk_at "hs")
  | (apply Ne.symm; apply ne_of_none (h' := by assumption); walk_at "hs"))
local macro_rules | `(tactic| walk_at "hs") => `(tactic| first
  | assumption
  | exact upd_same
  | (refine Eq.trans (upd_ne ?_) ?_; (focus walk_at "ne"); walk_at "hs"))
local macro_rules | `(tactic| walk_at "kp") => `(tactic| first
  | assumption
  | exact Kp.refl _ _
  | (apply Kp.new (h := by assumption); walk_at "kp")
  | (apply Kp.own (h := by assumption); walk_at "kp")
  | (apply Kp.inn (h := List.mem_cons_self); walk_at "kp"))
local macro_rules | `(tactic| walk_at "sd") => `(tactic| first
  | ((with_reducible show _ = _); rfl)
  | ((with_reducible show (_ : Int) < _); omega)
  | ((with_reducible show (_ : Int) ≤ _); omega)
  | assumption
  | (apply SqL.of; walk_at "hs")
  | (apply tyL; walk_at "hs")
  | (apply SqT.of; walk_at "hs")
  | walk_at "hs"
  | exact kit_ll
  | exact kit_tt
  | exact kit_ss
  | exact kit_ib
  | exact kit_bb
  | omega
  | (apply small; (try simp only [List.length_append, List.length_cons, List.length_nil, List.length_map]); omega)
  | (apply smallLt; (try simp only [List.length_append, List.length_cons, List.length_nil, List.length_map]); omega)
  | (refine Or.inl ⟨?_, ?_⟩ <;> omega)
  | (refine Or.inr ⟨?_, ?_⟩ <;> omega)
  | (refine ⟨?_, ?_⟩ <;> omega)
  | (apply Kp.seq; rotate_left; assumption; walk_at "kp")
  | (apply Kp.sqt; rotate_left; assumption; walk_at "kp")
  | (apply Exists.intro; assumption)
  | (apply Exists.intro; apply Kp.seq; rotate_left; assumption; walk_at "kp")
  | (apply Exists.intro; apply Kp.sqt; rotate_left; assumption; walk_at "kp")
  | (apply Exists.intro; apply SqL.of; walk_at "hs")
  | (apply Exists.intro; apply SqT.of; walk_at "hs")
  | (show AnsT _ _ _ _; intro Qx qx; walk_at "st"; exact qx)
  | (show ValE _ _ _ _; intro Qx qx; walk_at "st"; exact qx)
  | (intro hx; show AnsT _ _ _ _; intro Qx qx; walk_at "st"; exact qx)
  | (intro hx; show ValE _ _ _ _; intro Qx qx; walk_at "st"; exact qx)
  | (intro hx; apply And.intro; (focus walk_at "sd"); intro Qx qx; walk_at "st"; exact qx)
  | (intro Qx qx; walk_at "st"; exact qx)
  | decide)
local macro_rules | `(tactic| walk_at "st1") => `(tactic| first
  | (apply And.intro; (focus walk_at "sd"))
  | apply Exists.intro)
local macro_rules | `(tactic| walk_at "st") => `(tactic| repeat (
  (fail_if_success show ∃ W : Nat → Nat → L2.St → Hp → Prop, _)
  (fail_if_success show ∃ W : Nat → Nat → Hp → Prop, _)
  (fail_if_success show ∃ W : Nat → L2.St → Hp → Prop, _)
  (fail_if_success show ∃ W : L2.St → Hp → Prop, _)
  walk_at "st1"))
/-! ### the box of draws: what a law draws its input from -/
def kRow : Key := .inr "row"
def kAt : Key := .inr "at"
theorem kRA : ¬ kRow = kAt := fun z => absurd (Sum.inr.inj z) (by decide +kernel)
def boxD (r : Addr) (n : Int) : List (Key × V) := [(kRow, .ref r), (kAt, .int n)]
theorem box_row (r : Addr) (n : Int) : valV (boxD r n) kRow = some (.ref r) := valV_pos rfl
theorem box_at (r : Addr) (n : Int) : valV (boxD r n) kAt = some (.int n) := (valV_neg kRA).trans (valV_pos rfl)
theorem box_put (r : Addr) (n m : Int) : putK (boxD r n) kAt (.int m) = boxD r m := by
  unfold putK boxD
  simp [kRA]
/-- the box stands at b: its numbers, none empty -/
structure BoxAt (H : Hp) (b r : Addr) : Prop where
  ex : ∃ (rs : List Int) (n : Int), H b = some (.dK (boxD r n)) ∧ H r = some (.lst (rs.map V.int)) ∧ 0 < rs.length ∧ rs.length ≤ 1000 ∧ 0 ≤ n
theorem BoxAt.kp {H H' : Hp} {b r : Addr} (x : BoxAt H b r) (k : Kp [] H H') : BoxAt H' b r := by
  obtain ⟨rs, n, h1, h2, h3⟩ := x.ex
  exact ⟨rs, n, k.at0 h1, k.at0 h2, h3⟩
/-- a new object, or one that is neither, changes -/
theorem BoxAt.upd {H : Hp} {b r p : Addr} {o : HO} (x : BoxAt H b r) (h1 : p ≠ b) (h2 : p ≠ r) : BoxAt (upd H p o) b r := by
  obtain ⟨rs, n, e1, e2, h3⟩ := x.ex
  exact ⟨rs, n, by rw [upd_ne h1.symm]; exact e1, by rw [upd_ne h2.symm]; exact e2, h3⟩
theorem BoxAt.neb {H : Hp} {b r p : Addr} (x : BoxAt H b r) (h : H p = none) : p ≠ b := by
  obtain ⟨rs, n, e1, e2, h3⟩ := x.ex
  exact (ne_of_none e1 h).symm
theorem BoxAt.ner {H : Hp} {b r p : Addr} (x : BoxAt H b r) (h : H p = none) : p ≠ r := by
  obtain ⟨rs, n, e1, e2, h3⟩ := x.ex
  exact (ne_of_none e2 h).symm
theorem BoxAt.nin {H : Hp} {b r p : Addr} (x : BoxAt H b r) (h : H p = none) : p ∉ [b] := nin1 (x.neb h)
theorem BoxAt.tupin {H : Hp} {b r p : Addr} {xs : List V} (x : BoxAt H b r) (h : H p = some (.tup xs)) : p ∉ [b] := by
  obtain ⟨rs, n, e1, e2, h3⟩ := x.ex
  exact nin1 (ne_of h e1 (by intro z; cases z))
theorem BoxAt.lstin {H : Hp} {b r p : Addr} {xs : List V} (x : BoxAt H b r) (h : H p = some (.lst xs)) : p ∉ [b] := by
  obtain ⟨rs, n, e1, e2, h3⟩ := x.ex
  exact nin1 (ne_of h e1 (by intro z; cases z))
/-- a drawn number below m -/
def sp__law_next : Sp := fun vs H Q _ => ∃ (b r : Addr) (m : Int), vs = [.ref b, .int m] ∧ 0 < m ∧ m < 1073741824 ∧ BoxAt H b r ∧ ∀ (v : Int) (H' : Hp), 0 ≤ v → v < m → BoxAt H' b r → Kp [b] H H' → Q (.int v) H'
/-- labels: three numbers from 1 to 3, a new tuple -/
def Lab (a b c : Int) : Prop := 1 ≤ a ∧ a ≤ 3 ∧ 1 ≤ b ∧ b ≤ 3 ∧ 1 ≤ c ∧ c ≤ 3
def sp__law_labels : Sp := fun vs H Q _ => ∃ b r : Addr, vs = [.ref b] ∧ BoxAt H b r ∧
  ∀ (p : Addr) (H' : Hp) (x y z : Int), Lab x y z → H' p = some (.tup [.int x, .int y, .int z]) → H p = none → BoxAt H' b r → Kp [b] H H' → Q (.ref p) H'
/-- so many drawn numbers, a new list -/
def sp__law_draws : Sp := fun vs H Q _ => ∃ c m k : Int, vs = [.int c, .int m, .int k] ∧ 0 < m ∧ m < 1073741824 ∧ 0 ≤ k ∧ k ≤ 1000 ∧
  ∀ (p : Addr) (H' : Hp) (rs : List Int), (rs.length : Int) = k → H p = none → H' p = some (.lst (rs.map V.int)) → Kp [] H H' → Q (.ref p) H'
/-- a new box from the script -/
def sp__law_box (K : PySem.W.Frag) : Sp := fun vs H Q _ => ∃ (a : Addr) (ns : List Int), vs = [.ref a] ∧ SqL K H a (ns.map V.int) ∧ ns.length ≤ 63 ∧
  ∀ (b r : Addr) (H' : Hp), BoxAt H' b r → H b = none → Kp [] H H' → Q (.ref b) H'
/-! ### places and texts, as data -/
inductive Pl | let_ (a : Int) | cal (a : Int) | ret (a : Int)
  deriving DecidableEq, Inhabited
def Pl.kind : Pl → Str
  | .let_ _ => "letter" | .cal _ => "call" | .ret _ => "return"
def Pl.lab : Pl → Int
  | .let_ a => a | .cal a => a | .ret a => a
def Pl.vs (p : Pl) : List V := [.str p.kind, .int p.lab]
def Pl.py (p : Pl) : PyData := .tuple [.str p.kind, .int p.lab]
def pyT (t : List Pl) : PyData := .list (t.map Pl.py)
theorem kLC : ¬ (("letter" : Str) = "call") := by decide +kernel
theorem kLR : ¬ (("letter" : Str) = "return") := by decide +kernel
theorem kCR : ¬ (("call" : Str) = "return") := by decide +kernel
theorem Pl.ext_ {p q : Pl} (h1 : p.kind = q.kind) (h2 : p.lab = q.lab) : p = q := by
  cases p <;> cases q <;> simp only [Pl.kind, Pl.lab] at h1 h2 <;> first
    | (subst h2; rfl; done)
    | exact absurd h1 kLC
    | exact absurd h1 kLR
    | exact absurd h1 kCR
    | exact absurd h1.symm kLC
    | exact absurd h1.symm kLR
    | exact absurd h1.symm kCR
theorem eqv_pl (p q : Pl) : PyData.eqv p.py q.py = decide (p = q) := by
  unfold Pl.py
  by_cases h : p = q
  · subst h; simp [PyData.eqv, PyData.eqvAll]
  · rw [decide_eq_false h]
    simp only [PyData.eqv, PyData.eqvAll, Bool.and_true]
    by_cases h1 : p.kind = q.kind
    · have h2 : ¬ p.lab = q.lab := fun z => h (Pl.ext_ h1 z)
      simp [h2]
    · simp [h1]
theorem eqvAll_pl : ∀ (t u : List Pl), PyData.eqvAll (t.map Pl.py) (u.map Pl.py) = decide (t = u)
  | [], [] => rfl
  | [], _ :: _ => by simp [PyData.eqvAll]
  | _ :: _, [] => by simp [PyData.eqvAll]
  | p :: t, q :: u => by
    simp only [List.map_cons, PyData.eqvAll, eqv_pl, eqvAll_pl t u]
    by_cases h1 : p = q <;> by_cases h2 : t = u <;> simp [h1, h2]
theorem eqv_t (t u : List Pl) : PyData.eqv (pyT t) (pyT u) = decide (t = u) := by
  unfold pyT
  rw [PyData.eqv]
  exact eqvAll_pl t u
theorem strOk_kind (p : Pl) : PyData.strOk p.kind = true := by cases p <;> (show PyData.strOk _ = true; simp only [Pl.kind]; decide +kernel)
theorem canLay_pl (p : Pl) : p.py.canLay0 = true := by simp [Pl.py, PyData.canLay0, PyData.canLayAll0, strOk_kind]
theorem canLayAll_pl : ∀ t : List Pl, PyData.canLayAll0 (t.map Pl.py) = true
  | [] => by simp [PyData.canLayAll0]
  | p :: t => by simp [PyData.canLayAll0, canLay_pl, canLayAll_pl t]
theorem depth_pl (p : Pl) : p.py.depth ≤ 2 := by simp [Pl.py, PyData.depth, PyData.depthAll]
theorem depthAll_pl : ∀ t : List Pl, PyData.depthAll (t.map Pl.py) ≤ 2
  | [] => by simp [PyData.depthAll]
  | p :: t => by
    have h1 := depth_pl p
    have h2 := depthAll_pl t
    simp only [List.map_cons, PyData.depthAll]
    omega
theorem shaped_pl (p : Pl) : SeqAt.shaped p.py = true := by
  have h := depth_pl p
  unfold SeqAt.shaped
  rw [canLay_pl, decide_eq_true (show p.py.depth ≤ 64 by omega)]
  rfl
theorem shaped_t (t : List Pl) : SeqAt.shaped (pyT t) = true := by
  have h := depthAll_pl t
  unfold SeqAt.shaped
  have h1 : (pyT t).canLay0 = true := by
    unfold pyT
    rw [PyData.canLay0]
    exact canLayAll_pl t
  have h2 : (pyT t).depth ≤ 64 := by
    unfold pyT
    rw [PyData.depth]
    omega
  rw [h1, decide_eq_true h2]
  rfl
/-! ### tuples stay -/
def TK (H H' : Hp) : Prop := ∀ a xs, H a = some (.tup xs) → H' a = some (.tup xs)
theorem TK.refl (H : Hp) : TK H H := fun _ _ h => h
theorem TK.trans {H H1 H2 : Hp} (x : TK H H1) (y : TK H1 H2) : TK H H2 := fun a xs h => y a xs (x a xs h)
theorem TK.kp {H H' : Hp} (k : Kp [] H H') : TK H H' := fun _ _ h => k.at0 h
theorem TK.new {H : Hp} {p : Addr} {o : HO} (h : H p = none) : TK H (upd H p o) := fun a xs e => by
  rw [upd_ne (ne_of_none e h)]; exact e
theorem TK.lst {H : Hp} {p : Addr} {o : HO} {ys : List V} (h : H p = some (.lst ys)) : TK H (upd H p o) := fun a xs e => by
  rw [upd_ne (ne_of e h (by intro z; cases z))]; exact e
theorem TK.box {H H' : Hp} {b r : Addr} (hb : BoxAt H b r) (k : Kp [b] H H') : TK H H' := fun a xs e => by
  obtain ⟨rs, n, h1, _⟩ := hb.ex
  exact k.at_ e (nin1 (ne_of e h1 (by intro z; cases z)))
theorem TK.new' {H H1 : Hp} {p : Addr} {o : HO} (x : TK H H1) (h : H1 p = none) : TK H (upd H1 p o) := x.trans (.new h)
theorem TK.lst' {H H1 : Hp} {p : Addr} {o : HO} {ys : List V} (x : TK H H1) (h : H1 p = some (.lst ys)) : TK H (upd H1 p o) := x.trans (.lst h)
local macro_rules | `(tactic| walk_at "tk") => `(tactic| first
  | exact TK.refl _
  | assumption
  | (apply TK.new' (h := by assumption); walk_at "tk")
  | (apply TK.lst'; (focus walk_at "tk"); (focus walk_at "hs")))
/-- a place at a value -/
def PlV (H : Hp) (v : V) (p : Pl) : Prop := ∃ a, v = .ref a ∧ H a = some (.tup p.vs)
theorem PlV.tk {H H' : Hp} {v : V} {p : Pl} (h : PlV H v p) (k : TK H H') : PlV H' v p := by
  obtain ⟨a, e, h⟩ := h
  exact ⟨a, e, k _ _ h⟩
theorem Pd.tk {H H' : Hp} {vs : List V} {t : List Pl} (h : Paired (PlV H) vs t) (k : TK H H') : Paired (PlV H') vs t := Paired.mapP h fun _ _ q => q.tk k
theorem Pd.app {α β : Type} {F : α → β → Prop} : ∀ {a c : List α} {b d : List β}, Paired F a b → Paired F c d → Paired F (a ++ c) (b ++ d)
  | _, _, _, _, .nil, h => h
  | _, _, _, _, .cons r t, h => .cons r (Pd.app t h)
theorem Pd.take {α β : Type} {F : α → β → Prop} : ∀ {a : List α} {b : List β} (n : Nat), Paired F a b → Paired F (a.take n) (b.take n)
  | _, _, 0, _ => .nil
  | _, _, _ + 1, .nil => .nil
  | _, _, n + 1, .cons r t => .cons r (Pd.take n t)
theorem Pd.drop {α β : Type} {F : α → β → Prop} : ∀ {a : List α} {b : List β} (n : Nat), Paired F a b → Paired F (a.drop n) (b.drop n)
  | _, _, 0, r => r
  | _, _, _ + 1, .nil => .nil
  | _, _, n + 1, .cons _ t => Pd.drop n t
theorem Pd.set {α β : Type} {F : α → β → Prop} {x : α} {y : β} (h : F x y) : ∀ {a : List α} {b : List β} (n : Nat), Paired F a b → Paired F (a.set n x) (b.set n y)
  | _, _, _, .nil => .nil
  | _, _, 0, .cons _ t => .cons h t
  | _, _, n + 1, .cons r t => .cons r (Pd.set h n t)
theorem Pd.get {α β : Type} {F : α → β → Prop} : ∀ {a : List α} {b : List β} {i : Nat} {x : α}, Paired F a b → a[i]? = some x → ∃ y, b[i]? = some y ∧ F x y
  | _, _, _, _, .nil, e => by simp at e
  | _, _, 0, _, .cons r _, e => by simp at e; subst e; exact ⟨_, rfl, r⟩
  | _, _, i + 1, x, .cons _ t, e => by
    obtain ⟨u, h1, h2⟩ := Pd.get (i := i) (x := x) t (by simpa using e)
    exact ⟨u, by simpa using h1, h2⟩
theorem Pd.get' {α β : Type} {F : α → β → Prop} : ∀ {a : List α} {b : List β} {i : Nat} {y : β}, Paired F a b → b[i]? = some y → ∃ x, a[i]? = some x ∧ F x y
  | _, _, _, _, .nil, e => by simp at e
  | _, _, 0, _, .cons r _, e => by simp at e; subst e; exact ⟨_, rfl, r⟩
  | _, _, i + 1, y, .cons _ t, e => by
    obtain ⟨u, h1, h2⟩ := Pd.get' (i := i) (y := y) t (by simpa using e)
    exact ⟨u, by simpa using h1, h2⟩
/-- a text at an address: a list of places -/
structure TxtAt (K : PySem.W.Frag) (H : Hp) (a : Addr) (t : List Pl) : Prop where
  ex : ∃ vs, SqL K H a vs ∧ Paired (PlV H) vs t
theorem TxtAt.kp {K : PySem.W.Frag} {H H' : Hp} {a : Addr} {t : List Pl} (h : TxtAt K H a t) (k : Kp [] H H') : TxtAt K H' a t := by
  obtain ⟨vs, h1, h2⟩ := h.ex
  exact ⟨vs, k.seq h1, Pd.tk h2 (.kp k)⟩
theorem dp_pl {K : PySem.W.Frag} {H : Hp} {v : V} {p : Pl} (h : PlV H v p) : Dp K H v p.py := by
  obtain ⟨a, rfl, h⟩ := h
  exact .tup (SqT.of h) (.cons (.str _) (.cons (.int _) .nil))
theorem dp_pls {K : PySem.W.Frag} {H : Hp} : ∀ {vs : List V} {t : List Pl}, Paired (PlV H) vs t → DpAll K H vs (t.map Pl.py)
  | _, _, .nil => .nil
  | _, _, .cons r t => .cons (dp_pl r) (dp_pls t)
theorem TxtAt.dp {K : PySem.W.Frag} {H : Hp} {a : Addr} {t : List Pl} (h : TxtAt K H a t) : Dp K H (.ref a) (pyT t) := by
  obtain ⟨vs, h1, h2⟩ := h.ex
  exact .lst h1 (dp_pls h2)
/-! ### balance -/
/-- the height behind a row, from a height; none: a return that fits no call -/
def ht : List Pl → Nat → Option Nat
  | [], n => some n
  | .let_ _ :: r, n => ht r n
  | .cal _ :: r, n => ht r (n + 1)
  | .ret _ :: _, 0 => none
  | .ret _ :: r, n + 1 => ht r n
def Bal (t : List Pl) : Prop := ht t 0 = some 0
theorem ht_app : ∀ (s t : List Pl) (n : Nat), ht (s ++ t) n = (ht s n).bind (ht t)
  | [], _, _ => rfl
  | .let_ _ :: s, t, n => ht_app s t n
  | .cal _ :: s, t, n => ht_app s t (n + 1)
  | .ret _ :: _, _, 0 => rfl
  | .ret _ :: s, t, n + 1 => ht_app s t n
/-- each place has a label of its kind -/
def LabP (x y z : Int) : Pl → Prop
  | .let_ a => 0 ≤ a ∧ a < x
  | .cal a => 0 ≤ a ∧ a < y
  | .ret a => 0 ≤ a ∧ a < z
def LabT (x y z : Int) (t : List Pl) : Prop := ∀ p ∈ t, LabP x y z p
theorem LabT.snoc {x y z : Int} {t : List Pl} {p : Pl} (h : LabT x y z t) (q : LabP x y z p) : LabT x y z (t ++ [p]) := fun r hr => by
  rcases List.mem_append.mp hr with z | z
  · exact h r z
  · have e : r = p := by simpa using z
    rw [e]; exact q
/-- a drawn text: balanced, its labels, a new list -/
def sp__law_text (K : PySem.W.Frag) : Sp := fun vs H Q _ => ∃ (b r l : Addr) (x y z m : Int), vs = [.ref b, .ref l, .int m] ∧ BoxAt H b r ∧ H l = some (.tup [.int x, .int y, .int z]) ∧ Lab x y z ∧ 0 ≤ m ∧ m ≤ 1000 ∧
  ∀ (p : Addr) (H' : Hp) (vs' : List V) (t : List Pl), H' p = some (.lst vs') → Paired (PlV H') vs' t → Bal t → LabT x y z t → (t.length : Int) ≤ m → H p = none → BoxAt H' b r → Kp [b] H H' → Q (.ref p) H'
theorem dLC : decide (V.str ("letter" : Str) = V.str "call") = false := dstrN kLC
theorem dLR : decide (V.str ("letter" : Str) = V.str "return") = false := dstrN kLR
theorem dCR : decide (V.str ("call" : Str) = V.str "return") = false := dstrN kCR
theorem dRC : decide (V.str ("return" : Str) = V.str "call") = false := dstrN fun z => kCR z.symm
theorem dCL : decide (V.str ("call" : Str) = V.str "letter") = false := dstrN fun z => kLC z.symm
theorem dRL : decide (V.str ("return" : Str) = V.str "letter") = false := dstrN fun z => kLR z.symm
def sp_law (K : PySem.W.Frag) : Sp := fun vs H Q _ => ∃ (a : Addr) (ns : List Int), vs = [.ref a] ∧ SqL K H a (ns.map V.int) ∧ ns.length ≤ 63 ∧ ∀ H', Q (.bl true) H'
theorem kind3 (c : Int) (h0 : 0 ≤ c) (h1 : c < 3) : ∃ p : Pl, p.lab = 0 ∧ atI [V.str "letter", V.str "call", V.str "return"] c = some (.str p.kind) := by
  have h : c = 0 ∨ c = 1 ∨ c = 2 := by omega
  rcases h with rfl | rfl | rfl
  · exact ⟨.let_ 0, rfl, atI_nat (j := 0) rfl⟩
  · exact ⟨.cal 0, rfl, atI_nat (j := 1) rfl⟩
  · exact ⟨.ret 0, rfl, atI_nat (j := 2) rfl⟩
/-- a row that the program itself holds: a list of its own -/
structure RowAt (H : Hp) (a : Addr) (t : List Pl) : Prop where
  ex : ∃ vs, H a = some (.lst vs) ∧ Paired (PlV H) vs t
theorem RowAt.txt {K : PySem.W.Frag} {H : Hp} {a : Addr} {t : List Pl} (h : RowAt H a t) : TxtAt K H a t := by
  obtain ⟨vs, h1, h2⟩ := h.ex
  exact ⟨vs, SqL.of h1, h2⟩
theorem RowAt.kp {H H' : Hp} {a : Addr} {t : List Pl} (h : RowAt H a t) (k : Kp [] H H') : RowAt H' a t := by
  obtain ⟨vs, h1, h2⟩ := h.ex
  exact ⟨vs, k.at0 h1, Pd.tk h2 (.kp k)⟩
theorem RowAt.box {H H' : Hp} {a b r : Addr} {t : List Pl} (h : RowAt H a t) (hb : BoxAt H b r) (k : Kp [b] H H') : RowAt H' a t := by
  obtain ⟨vs, h1, h2⟩ := h.ex
  exact ⟨vs, k.at_ h1 (hb.lstin h1), Pd.tk h2 (.box hb k)⟩
theorem tk_snoc {α : Type} {t : List α} {i : Nat} {p : α} (h : t[i]? = some p) : t.take (i + 1) = t.take i ++ [p] := by
  rw [List.take_add_one, h]; rfl
def sp_check_labels_ok (K : PySem.W.Frag) : Sp := fun vs H Q _ => ∃ (l a : Addr) (x y z : Int) (t : List Pl), vs = [.ref l, .ref a] ∧ H l = some (.tup [.int x, .int y, .int z]) ∧ TxtAt K H a t ∧ LabT x y z t ∧ ∀ H', Kp [] H H' → Q .non H'
/-! ### the fault of a row -/
def flt : List Pl → Nat → List Nat → Option (Bool × Nat)
  | [], _, st => match st.getLast? with
    | none => none
    | some j => some (false, j)
  | .let_ _ :: r, i, st => flt r (i + 1) st
  | .cal _ :: r, i, st => flt r (i + 1) (i :: st)
  | .ret _ :: _, i, [] => some (true, i)
  | .ret _ :: r, i, _ :: st => flt r (i + 1) st
def fk (b : Bool) : Str := if b then "return" else "call"
def FltV (H : Hp) (v : V) : Option (Bool × Nat) → Prop
  | none => v = .non
  | some (b, j) => ∃ p, v = .ref p ∧ H p = some (.tup [.str (fk b), .int (j : Int)])
def fltPy : Option (Bool × Nat) → PyData
  | none => .none
  | some (b, j) => .tuple [.str (fk b), .int (j : Int)]
def natsV (st : List Nat) : List V := st.map fun (j : Nat) => V.int (j : Int)
theorem FltV.dp {K : PySem.W.Frag} {H : Hp} {v : V} {f : Option (Bool × Nat)} (h : FltV H v f) : Dp K H v (fltPy f) := by
  cases f with
  | none =>
    have e : v = .non := h
    rw [e]; exact .non
  | some bj =>
    obtain ⟨p, rfl, h⟩ := h
    exact .tup (SqT.of h) (.cons (.str _) (.cons (.int _) .nil))
theorem FltV.kp {H H' : Hp} {v : V} {f : Option (Bool × Nat)} (h : FltV H v f) (k : Kp [] H H') : FltV H' v f := by
  cases f with
  | none => exact h
  | some bj =>
    obtain ⟨p, e, h⟩ := h
    exact ⟨p, e, k.at0 h⟩
/-- a row's fault, the row as it was -/
def sp_fault_of (K : PySem.W.Frag) : Sp := fun vs H Q _ => ∃ (a : Addr) (t : List Pl), vs = [.ref a] ∧ TxtAt K H a t ∧ t.length ≤ 1000 ∧ ∀ (v : V) (H' : Hp), FltV H' v (flt t 0 []) → Kp [] H H' → Q v H'
def sp_is_balanced (K : PySem.W.Frag) : Sp := fun vs H Q _ => ∃ (a : Addr) (t : List Pl), vs = [.ref a] ∧ TxtAt K H a t ∧ t.length ≤ 1000 ∧ ∀ (H' : Hp), Kp [] H H' → Q (.bl (flt t 0 []).isNone) H'
/-! ### .. by heights -/
def dl : Pl → Int
  | .let_ _ => 0 | .cal _ => 1 | .ret _ => -1
def stk : List Pl → Nat → List Nat → Option (List Nat)
  | [], _, st => some st
  | .let_ _ :: r, i, st => stk r (i + 1) st
  | .cal _ :: r, i, st => stk r (i + 1) (i :: st)
  | .ret _ :: _, _, [] => none
  | .ret _ :: r, i, _ :: st => stk r (i + 1) st
def clI : List Pl → Int → Bool
  | [], _ => false
  | p :: r, h => decide (h + dl p = 0) || clI r (h + dl p)
theorem stk_app : ∀ (s t : List Pl) (i : Nat) (st : List Nat), stk (s ++ t) i st = (stk s i st).bind (stk t (i + s.length))
  | [], _, _, _ => rfl
  | .let_ _ :: s, t, i, st => by
    show stk (s ++ t) (i + 1) st = _
    rw [stk_app s t (i + 1) st, List.length_cons, show i + 1 + s.length = i + (s.length + 1) by omega]; rfl
  | .cal _ :: s, t, i, st => by
    show stk (s ++ t) (i + 1) (i :: st) = _
    rw [stk_app s t (i + 1) (i :: st), List.length_cons, show i + 1 + s.length = i + (s.length + 1) by omega]; rfl
  | .ret _ :: _, _, _, [] => rfl
  | .ret _ :: s, t, i, _ :: st => by
    show stk (s ++ t) (i + 1) st = _
    rw [stk_app s t (i + 1) st, List.length_cons, show i + 1 + s.length = i + (s.length + 1) by omega]; rfl
/-- what is on the stack was there or comes behind i, and is a call -/
theorem stk_mem : ∀ (r : List Pl) (i : Nat) (st st' : List Nat), stk r i st = some st' → ∀ j ∈ st', j ∈ st ∨ (i ≤ j ∧ j < i + r.length ∧ ∃ a, r[j - i]? = some (.cal a))
  | [], i, st, st', h, j, hj => by
    cases h
    exact .inl hj
  | .let_ _ :: r, i, st, st', h, j, hj => by
    rcases stk_mem r (i + 1) st st' h j hj with z | ⟨z1, z2, a, z3⟩
    · exact .inl z
    · refine .inr ⟨by omega, by simp; omega, a, ?_⟩
      rw [show j - i = (j - (i + 1)) + 1 by omega]; simpa using z3
  | .cal c :: r, i, st, st', h, j, hj => by
    rcases stk_mem r (i + 1) (i :: st) st' h j hj with z | ⟨z1, z2, a, z3⟩
    · rcases List.mem_cons.mp z with z | z
      · subst z
        exact .inr ⟨Nat.le_refl _, by simp, c, by simp⟩
      · exact .inl z
    · refine .inr ⟨by omega, by simp; omega, a, ?_⟩
      rw [show j - i = (j - (i + 1)) + 1 by omega]; simpa using z3
  | .ret _ :: r, i, [], st', h, j, hj => by cases h
  | .ret _ :: r, i, x :: st, st', h, j, hj => by
    rcases stk_mem r (i + 1) st st' h j hj with z | ⟨z1, z2, a, z3⟩
    · exact .inl (List.mem_cons_of_mem _ z)
    · refine .inr ⟨by omega, by simp; omega, a, ?_⟩
      rw [show j - i = (j - (i + 1)) + 1 by omega]; simpa using z3
theorem stk_open : ∀ (r : List Pl) (i : Nat) (X S : List Nat) (a : Nat) (st : List Nat), stk r i (X ++ a :: S) = some st → clI r (X.length + 1 : Nat) = false → ∃ Y, st = Y ++ a :: S
  | [], i, X, S, a, st, h, _ => by
    cases h
    exact ⟨X, rfl⟩
  | .let_ _ :: r, i, X, S, a, st, h, hc => by
    have hc' : clI r (X.length + 1 : Nat) = false := by
      simp only [clI, dl, Bool.or_eq_false_iff] at hc
      have := hc.2
      rwa [Int.add_zero] at this
    exact stk_open r (i + 1) X S a st h hc'
  | .cal _ :: r, i, X, S, a, st, h, hc => by
    refine stk_open r (i + 1) (i :: X) S a st h ?_
    simp only [clI, dl, Bool.or_eq_false_iff] at hc
    have := hc.2
    rwa [show (((X.length + 1 : Nat) : Int) + 1) = (((i :: X).length + 1 : Nat) : Int) by simp] at this
  | .ret _ :: r, i, [], S, a, st, h, hc => by simp [clI, dl] at hc
  | .ret _ :: r, i, x :: X, S, a, st, h, hc => by
    refine stk_open r (i + 1) X S a st h ?_
    simp only [clI, dl, Bool.or_eq_false_iff] at hc
    have := hc.2
    rwa [show ((((x :: X).length + 1 : Nat) : Int) + -1) = ((X.length + 1 : Nat) : Int) by simp; omega] at this
theorem stk_closed : ∀ (r : List Pl) (i : Nat) (X S : List Nat) (a : Nat) (st : List Nat), stk r i (X ++ a :: S) = some st → clI r (X.length + 1 : Nat) = true → a < i → a ∉ S → a ∉ st
  | [], i, X, S, a, st, h, hc, _, _ => by simp [clI] at hc
  | .let_ _ :: r, i, X, S, a, st, h, hc, hi, hS => by
    refine stk_closed r (i + 1) X S a st h ?_ (by omega) hS
    simp only [clI, dl, Bool.or_eq_true, decide_eq_true_eq, Int.add_zero] at hc
    rcases hc with z | z
    · exfalso; clear h hS hi; omega
    · exact z
  | .cal _ :: r, i, X, S, a, st, h, hc, hi, hS => by
    refine stk_closed r (i + 1) (i :: X) S a st h ?_ (by omega) hS
    simp only [clI, dl, Bool.or_eq_true, decide_eq_true_eq] at hc
    rcases hc with z | z
    · have z' := of_decide_eq_true z
      exfalso; clear h hS hi z; omega
    · rwa [show (((X.length + 1 : Nat) : Int) + 1) = (((i :: X).length + 1 : Nat) : Int) by simp] at z
  | .ret _ :: r, i, [], S, a, st, h, hc, hi, hS => by
    intro hm
    rcases stk_mem r (i + 1) S st h a hm with z | ⟨z1, _⟩
    · exact hS z
    · omega
  | .ret _ :: r, i, x :: X, S, a, st, h, hc, hi, hS => by
    refine stk_closed r (i + 1) X S a st h ?_ (by omega) hS
    simp only [clI, dl, Bool.or_eq_true, decide_eq_true_eq] at hc
    rcases hc with z | z
    · have z' := of_decide_eq_true z
      exfalso; clear h hS hi z; simp only [List.length_cons] at z'; omega
    · rwa [show ((((x :: X).length + 1 : Nat) : Int) + -1) = ((X.length + 1 : Nat) : Int) by simp; omega] at z
theorem stk_split {t : List Pl} {st : List Nat} {a : Nat} {c : Int} (h : stk t 0 [] = some st) (ha : t[a]? = some (.cal c)) : ∃ S, stk (t.drop (a + 1)) (a + 1) (a :: S) = some st ∧ ∀ j ∈ S, j < a := by
  have hlt : a < t.length := (List.getElem?_eq_some_iff.mp ha).1
  have e1 : t.drop a = .cal c :: t.drop (a + 1) := by
    rw [List.drop_eq_getElem_cons hlt]
    rw [List.getElem?_eq_getElem hlt] at ha
    rw [Option.some.inj ha]
  have e2 := stk_app (t.take a) (t.drop a) 0 []
  rw [List.take_append_drop, h, e1] at e2
  cases e3 : stk (t.take a) 0 [] with
  | none => rw [e3] at e2; cases e2
  | some S =>
    rw [e3] at e2
    refine ⟨S, ?_, fun j hj => ?_⟩
    · have e4 : 0 + (t.take a).length = a := by rw [List.length_take]; omega
      rw [e4] at e2
      exact e2.symm
    · rcases stk_mem _ _ _ _ e3 j hj with z | ⟨_, z, _⟩
      · cases z
      · rw [List.length_take] at z; omega
theorem bottom_of {t : List Pl} {st : List Nat} {a : Nat} {c : Int} (h : stk t 0 [] = some st) (ha : t[a]? = some (.cal c)) (hc : clI (t.drop (a + 1)) 1 = false) (hm : ∀ j ∈ st, a ≤ j) : st.getLast? = some a := by
  obtain ⟨S, e, hS⟩ := stk_split h ha
  obtain ⟨Y, rfl⟩ := stk_open _ _ [] S a st e hc
  have hn : S = [] := by
    cases S with
    | nil => rfl
    | cons j S =>
      have h1 := hm j (by simp)
      have h2 := hS j (by simp)
      omega
  subst hn
  simp
theorem gone_of {t : List Pl} {st : List Nat} {a : Nat} {c : Int} (h : stk t 0 [] = some st) (ha : t[a]? = some (.cal c)) (hc : clI (t.drop (a + 1)) 1 = true) : a ∉ st := by
  obtain ⟨S, e, hS⟩ := stk_split h ha
  exact stk_closed _ _ [] S a st e hc (by omega) fun z => absurd (hS a z) (by omega)
theorem notcall_of {t : List Pl} {st : List Nat} {a : Nat} (h : stk t 0 [] = some st) (ha : ∀ c, t[a]? ≠ some (.cal c)) : a ∉ st := fun hm => by
  rcases stk_mem _ _ _ _ h a hm with z | ⟨_, _, c, z⟩
  · cases z
  · exact ha c (by simpa using z)
/-- the fault, worked by heights -/
def sp__law_due (K : PySem.W.Frag) : Sp := sp_fault_of K
theorem flt_stk : ∀ (r : List Pl) (i : Nat) (st st' : List Nat), stk r i st = some st' → flt r i st = match st'.getLast? with
    | none => none
    | some j => some (false, j)
  | [], i, st, st', h => by cases h; rfl
  | .let_ _ :: r, i, st, st', h => flt_stk r (i + 1) st st' h
  | .cal _ :: r, i, st, st', h => flt_stk r (i + 1) (i :: st) st' h
  | .ret _ :: _, _, [], st', h => by cases h
  | .ret _ :: r, i, _ :: st, st', h => flt_stk r (i + 1) st st' h
theorem drop_at {t : List Pl} {i : Nat} {p : Pl} (h : t[i]? = some p) : t.drop i = p :: t.drop (i + 1) := by
  have hlt : i < t.length := (List.getElem?_eq_some_iff.mp h).1
  rw [List.drop_eq_getElem_cons hlt]
  rw [List.getElem?_eq_getElem hlt] at h
  rw [Option.some.inj h]
theorem dl_of (p : Pl) (h : Int) : h + (if decide (V.str p.kind = V.str "call") = true then (1 : Int) else 0) - (if decide (V.str p.kind = V.str "return") = true then (1 : Int) else 0) = h + dl p := by
  cases p with
  | let_ a => rw [show decide (V.str (Pl.let_ a).kind = V.str "call") = false from dLC, show decide (V.str (Pl.let_ a).kind = V.str "return") = false from dLR]; simp [dl]
  | cal a => rw [show decide (V.str (Pl.cal a).kind = V.str "call") = true from dstrY, show decide (V.str (Pl.cal a).kind = V.str "return") = false from dCR]; simp [dl]
  | ret a => rw [show decide (V.str (Pl.ret a).kind = V.str "call") = false from dRC, show decide (V.str (Pl.ret a).kind = V.str "return") = true from dstrY]; simp [dl]; omega
theorem vs0 (p : Pl) : atI p.vs 0 = some (.str p.kind) := atI_nat (j := 0) rfl
theorem vs1 (p : Pl) : atI p.vs 1 = some (.int p.lab) := atI_nat (j := 1) rfl
theorem at0n {vs : List V} {i : Nat} {v : V} (h : vs[i]? = some v) : atI vs (0 + (i : Int)) = some v := by
  rw [Int.zero_add]; exact atI_nat h
theorem ht_stk : ∀ (t : List Pl) (i : Nat) (st : List Nat), ht t st.length = (stk t i st).map List.length
  | [], _, _ => rfl
  | .let_ _ :: r, i, st => ht_stk r (i + 1) st
  | .cal _ :: r, i, st => ht_stk r (i + 1) (i :: st)
  | .ret _ :: _, _, [] => rfl
  | .ret _ :: r, i, _ :: st => ht_stk r (i + 1) st
theorem Bal.flt {t : List Pl} (h : Bal t) : flt t 0 [] = none := by
  have e := ht_stk t 0 []
  rw [show ht t ([] : List Nat).length = some 0 from h] at e
  cases e2 : stk t 0 [] with
  | none => rw [e2] at e; cases e
  | some st =>
    rw [e2] at e
    have e3 : st.length = 0 := (Option.some.inj e).symm
    have e4 : st = [] := List.eq_nil_of_length_eq_zero e3
    rw [flt_stk _ _ _ _ e2, e4]
    rfl
theorem fltPy_shaped (f : Option (Bool × Nat)) : SeqAt.shaped (fltPy f) = true := by
  cases f with
  | none => decide +kernel
  | some bj =>
    obtain ⟨b, j⟩ := bj
    unfold SeqAt.shaped fltPy
    have h0 : PyData.strOk (fk b) = true := by cases b <;> (unfold fk; decide +kernel)
    have h1 : (PyData.tuple [.str (fk b), .int (j : Int)]).canLay0 = true := by simp [PyData.canLay0, PyData.canLayAll0, h0]
    have h2 : (PyData.tuple [.str (fk b), .int (j : Int)]).depth ≤ 64 := by simp [PyData.depth, PyData.depthAll]
    rw [h1, decide_eq_true h2]
    rfl
theorem eqv_self {d : PyData} (h : SeqAt.shaped d = true) : PyData.eqv d d = true := SeqAt.eqv_refl d (SeqAt.canLay_of_shaped h)
theorem FltV.isN {H : Hp} {v : V} {f : Option (Bool × Nat)} (h : FltV H v f) : decide (v = V.non) = f.isNone := by
  cases f with
  | none =>
    have e : v = .non := h
    rw [e]; rfl
  | some bj =>
    obtain ⟨p, rfl, _⟩ := h
    rfl
/-! ### arches and depths -/
def cls : List Pl → Int → Nat → Option Nat
  | [], _, _ => none
  | p :: r, h, k => if h + dl p = 0 then some k else cls r (h + dl p) (k + 1)
def eI : Option Nat → Int
  | some k => (k : Int)
  | none => -1
/-- the calls of s, each with its end, r behind -/
def dueP : List Pl → List Pl → Nat → List (Int × Int)
  | [], _, _ => []
  | .cal a :: s, r, i => ((i : Int), eI (cls (.cal a :: (s ++ r)) 0 i)) :: dueP s r (i + 1)
  | .let_ _ :: s, r, i => dueP s r (i + 1)
  | .ret _ :: s, r, i => dueP s r (i + 1)
def arc : List Pl → Nat → List Nat → List (Int × Int)
  | [], _, _ => []
  | .let_ _ :: r, i, st => arc r (i + 1) st
  | .cal _ :: r, i, st => arc r (i + 1) (i :: st)
  | .ret _ :: r, i, [] => arc r (i + 1) []
  | .ret _ :: r, i, j :: st => ((j : Int), (i : Int)) :: arc r (i + 1) st
def zp (r : List Pl) (i : Nat) : Int → List Nat → List (Int × Int)
  | _, [] => []
  | d, j :: st => ((j : Int), eI (cls r d i)) :: zp r i (d + 1) st
theorem cls_let {a : Int} {r : List Pl} {d : Int} {i : Nat} (h : d ≠ 0) : cls (.let_ a :: r) d i = cls r d (i + 1) := by
  have e : d + dl (.let_ a) = d := Int.add_zero d
  rw [cls, e, if_neg h]
theorem cls_cal {a : Int} {r : List Pl} {d : Int} {i : Nat} (h : d + 1 ≠ 0) : cls (.cal a :: r) d i = cls r (d + 1) (i + 1) := by
  have e : d + dl (.cal a) = d + 1 := rfl
  rw [cls, e, if_neg h]
theorem cls_ret {a : Int} {r : List Pl} {d : Int} {i : Nat} (h : d - 1 ≠ 0) : cls (.ret a :: r) d i = cls r (d - 1) (i + 1) := by
  have e : d + dl (.ret a) = d - 1 := rfl
  rw [cls, e, if_neg h]
theorem cls_ret1 {a : Int} {r : List Pl} {i : Nat} : cls (.ret a :: r) 1 i = some i := rfl
theorem zp_let {a : Int} {r : List Pl} {i : Nat} : ∀ {d : Int} {st : List Nat}, 1 ≤ d → zp (.let_ a :: r) i d st = zp r (i + 1) d st
  | _, [], _ => rfl
  | d, j :: st, h => by rw [zp, zp, cls_let (by omega), zp_let (by omega)]
theorem zp_cal {a : Int} {r : List Pl} {i : Nat} : ∀ {d : Int} {st : List Nat}, 0 ≤ d → zp (.cal a :: r) i d st = zp r (i + 1) (d + 1) st
  | _, [], _ => rfl
  | d, j :: st, h => by rw [zp, zp, cls_cal (by omega), zp_cal (by omega)]
theorem zp_ret {a : Int} {r : List Pl} {i : Nat} : ∀ {d : Int} {st : List Nat}, 1 ≤ d → zp (.ret a :: r) i (d + 1) st = zp r (i + 1) d st
  | _, [], _ => rfl
  | d, j :: st, h => by rw [zp, zp, cls_ret (by omega), zp_ret (by omega), Int.add_sub_cancel]
theorem gp : ∀ (s r : List Pl) (i : Nat) (st0 st : List Nat), stk s i st0 = some st → (zp (s ++ r) i 1 st0 ++ dueP s r i).Perm (arc s i st0 ++ zp r (i + s.length) 1 st)
  | [], r, i, st0, st, h => by
    cases h
    simp [dueP, arc]
  | .let_ a :: s, r, i, st0, st, h => by
    have ih := gp s r (i + 1) st0 st h
    rw [List.cons_append, zp_let (by omega), List.length_cons, show i + (s.length + 1) = i + 1 + s.length by omega]
    exact ih
  | .cal a :: s, r, i, st0, st, h => by
    have ih := gp s r (i + 1) (i :: st0) st h
    rw [List.cons_append, zp_cal (by omega), List.length_cons, show i + (s.length + 1) = i + 1 + s.length by omega]
    have e : dueP (.cal a :: s) r i = ((i : Int), eI (cls (s ++ r) 1 (i + 1))) :: dueP s r (i + 1) := by
      rw [dueP, cls_cal (by omega)]; rfl
    rw [e]
    refine List.Perm.trans ?_ ih
    rw [zp]
    exact List.perm_middle
  | .ret a :: s, r, i, [], st, h => by cases h
  | .ret a :: s, r, i, j :: st0, st, h => by
    have ih := gp s r (i + 1) st0 st h
    rw [List.cons_append, zp, zp_ret (by omega), List.length_cons, show i + (s.length + 1) = i + 1 + s.length by omega, cls_ret1]
    exact List.Perm.cons _ ih
theorem dueP_app : ∀ (s u r : List Pl) (i : Nat), dueP (s ++ u) r i = dueP s (u ++ r) i ++ dueP u r (i + s.length)
  | [], u, r, i => rfl
  | .let_ a :: s, u, r, i => by
    rw [List.cons_append, dueP, dueP, dueP_app s u r (i + 1), List.length_cons, show i + 1 + s.length = i + (s.length + 1) by omega]
  | .ret a :: s, u, r, i => by
    rw [List.cons_append, dueP, dueP, dueP_app s u r (i + 1), List.length_cons, show i + 1 + s.length = i + (s.length + 1) by omega]
  | .cal a :: s, u, r, i => by
    rw [List.cons_append, dueP, dueP, dueP_app s u r (i + 1), List.length_cons, show i + 1 + s.length = i + (s.length + 1) by omega, List.append_assoc]; rfl
theorem dueP_fst : ∀ (s r : List Pl) (i : Nat), ∀ x ∈ dueP s r i, (i : Int) ≤ x.1 ∧ x.1 < ((i + s.length : Nat) : Int)
  | [], _, _, x, h => by cases h
  | .let_ a :: s, r, i, x, h => by
    have := dueP_fst s r (i + 1) x h
    rw [List.length_cons]; omega
  | .ret a :: s, r, i, x, h => by
    have := dueP_fst s r (i + 1) x h
    rw [List.length_cons]; omega
  | .cal a :: s, r, i, x, h => by
    rw [dueP] at h
    rcases List.mem_cons.mp h with z | z
    · subst z
      rw [List.length_cons]
      show (i : Int) ≤ (i : Int) ∧ (i : Int) < _
      omega
    · have := dueP_fst s r (i + 1) x z
      rw [List.length_cons]; omega
theorem dueP_sorted : ∀ (s r : List Pl) (i : Nat), (dueP s r i).Pairwise fun x y => x.1 < y.1
  | [], _, _ => List.Pairwise.nil
  | .let_ a :: s, r, i => dueP_sorted s r (i + 1)
  | .ret a :: s, r, i => dueP_sorted s r (i + 1)
  | .cal a :: s, r, i => by
    rw [dueP]
    refine List.Pairwise.cons (fun x h => ?_) (dueP_sorted s r (i + 1))
    have := dueP_fst s r (i + 1) x h
    show (i : Int) < x.1
    omega
theorem bal_stk {t : List Pl} (h : Bal t) : stk t 0 [] = some [] := by
  have e := ht_stk t 0 []
  rw [show ht t ([] : List Nat).length = some 0 from h] at e
  cases e2 : stk t 0 [] with
  | none => rw [e2] at e; cases e
  | some st =>
    rw [e2] at e
    have e3 : st.length = 0 := (Option.some.inj e).symm
    rw [List.eq_nil_of_length_eq_zero e3]
theorem due_arc {t : List Pl} (h : Bal t) : (dueP t [] 0).Perm (arc t 0 []) := by
  have g := gp t [] 0 [] [] (bal_stk h)
  simpa [zp] using g
/-- a list of pairs sorted by pairs is the one by calls -/
theorem srt_due {t : List Pl} {l : List (Int × Int)} (h : Bal t) (hp : l.Perm (arc t 0 [])) (hs : l.Pairwise fun x y => SrtO.lexB y x = false) : l = dueP t [] 0 := by
  refine List.Perm.eq_of_pairwise (le := fun x y => SrtO.lexB y x = false) (fun a b _ _ h1 h2 => ?_) hs ?_ (hp.trans (due_arc h).symm)
  · have q1 : ¬ (b.1 < a.1 ∨ (b.1 = a.1 ∧ b.2 < a.2)) := fun z => by rw [SrtO.lexB_iff.mpr z] at h1; cases h1
    have q2 : ¬ (a.1 < b.1 ∨ (a.1 = b.1 ∧ a.2 < b.2)) := fun z => by rw [SrtO.lexB_iff.mpr z] at h2; cases h2
    have e1 : a.1 = b.1 := by omega
    have e2 : a.2 = b.2 := by omega
    exact Prod.ext e1 e2
  · refine (dueP_sorted t [] 0).imp fun {a b} h => ?_
    cases e : SrtO.lexB b a with
    | false => rfl
    | true =>
      have := SrtO.lexB_iff.mp e
      omega
/-! how many arches are around a place -/
theorem cls_some : ∀ (r : List Pl) (n d i : Nat), ht r n = some 0 → 1 ≤ d → d ≤ n → ∃ k, cls r (d : Int) i = some k ∧ i ≤ k
  | [], n, d, i, h, h1, h2 => by
    have e : n = 0 := Option.some.inj h
    omega
  | .let_ a :: r, n, d, i, h, h1, h2 => by
    obtain ⟨k, e, hk⟩ := cls_some r n d (i + 1) h h1 h2
    exact ⟨k, by rw [cls_let (by omega), e], by omega⟩
  | .cal a :: r, n, d, i, h, h1, h2 => by
    obtain ⟨k, e, hk⟩ := cls_some r (n + 1) (d + 1) (i + 1) h (by omega) (by omega)
    exact ⟨k, by rw [cls_cal (by omega)]; exact e, by omega⟩
  | .ret a :: r, 0, d, i, h, h1, h2 => by cases h
  | .ret a :: r, n + 1, d, i, h, h1, h2 => by
    by_cases hd : d = 1
    · subst hd
      exact ⟨i, rfl, Nat.le_refl _⟩
    · obtain ⟨k, e, hk⟩ := cls_some r n (d - 1) (i + 1) h (by omega) (by omega)
      refine ⟨k, ?_, by omega⟩
      rw [cls_ret (by omega), show (d : Int) - 1 = ((d - 1 : Nat) : Int) by omega, e]
theorem zp_ge {r : List Pl} {n i : Nat} (h : ht r n = some 0) : ∀ (d : Nat) (st : List Nat), 1 ≤ d → d + st.length ≤ n + 1 → ∀ x ∈ zp r i (d : Int) st, (i : Int) ≤ x.2
  | _, [], _, _, x, hx => by cases hx
  | d, j :: st, h1, h2, x, hx => by
    rw [List.length_cons] at h2
    rw [zp] at hx
    rcases List.mem_cons.mp hx with z | z
    · subst z
      obtain ⟨k, e, hk⟩ := cls_some r n d i h h1 (by omega)
      show (i : Int) ≤ eI (cls r (d : Int) i)
      rw [e]
      show (i : Int) ≤ (k : Int)
      omega
    · exact zp_ge h (d + 1) st (by omega) (by omega) x (by simpa using z)
theorem zp_len {r : List Pl} {i : Nat} : ∀ (d : Int) (st : List Nat), (zp r i d st).length = st.length
  | _, [] => rfl
  | d, j :: st => by rw [zp, List.length_cons, List.length_cons, zp_len (d + 1) st]
theorem arc_lt : ∀ (s : List Pl) (i : Nat) (st : List Nat), ∀ x ∈ arc s i st, x.2 < ((i + s.length : Nat) : Int)
  | [], _, _, x, h => by cases h
  | .let_ a :: s, i, st, x, h => by
    have := arc_lt s (i + 1) st x h
    rw [List.length_cons]; omega
  | .cal a :: s, i, st, x, h => by
    have := arc_lt s (i + 1) (i :: st) x h
    rw [List.length_cons]; omega
  | .ret a :: s, i, [], x, h => by
    have := arc_lt s (i + 1) [] x h
    rw [List.length_cons]; omega
  | .ret a :: s, i, j :: st, x, h => by
    rw [arc] at h
    rw [List.length_cons]
    rcases List.mem_cons.mp h with z | z
    · subst z
      show (i : Int) < _
      omega
    · have := arc_lt s (i + 1) st x z
      omega
def dpt (p : Pl) (n : Nat) : Int := match p with
  | .ret _ => (n : Int) - 1
  | _ => (n : Int)
def inP (at_ : Nat) (x : Int × Int) : Bool := decide (x.1 < (at_ : Int)) && decide ((at_ : Int) < x.2)
theorem around {t : List Pl} {i n : Nat} {p : Pl} (hb : Bal t) (hp : t[i]? = some p) (hn : ht (t.take i) 0 = some n) : (((dueP t [] 0).countP (inP i) : Nat) : Int) = dpt p n := by
  have hlt : i < t.length := (List.getElem?_eq_some_iff.mp hp).1
  have ed := drop_at hp
  have hb2 : ht (t.drop i) n = some 0 := by
    have e := ht_app (t.take i) (t.drop i) 0
    rw [List.take_append_drop, hn] at e
    rw [show ht t 0 = some 0 from hb] at e
    exact e.symm
  have es := ht_stk (t.take i) 0 []
  rw [show ht (t.take i) ([] : List Nat).length = some n from hn] at es
  cases e2 : stk (t.take i) 0 [] with
  | none => rw [e2] at es; cases es
  | some st =>
    rw [e2] at es
    have hl : st.length = n := (Option.some.inj es).symm
    have el : 0 + (t.take i).length = i := by rw [List.length_take]; omega
    have g := gp (t.take i) (t.drop i) 0 [] st e2
    rw [el] at g
    have g' : (dueP (t.take i) (t.drop i) 0).Perm (arc (t.take i) 0 [] ++ zp (t.drop i) i 1 st) := by simpa [zp] using g
    have e3 : dueP t [] 0 = dueP (t.take i) (t.drop i) 0 ++ dueP (t.drop i) [] i := by
      have e := dueP_app (t.take i) (t.drop i) [] 0
      rw [List.take_append_drop, List.append_nil, el] at e
      exact e
    have z1 : (dueP (t.drop i) [] i).countP (inP i) = 0 := by
      rw [List.countP_eq_zero]
      intro x hx h
      have h1 := dueP_fst _ _ _ x hx
      unfold inP at h
      simp at h
      omega
    have z2 : (arc (t.take i) 0 []).countP (inP i) = 0 := by
      rw [List.countP_eq_zero]
      intro x hx h
      have h1 := arc_lt _ _ _ x hx
      rw [el] at h1
      unfold inP at h
      simp at h
      omega
    have z3 : ∀ x ∈ zp (t.drop i) i 1 st, x.1 < (i : Int) := by
      have gen : ∀ (d : Int) (l : List Nat), (∀ j ∈ l, j < i) → ∀ x ∈ zp (t.drop i) i d l, x.1 < (i : Int) := by
        intro d l
        induction l generalizing d with
        | nil => intro _ x hx; cases hx
        | cons j l ih =>
          intro hj x hx
          rw [zp] at hx
          rcases List.mem_cons.mp hx with z | z
          · subst z
            have := hj j (by simp)
            show (j : Int) < (i : Int)
            omega
          · exact ih (d + 1) (fun y hy => hj y (by simp [hy])) x z
      refine gen 1 st fun j hj => ?_
      rcases stk_mem _ _ _ _ e2 j hj with z | ⟨_, z, _⟩
      · cases z
      · omega
    have all : ∀ (l : List (Int × Int)), (∀ x ∈ l, x.1 < (i : Int)) → (∀ x ∈ l, ((i + 1 : Nat) : Int) ≤ x.2) → l.countP (inP i) = l.length := by
      intro l h1 h2
      rw [List.countP_eq_length]
      intro x hx
      have := h1 x hx
      have := h2 x hx
      unfold inP
      simp
      omega
    rw [e3, List.countP_append, z1, g'.countP_eq, List.countP_append, z2]
    rw [ed] at z3 ⊢
    rw [ed] at hb2
    cases p with
    | let_ a =>
      rw [zp_let (by omega)] at z3 ⊢
      rw [all _ z3 (zp_ge (show ht (t.drop (i + 1)) n = some 0 from hb2) 1 st (by omega) (by omega)), zp_len, hl]
      show ((0 + n + 0 : Nat) : Int) = (n : Int)
      omega
    | cal a =>
      rw [zp_cal (by omega)] at z3 ⊢
      rw [all _ z3 (zp_ge (show ht (t.drop (i + 1)) (n + 1) = some 0 from hb2) 2 st (by omega) (by omega)), zp_len, hl]
      show ((0 + n + 0 : Nat) : Int) = (n : Int)
      omega
    | ret a =>
      cases n with
      | zero => cases hb2
      | succ n =>
        cases st with
        | nil => cases hl
        | cons j st =>
          rw [List.length_cons] at hl
          rw [zp, show (1 : Int) + 1 = 1 + 1 from rfl, zp_ret (by omega), cls_ret1] at z3 ⊢
          have h0 : inP i ((j : Int), eI (some i)) = false := by
            unfold inP eI
            simp
          rw [List.countP_cons_of_neg (by rw [h0]; decide)]
          rw [all (zp (t.drop (i + 1)) (i + 1) 1 st) (fun x hx => z3 x (by simp [hx])) (zp_ge (show ht (t.drop (i + 1)) n = some 0 from hb2) 1 st (by omega) (by omega)), zp_len]
          show ((0 + st.length + 0 : Nat) : Int) = ((n + 1 : Nat) : Int) - 1
          omega
/-! on the heap -/
def PrV (H : Hp) (v : V) (x : Int × Int) : Prop := ∃ a, v = .ref a ∧ H a = some (.tup [.int x.1, .int x.2])
theorem PrV.tk {H H' : Hp} {v : V} {x : Int × Int} (h : PrV H v x) (k : TK H H') : PrV H' v x := by
  obtain ⟨a, e, h⟩ := h
  exact ⟨a, e, k _ _ h⟩
theorem Pr.tk {H H' : Hp} {vs : List V} {l : List (Int × Int)} (h : Paired (PrV H) vs l) (k : TK H H') : Paired (PrV H') vs l := Paired.mapP h fun _ _ q => q.tk k
def pyP (x : Int × Int) : PyData := .tuple [.int x.1, .int x.2]
def pyPs (l : List (Int × Int)) : PyData := .list (l.map pyP)
theorem dp_prs {K : PySem.W.Frag} {H : Hp} : ∀ {vs : List V} {l : List (Int × Int)}, Paired (PrV H) vs l → DpAll K H vs (l.map pyP)
  | _, _, .nil => .nil
  | _, _, .cons ⟨_, e, h⟩ t => .cons (by subst e; exact .tup (SqT.of h) (.cons (.int _) (.cons (.int _) .nil))) (dp_prs t)
theorem canLay_prs : ∀ l : List (Int × Int), PyData.canLayAll0 (l.map pyP) = true
  | [] => by simp [PyData.canLayAll0]
  | x :: l => by simp [PyData.canLayAll0, pyP, PyData.canLay0, canLay_prs l]
theorem depth_prs : ∀ l : List (Int × Int), PyData.depthAll (l.map pyP) ≤ 2
  | [] => by simp [PyData.depthAll]
  | x :: l => by
    have h2 := depth_prs l
    simp only [List.map_cons, PyData.depthAll, pyP, PyData.depth]
    omega
theorem shaped_prs (l : List (Int × Int)) : SeqAt.shaped (pyPs l) = true := by
  have h := depth_prs l
  unfold SeqAt.shaped
  have h1 : (pyPs l).canLay0 = true := by
    unfold pyPs
    rw [PyData.canLay0]
    exact canLay_prs l
  have h2 : (pyPs l).depth ≤ 64 := by
    unfold pyPs
    rw [PyData.depth]
    omega
  rw [h1, decide_eq_true h2]
  rfl
/-- what a value is as a pair, by a heap -/
def prK (H : Hp) (v : V) : Int × Int := match v with
  | .ref a => match H a with
    | some (.tup [.int i, .int j]) => (i, j)
    | _ => (0, 0)
  | _ => (0, 0)
theorem prK_of {H : Hp} {v : V} {x : Int × Int} (h : PrV H v x) : prK H v = x := by
  obtain ⟨a, rfl, h⟩ := h
  unfold prK
  simp only [h]
theorem prK_map {H : Hp} : ∀ {vs : List V} {l : List (Int × Int)}, Paired (PrV H) vs l → vs.map (prK H) = l
  | _, _, .nil => rfl
  | _, _, .cons h t => by rw [List.map_cons, prK_of h, prK_map t]
theorem prs_of {H : Hp} : ∀ {vs : List V}, (∀ v ∈ vs, PrV H v (prK H v)) → Paired (PrV H) vs (vs.map (prK H))
  | [], _ => .nil
  | v :: vs, h => .cons (h v (by simp)) (prs_of fun w hw => h w (by simp [hw]))
theorem prs_mem {H : Hp} : ∀ {vs : List V} {l : List (Int × Int)}, Paired (PrV H) vs l → ∀ v ∈ vs, PrV H v (prK H v)
  | _, _, .nil, v, h => by cases h
  | _, _, .cons r t, v, h => by
    rcases List.mem_cons.mp h with e | h
    · subst e; rw [prK_of r]; exact r
    · exact prs_mem t v h
/-- the arches of a balanced row -/
def sp_arches (K : PySem.W.Frag) : Sp := fun vs H Q _ => ∃ (a : Addr) (t : List Pl), vs = [.ref a] ∧ TxtAt K H a t ∧ t.length ≤ 1000 ∧ Bal t ∧ ∀ (p : Addr) (H' : Hp) (ys : List V), H p = none → H' p = some (.lst ys) → Paired (PrV H') ys (dueP t [] 0) → Kp [] H H' → Q (.ref p) H'
def sp_depths (K : PySem.W.Frag) : Sp := fun vs H Q _ => ∃ (a : Addr) (t : List Pl), vs = [.ref a] ∧ TxtAt K H a t ∧ t.length ≤ 1000 ∧ ∀ (p : Addr) (H' : Hp) (ds : List Int), H' p = some (.lst (ds.map V.int)) → ds.length = t.length →
  (∀ i c n, t[i]? = some c → ht (t.take i) 0 = some n → ds[i]? = some (dpt c n)) → Kp [] H H' → Q (.ref p) H'
def sp__law_arches (K : PySem.W.Frag) : Sp := sp_arches K
theorem bal_pre {t : List Pl} (h : Bal t) (i : Nat) : ∃ st, stk (t.take i) 0 [] = some st := by
  have e := stk_app (t.take i) (t.drop i) 0 []
  rw [List.take_append_drop, bal_stk h] at e
  cases e2 : stk (t.take i) 0 [] with
  | none => rw [e2] at e; cases e
  | some st => exact ⟨st, rfl⟩
theorem take_snoc {α : Type} {t : List α} {i : Nat} {p : α} (h : t[i]? = some p) : t.take (i + 1) = t.take i ++ [p] := by
  rw [List.take_add_one, h]; rfl
theorem dueP_mem : ∀ (s r : List Pl) (i j : Nat) (c : Int), s[j]? = some (.cal c) → (((i + j : Nat) : Int), eI (cls ((s ++ r).drop j) 0 (i + j))) ∈ dueP s r i
  | [], _, _, _, _, h => by simp at h
  | p :: s, r, i, 0, c, h => by
    have e : p = .cal c := by simpa using h
    subst e
    rw [dueP]
    exact List.mem_cons_self
  | p :: s, r, i, j + 1, c, h => by
    have ih := dueP_mem s r (i + 1) j c (by simpa using h)
    rw [show i + 1 + j = i + (j + 1) by omega] at ih
    cases p with
    | let_ a => exact ih
    | ret a => exact ih
    | cal a =>
      rw [dueP]
      exact List.mem_cons_of_mem _ ih
def topS (i : Nat) : Stmt := PySem.Challenge.pw_archway_k03_arches_and_depths.main.body.getD i (.Pass ⟨0, 0, 0, 0⟩)
abbrev s_arches : Stmt := topS 1
theorem sc_arches : FnScope ["text", "opened", "found", "number", "kind", "_"] ["text"] (defScope s_arches) := ⟨rfl, rfl, rfl, by decide +kernel, rfl, by decide +kernel, by decide +kernel⟩
section
variable {P : Program} {w : World} {K : PySem.W.Frag} {mg : Str → Option Value} {base : Heap}
theorem ok_arches {f : Addr} {fd : FuncData} (F : Fun K "arches" "arches" s_arches f fd) (B : Glb mg) : FnOk P w K mg base CX0 1 f fd ["text"] (sp_arches K) := by
  refine F.ok sc_arches (fun vs H Q E h => ?_) (fun cdv A outer s H vs Q E hr h => ?_)
  · obtain ⟨a, t, rfl, _⟩ := h
    rfl
  · obtain ⟨a, t, rfl, hT, hlen, hbal, q⟩ := h
    have hu := hu_of hr
    refine ⟨_, (pss_cons (ps_set (i := 1) sc_arches.nd rfl (.inl rfl) (pe_lst pa_nil))
  (pss_cons (ps_set (i := 2) sc_arches.nd rfl (.inl rfl) (pe_lst pa_nil))
  (pss_cons (ps_for PassesOwn.never rfl (pi_enum (by rfl) B.enumerate (pa_cons (pv 0) pa_nil)) (pg_tup rfl (pgs_cons (pg_name (i := 3) sc_arches.nd rfl (.inl rfl)) (pgs_cons (pg_tup rfl (pgs_cons (pg_name (i := 4) sc_arches.nd rfl (.inl rfl)) (pgs_cons (pg_name (i := 5) sc_arches.nd rfl (.inl rfl)) pgs_nil))) pgs_nil)))
  (pss_one (ps_if (pt_cmpR op_eq (pv 4) pe_str (nomark _))
  (pss_one (ps_expr (pe_bm PySem.F.plainAttrs_list PySem.F.slot_list_append PySem.F.type_list_append mt_append (pv 1) (pa_cons (pv 3) pa_nil))))
  (pss_one (ps_if (pt_cmpR op_eq (pv 4) pe_str (nomark _))
  (pss_one (ps_expr (pe_bm PySem.F.plainAttrs_list PySem.F.slot_list_append PySem.F.type_list_append mt_append (pv 2) (pa_cons (pe_tup (pa_cons (pe_bm0 PySem.F.plainAttrs_list PySem.F.slot_list_pop PySem.F.type_list_pop mt_pop (pv 1)) (pa_cons (pv 3) pa_nil))) pa_nil))))
  pss_nil)))))
  (pss_one (ps_ret (pe_callB cr_sortedPO (by rfl) B.sorted (by decide +kernel) (pa_cons (pv 2) pa_nil))))))), ?_⟩
    obtain ⟨vs, hS, hP⟩ := hT.ex
    have hvl := hP.length
    walk_at "st"
    intro o ho
    walk_at "st"
    intro o2 ho2
    have no2 : H o2 = none := ((Kp.refl [] H).new ho).fresh ho2
    have noo : o ≠ o2 := ne_of_none upd_same ho2
    walk_at "st"
    refine for_enum (K := K) (a := a) (xs := vs) (fun i σ H2 => Wd <| ∃ (st : List Nat) (ys : List V) (l : List (Int × Int)) (y3 y4 y5 : Option V), σ = [some (.ref a), some (.ref o), some (.ref o2), y3, y4, y5] ∧ H2 o = some (.lst (natsV st.reverse)) ∧ H2 o2 = some (.lst ys) ∧ Paired (PrV H2) ys l ∧
      st.length ≤ i ∧ ys.length ≤ i ∧ arc t 0 [] = l ++ arc (t.drop i) i st ∧ stk (t.drop i) i st = some [] ∧ Kp [] H H2) ⟨⟨[], [], [], none, none, none, rfl, by walk_at "hs", upd_same, .nil, Nat.le_refl _, Nat.le_refl _, rfl, bal_stk hbal, by walk_at "kp"⟩⟩ ?_ ?_ ?_
    · rintro i σ H2 _ ⟨⟨st, ys, l, y3, y4, y5, rfl, h2, h3, hl, hn1, hn2, ha, hk, k2⟩⟩
      exact k2.seq hS
    · rintro i x T σ H2 hx ⟨⟨st, ys, l, y3, y4, y5, rfl, h2, h3, hl, hn1, hn2, ha, hk, k2⟩⟩ nT
      obtain ⟨p, hp, tp, rfl, htp⟩ := Pd.get hP hx
      have hi : i < t.length := (List.getElem?_eq_some_iff.mp hp).1
      rw [drop_at hp] at ha hk
      have htp2 := k2.at0 htp
      have h2' : (upd H2 T (.tup [.int (i : Nat), .ref tp])) o = some (.lst (natsV st.reverse)) := by walk_at "hs"
      have h3' : (upd H2 T (.tup [.int (i : Nat), .ref tp])) o2 = some (.lst ys) := by walk_at "hs"
      have hnl : (natsV st.reverse).length = st.length := by simp [natsV]
      have hl3 : st.length < sizeLine := smallLt (by omega)
      cases p with
      | let_ c =>
        walk_at "st"
        exact ⟨⟨st, ys, l, _, _, _, rfl, h2', h3', Pr.tk hl (.new nT), by omega, by omega, ha, hk, k2.new nT⟩⟩
      | cal c =>
        walk_at "st"
        refine ⟨⟨i :: st, ys, l, _, _, _, rfl, ?_, by walk_at "hs", Pr.tk hl ((TK.new nT).trans (.lst h2')), by simp; omega, by omega, ha, hk, (k2.new nT).own ho⟩⟩
        rw [upd_same]; simp [natsV]
      | ret c =>
        cases st with
        | nil => cases hk
        | cons j st =>
          have e2 : natsV (j :: st).reverse = natsV st.reverse ++ [V.int (j : Int)] := by simp [natsV]
          rw [e2] at h2'
          have e3 : (natsV st.reverse ++ [V.int (j : Int)])[(natsV st.reverse ++ [V.int (j : Int)]).length - 1]? = some (V.int (j : Int)) := by simp
          walk_at "st"
          intro u nu
          have hyl : ys.length < sizeLine := smallLt (by omega)
          have huo : u ≠ o := (ne_of_none upd_same nu).symm
          walk_at "st"
          have ed : natsV st.reverse = (natsV st.reverse ++ [V.int (j : Int)]).dropLast := by simp
          rw [arc] at ha
          refine ⟨⟨st, ys ++ [V.ref u], l ++ [((j : Int), (i : Int))], _, _, _, rfl, Eq.trans (b := some (.lst ((natsV st.reverse ++ [V.int (j : Int)]).dropLast))) (by walk_at "hs") (by rw [← ed]), upd_same, (Pr.tk hl (by walk_at "tk")).snoc ⟨u, rfl, by walk_at "hs"⟩, by simp at hn1; omega, by simp; omega, by rw [ha]; simp, hk, by walk_at "kp"⟩⟩
    · rintro σ H2 ⟨⟨st, ys, l, y3, y4, y5, rfl, h2, h3, hl, hn1, hn2, ha, hk, k2⟩⟩
      have e0 : t.drop vs.length = [] := by rw [hvl]; simp
      rw [e0] at ha hk
      have hm := prs_mem hl
      have hm' : ∀ x ∈ ys, ∃ t, x = V.ref t ∧ H2 t = some (.tup [.int (prK H2 x).1, .int (prK H2 x).2]) := fun x hx => hm x hx
      walk_at "st"
      intro zs p hs hst np
      refine q p _ zs (k2.fresh np) upd_same ?_ (k2.new np)
      have hmz : ∀ v ∈ zs, PrV H2 v (prK H2 v) := fun v hv => hm v (hst.perm.mem_iff.mp hv)
      have e1 : zs.map (prK H2) = dueP t [] 0 := by
        refine srt_due hbal ?_ ?_
        · rw [ha]
          have g := hst.perm.map (prK H2)
          rw [prK_map hl] at g
          simpa [arc] using g
        · exact List.pairwise_map.mpr hs
      rw [← e1]
      exact Pr.tk (prs_of hmz) (.new np)
end
abbrev s_depths : Stmt := topS 2
theorem sc_depths : FnScope ["text", "depth", "found", "kind", "_"] ["text"] (defScope s_depths) := ⟨rfl, rfl, rfl, by decide +kernel, rfl, by decide +kernel, by decide +kernel⟩
section
variable {P : Program} {w : World} {K : PySem.W.Frag} {mg : Str → Option Value} {base : Heap}
theorem ok_depths {f : Addr} {fd : FuncData} (F : Fun K "depths" "depths" s_depths f fd) (B : Glb mg) : FnOk P w K mg base CX0 1 f fd ["text"] (sp_depths K) := by
  refine F.ok sc_depths (fun vs H Q E h => ?_) (fun cdv A outer s H vs Q E hr h => ?_)
  · obtain ⟨a, t, rfl, _⟩ := h
    rfl
  · obtain ⟨a, t, rfl, hT, hlen, q⟩ := h
    have hu := hu_of hr
    refine ⟨_, (pss_cons (ps_set (i := 1) sc_depths.nd rfl (.inl rfl) pe_int)
  (pss_cons (ps_set (i := 2) sc_depths.nd rfl (.inl rfl) (pe_lst pa_nil))
  (pss_cons (ps_for PassesOwn.never rfl (pi_list (pv 0)) (pg_tup rfl (pgs_cons (pg_name (i := 3) sc_depths.nd rfl (.inl rfl)) (pgs_cons (pg_name (i := 4) sc_depths.nd rfl (.inl rfl)) pgs_nil)))
  (pss_cut (ps_if (pt_cmpR op_eq (pv 3) pe_str (nomark _))
  (pss_one (ps_aug (i := 1) sc_depths.nd rfl (.inl rfl) pe_int ip_sub))
  pss_nil)
  (pss_cons (ps_expr (pe_bm PySem.F.plainAttrs_list PySem.F.slot_list_append PySem.F.type_list_append mt_append (pv 2) (pa_cons (pv 1) pa_nil)))
  (pss_one (ps_if (pt_cmpR op_eq (pv 3) pe_str (nomark _))
  (pss_one (ps_aug (i := 1) sc_depths.nd rfl (.inl rfl) pe_int ip_add))
  pss_nil)))))
  (pss_one (ps_ret (pv 2)))))), ?_⟩
    obtain ⟨vs, hS, hP⟩ := hT.ex
    have hvl := hP.length
    walk_at "st"
    intro o ho
    walk_at "st"
    refine for_list (K := K) (a := a) (xs := vs) (fun i σ H2 => Wd <| ∃ (d : Int) (ds : List Int) (y3 y4 : Option V), σ = [some (.ref a), some (.int d), some (.ref o), y3, y4] ∧ H2 o = some (.lst (ds.map V.int)) ∧ ds.length = i ∧
      (∀ n, ht (t.take i) 0 = some n → d = n) ∧ (∀ j c n, j < i → t[j]? = some c → ht (t.take j) 0 = some n → ds[j]? = some (dpt c n)) ∧ Kp [] H H2) ⟨⟨0, [], none, none, rfl, upd_same, rfl, ?_, ?_, by walk_at "kp"⟩⟩ ?_ ?_ ?_
    · intro n hn
      have : 0 = n := Option.some.inj hn
      omega
    · intro j c n hj
      omega
    · rintro i σ H2 _ ⟨⟨d, ds, y3, y4, rfl, h2, hl, hd, hds, k2⟩⟩
      exact k2.seq hS
    · rintro i x σ H2 hx ⟨⟨d, ds, y3, y4, rfl, h2, hl, hd, hds, k2⟩⟩
      obtain ⟨p, hp, tp, rfl, htp⟩ := Pd.get hP hx
      have hi : i < t.length := (List.getElem?_eq_some_iff.mp hp).1
      have htp2 := k2.at0 htp
      have hml : (ds.map V.int).length = i := by rw [List.length_map, hl]
      have step : ∀ n, ht (t.take (i + 1)) 0 = some n → ∃ m, ht (t.take i) 0 = some m ∧ ht [p] m = some n := by
        intro n hn
        rw [take_snoc hp, ht_app] at hn
        cases e : ht (t.take i) 0 with
        | none => rw [e] at hn; cases hn
        | some m => rw [e] at hn; exact ⟨m, rfl, hn⟩
      have more : ∀ (e : Int), (∀ n, ht (t.take i) 0 = some n → e = dpt p n) → ∀ j c n, j < i + 1 → t[j]? = some c → ht (t.take j) 0 = some n → (ds ++ [e])[j]? = some (dpt c n) := by
        intro e he j c n hj hc hn
        by_cases hji : j < i
        · rw [List.getElem?_append_left (by omega)]
          exact hds j c n hji hc hn
        · have ej : j = i := by omega
          subst ej
          rw [hp] at hc
          cases hc
          rw [List.getElem?_append_right (by omega), hl, Nat.sub_self, he n hn]
          rfl
      cases p with
      | let_ c =>
        walk_at "st"
        refine ⟨fun σ' H' => Wd (H' = H2 ∧ σ' = [some (.ref a), some (.int d), some (.ref o), some (.str "letter"), some (.int c)]), by walk_at "st"; exact ⟨⟨rfl, rfl⟩⟩, ?_⟩
        rintro σ' H' ⟨⟨rfl, rfl⟩⟩
        walk_at "st"
        refine ⟨⟨d, ds ++ [d], _, _, rfl, upd_int, by simp [hl], fun n hn => ?_, more d fun n hn => hd n hn, by walk_at "kp"⟩⟩
        obtain ⟨m, e1, e2⟩ := step n hn
        have : m = n := Option.some.inj e2
        rw [hd m e1, this]
      | cal c =>
        walk_at "st"
        refine ⟨fun σ' H' => Wd (H' = H2 ∧ σ' = [some (.ref a), some (.int d), some (.ref o), some (.str "call"), some (.int c)]), by walk_at "st"; exact ⟨⟨rfl, rfl⟩⟩, ?_⟩
        rintro σ' H' ⟨⟨rfl, rfl⟩⟩
        walk_at "st"
        refine ⟨⟨d + 1, ds ++ [d], _, _, rfl, upd_int, by simp [hl], fun n hn => ?_, more d fun n hn => hd n hn, by walk_at "kp"⟩⟩
        obtain ⟨m, e1, e2⟩ := step n hn
        have : m + 1 = n := Option.some.inj e2
        rw [hd m e1]
        omega
      | ret c =>
        walk_at "st"
        refine ⟨fun σ' H' => Wd (H' = H2 ∧ σ' = [some (.ref a), some (.int (d - 1)), some (.ref o), some (.str "return"), some (.int c)]), by walk_at "st"; exact ⟨⟨rfl, rfl⟩⟩, ?_⟩
        rintro σ' H' ⟨⟨rfl, rfl⟩⟩
        walk_at "st"
        refine ⟨⟨d - 1, ds ++ [d - 1], _, _, rfl, upd_int, by simp [hl], fun n hn => ?_, more (d - 1) fun n hn => by rw [hd n hn]; rfl, by walk_at "kp"⟩⟩
        obtain ⟨m, e1, e2⟩ := step n hn
        cases m with
        | zero => cases e2
        | succ m =>
          have : m = n := Option.some.inj e2
          rw [hd _ e1]
          omega
    · rintro σ H2 ⟨⟨d, ds, y3, y4, rfl, h2, hl, hd, hds, k2⟩⟩
      walk_at "st"
      refine q o H2 ds h2 (by omega) (fun i c n hc hn => hds i c n ?_ hc hn) k2
      have := (List.getElem?_eq_some_iff.mp hc).1
      omega
end
abbrev s__law_draws : Stmt := topS 4
theorem sc__law_draws : FnScope ["cell", "modulus", "count", "number", "row", "k", "mixed"] ["cell", "modulus", "count"] (defScope s__law_draws) := ⟨rfl, rfl, rfl, by decide +kernel, rfl, by decide +kernel, by decide +kernel⟩
section
variable {P : Program} {w : World} {K : PySem.W.Frag} {mg : Str → Option Value} {base : Heap}
theorem ok__law_draws {f : Addr} {fd : FuncData} (F : Fun K "_law_draws" "_law_draws" s__law_draws f fd) (B : Glb mg) : FnOk P w K mg base CX0 1 f fd ["cell", "modulus", "count"] sp__law_draws := by
  refine F.ok sc__law_draws (fun vs H Q E h => ?_) (fun cdv A outer s H vs Q E hr h => ?_)
  · obtain ⟨c, m, k, rfl, _⟩ := h
    rfl
  · obtain ⟨c, m, k, rfl, hm, hm2, hk, hk2, q⟩ := h
    have hu := hu_of hr
    refine ⟨_, (pss_cons (ps_set (i := 3) sc__law_draws.nd rfl (.inl rfl) (pv 0))
  (pss_cut (ps_if (pt_cmpR op_lt (pv 3) pe_int (nomark _))
  (pss_one (ps_set (i := 3) sc__law_draws.nd rfl (.inl rfl) (pe_op op_sub pe_int (pv 3))))
  pss_nil)
  (pss_cons (ps_set (i := 4) sc__law_draws.nd rfl (.inl rfl) (pe_lst pa_nil))
  (pss_cons (ps_if (pt_cmpR op_ge (pv 3) (pe_op op_pow pe_int pe_int) (nomark _))
  (pss_cons (ps_for PassesOwn.never rfl (pi_rn1 (by rfl) B.range (pa_cons (pv 2) pa_nil)) (pg_name (i := 5) sc__law_draws.nd rfl (.inl rfl))
  (pss_cons (ps_expr (pe_bm PySem.F.plainAttrs_list PySem.F.slot_list_append PySem.F.type_list_append mt_append (pv 4) (pa_cons (pe_op op_mod (pe_callTy call_intI (by rfl) B.int (by decide +kernel) (pa_cons (pv 3) pa_nil)) (pv 1)) pa_nil)))
  (pss_one (ps_set (i := 3) sc__law_draws.nd rfl (.inl rfl) (pe_op op_fdiv (pv 3) (pv 1))))))
  (pss_one (ps_ret (pv 4))))
  pss_nil)
  (pss_cons (ps_for PassesOwn.never rfl (pi_rn1 (by rfl) B.range (pa_cons (pv 2) pa_nil)) (pg_name (i := 5) sc__law_draws.nd rfl (.inl rfl))
  (pss_cons (ps_set (i := 6) sc__law_draws.nd rfl (.inl rfl) (pe_op op_mod (pe_callTy call_intI (by rfl) B.int (by decide +kernel) (pa_cons (pe_op op_mul (pe_op op_add (pe_op op_add (pv 3) (pe_op op_mul pe_int (pv 5))) pe_int) pe_int) pa_nil)) pe_int))
  (pss_cons (ps_set (i := 6) sc__law_draws.nd rfl (.inl rfl) (pe_op op_mod (pe_callTy call_intI (by rfl) B.int (by decide +kernel) (pa_cons (pe_op op_add (pe_op op_mul (pv 6) pe_int) (pe_op op_mul pe_int (pv 5))) pa_nil)) pe_int))
  (pss_one (ps_expr (pe_bm PySem.F.plainAttrs_list PySem.F.slot_list_append PySem.F.type_list_append mt_append (pv 4) (pa_cons (pe_op op_mod (pe_callTy call_intI (by rfl) B.int (by decide +kernel) (pa_cons (pe_op op_fdiv (pv 6) pe_int) pa_nil)) (pv 1)) pa_nil)))))))
  (pss_one (ps_ret (pv 4)))))))), ?_⟩
    have cp : CPow 10 18 := ⟨by decide, by decide, by decide⟩
    have cd : ∀ z, CDiv z m := fun z => ⟨by omega, by omega⟩
    have grow : ∀ (rs : List Int) (x : Int), rs.map V.int ++ [V.int x] = (rs ++ [x]).map V.int := fun rs x => by simp
    walk_at "st"
    refine ⟨fun σ' H' => Wd (H' = H ∧ ∃ n : Int, σ' = [some (.int c), some (.int m), some (.int k), some (.int n), none, none, none]), ?_, ?_⟩
    · walk_at "st"
      refine iteD (fun e => ?_) (fun e => ?_)
      · walk_at "st"
        exact ⟨⟨rfl, _, rfl⟩⟩
      · exact ⟨⟨rfl, _, rfl⟩⟩
    rintro σ1 H1 ⟨⟨rfl, n, rfl⟩⟩
    walk_at "st"
    intro o ho
    walk_at "st"
    refine iteD (fun e => ?_) (fun e => ?_)
    · walk_at "st"
      refine for_range (lo := 0) (fun i σ H2 => Wd <| ∃ (z : Int) (rs : List Int) (y5 : Option V), σ = [some (.int c), some (.int m), some (.int k), some (.int z), some (.ref o), y5, none] ∧ rs.length = i ∧ H2 o = some (.lst (rs.map V.int)) ∧ Kp [] H1 H2) ⟨⟨n, [], none, rfl, rfl, upd_same, by walk_at "kp"⟩⟩ ?_ ?_
      · rintro i σ H2 hi ⟨⟨z, rs, y5, rfl, hl, h2, k2⟩⟩
        have hl2 : (rs.map V.int).length = i := by simp [hl]
        walk_at "st"
        refine ⟨⟨_, rs ++ [z % m], _, rfl, by simp [hl], upd_int, by walk_at "kp"⟩⟩
      · rintro σ H2 ⟨⟨z, rs, y5, rfl, hl, h2, k2⟩⟩
        walk_at "st"
        exact q _ _ rs (by omega) ho h2 k2
    · walk_at "st"
      refine for_range (lo := 0) (fun i σ H2 => Wd <| ∃ (rs : List Int) (y5 y6 : Option V), σ = [some (.int c), some (.int m), some (.int k), some (.int n), some (.ref o), y5, y6] ∧ rs.length = i ∧ H2 o = some (.lst (rs.map V.int)) ∧ Kp [] H1 H2) ⟨⟨[], none, none, rfl, rfl, upd_same, by walk_at "kp"⟩⟩ ?_ ?_
      · rintro i σ H2 hi ⟨⟨rs, y5, y6, rfl, hl, h2, k2⟩⟩
        have hl2 : (rs.map V.int).length = i := by simp [hl]
        walk_at "st"
        refine ⟨⟨rs ++ [_], _, _, rfl, by simp [hl], upd_int, by walk_at "kp"⟩⟩
      · rintro σ H2 ⟨⟨rs, y5, y6, rfl, hl, h2, k2⟩⟩
        walk_at "st"
        exact q _ _ rs (by omega) ho h2 k2
end
abbrev s__law_box : Stmt := topS 5
theorem sc__law_box : FnScope ["script", "row", "cell"] ["script"] (defScope s__law_box) := ⟨rfl, rfl, rfl, by decide +kernel, rfl, by decide +kernel, by decide +kernel⟩
section
variable {P : Program} {w : World} {K : PySem.W.Frag} {mg : Str → Option Value} {base : Heap}
theorem ok__law_box {f : Addr} {fd : FuncData} (F : Fun K "_law_box" "_law_box" s__law_box f fd) (B : Glb mg) (c_law_draws : Cal P w K mg base 1 "_law_draws" ["cell", "modulus", "count"] sp__law_draws) : FnOk P w K mg base CX0 2 f fd ["script"] (sp__law_box K) := by
  refine F.ok sc__law_box (fun vs H Q E h => ?_) (fun cdv A outer s H vs Q E hr h => ?_)
  · obtain ⟨a, ns, rfl, _⟩ := h
    rfl
  · obtain ⟨a, ns, rfl, hS, hn, q⟩ := h
    have hu := hu_of hr
    refine ⟨_, (pss_cons (ps_set (i := 1) sc__law_box.nd rfl (.inl rfl) (pe_lst pa_nil))
  (pss_cons (ps_for PassesOwn.never rfl (pi_list (pv 0)) (pg_name (i := 2) sc__law_box.nd rfl (.inl rfl))
  (pss_one (ps_set (i := 1) sc__law_box.nd rfl (.inl rfl) (pe_op op_cat (pv 1) (pe_cal c_law_draws (hr.mono (by decide)) (by rfl) (pa_cons (pv 2) (pa_cons pe_int (pa_cons pe_int pa_nil))))))))
  (pss_cut (ps_if (pt_cmpR op_eq (pe_callB (call_lenL) (by rfl) B.len PySem.boot_len (pa_cons (pv 1) pa_nil)) pe_int (nomark _))
  (pss_one (ps_set (i := 1) sc__law_box.nd rfl (.inl rfl) (pe_lst (pa_cons pe_int (pa_cons pe_int (pa_cons pe_int (pa_cons pe_int (pa_cons pe_int (pa_cons pe_int (pa_cons pe_int pa_nil))))))))))
  pss_nil)
  (pss_one (ps_ret (pe_disp (pps_cons pe_str (pv 1) (pps_cons pe_str pe_int pps_nil)) (by rfl) (by rfl) (fun z => by cases z) (by decide))))))), ?_⟩
    walk_at "st"
    intro o ho
    walk_at "st"
    refine for_list (K := K) (a := a) (xs := ns.map V.int) (fun i σ H2 => Wd <| ∃ (o2 : Addr) (rs : List Int) (y : Option V), σ = [some (.ref a), some (.ref o2), y] ∧ rs.length = 6 * i ∧ H2 o2 = some (.lst (rs.map V.int)) ∧ H o2 = none ∧ Kp [] H H2) ⟨⟨o, [], none, rfl, rfl, upd_same, ho, by walk_at "kp"⟩⟩ ?_ ?_ ?_
    · rintro i σ H2 _ ⟨⟨o2, rs, y, rfl, hl, h2, ho2, k2⟩⟩
      exact k2.seq hS
    · rintro i x σ H2 hx ⟨⟨o2, rs, y, rfl, hl, h2, ho2, k2⟩⟩
      obtain ⟨z, hz, rfl⟩ : ∃ z, ns[i]? = some z ∧ V.int z = x := by
        rw [List.getElem?_map] at hx
        cases e : ns[i]? with
        | none => rw [e] at hx; cases hx
        | some z => rw [e] at hx; exact ⟨z, rfl, Option.some.inj hx⟩
      have hi : i < ns.length := (List.getElem?_eq_some_iff.mp hz).1
      walk_at "st"
      intro p H3 ts hts hp h3 k3
      have h23 : H3 o2 = some (.lst (rs.map V.int)) := k3.at0 h2
      walk_at "st"
      intro p2 hp2
      exact ⟨⟨p2, rs ++ ts, _, rfl, by rw [List.length_append]; omega, by rw [upd_same, List.map_append], k2.fresh (k3.fresh hp2), (k2.trans k3).new hp2⟩⟩
    · rintro σ H2 ⟨⟨o2, rs, y, rfl, hl, h2, ho2, k2⟩⟩
      rw [List.length_map] at hl
      walk_at "st"
      refine ⟨fun σ' H' => Wd <| ∃ (o2 : Addr) (rs : List Int), σ' = [some (.ref a), some (.ref o2), y] ∧ 0 < rs.length ∧ rs.length ≤ 400 ∧ H' o2 = some (.lst (rs.map V.int)) ∧ Kp [] H H', ?_, ?_⟩
      · walk_at "st"
        refine iteD (fun e => ?_) (fun e => ?_)
        · walk_at "st"
          intro p hp
          exact ⟨⟨p, [11, 5, 2, 7, 31, 101, 997], rfl, by decide, by decide, upd_same, k2.new hp⟩⟩
        · refine ⟨⟨o2, rs, rfl, ?_, by omega, h2, k2⟩⟩
          have e' : ¬ (((rs.map V.int).length : Nat) : Int) = 0 := fun z => e (congrArg V.int z)
          rw [List.length_map] at e'
          omega
      rintro σ' H' ⟨⟨o3, rs3, rfl, l1, l2, h3, k3⟩⟩
      walk_at "st"
      intro p hp
      have hk : [(V.str "row", V.ref o3), (V.str "at", V.int 0)] = (boxD o3 0).map (fun kv => (kV kv.1, kv.2)) := rfl
      have hk15 : (boxD o3 0).length ≤ 15 := by show 2 ≤ 15; decide
      walk_at "st"
      have em : mergeK [] (boxD o3 0) = boxD o3 0 := by
        unfold mergeK boxD
        simp [putK, kRA]
      show Q _ (upd (upd H' p (.dK [])) p (.dK (mergeK [] (boxD o3 0))))
      rw [em, upd_upd]
      have h4 : (upd H' p (.dK (boxD o3 0))) o3 = some (.lst (rs3.map V.int)) := by walk_at "hs"
      exact q p o3 _ ⟨rs3, 0, upd_same, h4, l1, by omega, by decide⟩ (k3.fresh hp) (k3.new hp)
end
abbrev s__law_next : Stmt := topS 6
theorem sc__law_next : FnScope ["box", "modulus", "at", "number"] ["box", "modulus"] (defScope s__law_next) := ⟨rfl, rfl, rfl, by decide +kernel, rfl, by decide +kernel, by decide +kernel⟩
section
variable {P : Program} {w : World} {K : PySem.W.Frag} {mg : Str → Option Value} {base : Heap}
theorem ok__law_next {f : Addr} {fd : FuncData} (F : Fun K "_law_next" "_law_next" s__law_next f fd) (B : Glb mg) : FnOk P w K mg base CX0 1 f fd ["box", "modulus"] sp__law_next := by
  refine F.ok sc__law_next (fun vs H Q E h => ?_) (fun cdv A outer s H vs Q E hr h => ?_)
  · obtain ⟨b, r, m, rfl, _⟩ := h
    rfl
  · obtain ⟨b, r, m, rfl, hm, hm2, hb, q⟩ := h
    have hu := hu_of hr
    obtain ⟨rs, n, h1, h2, h3, h4, h5⟩ := hb.ex
    refine ⟨_, (pss_cons (ps_set (i := 2) sc__law_next.nd rfl (.inl rfl) (pe_dget hu (pv 0) pe_str (fun _ _ => rfl)))
  (pss_cons (ps_dput hu (pv 0) pe_str (pe_op op_add (pv 2) pe_int) rfl)
  (pss_cons (ps_set (i := 3) sc__law_next.nd rfl (.inl rfl) (pe_ix ix_list (pe_dget hu (pv 0) pe_str (fun _ _ => rfl)) (pe_op op_mod (pv 2) (pe_callB (call_lenL) (by rfl) B.len PySem.boot_len (pa_cons (pe_dget hu (pv 0) pe_str (fun _ _ => rfl)) pa_nil))) (fun _ _ => rfl)))
  (pss_one (ps_ret (pe_op op_mod (pe_callTy call_intI (by rfl) B.int (by decide +kernel) (pa_cons (pe_op op_add (pv 3) (pe_op op_mul pe_int (pe_op op_fdiv (pv 2) (pe_callB (call_lenL) (by rfl) B.len PySem.boot_len (pa_cons (pe_dget hu (pv 0) pe_str (fun _ _ => rfl)) pa_nil))))) pa_nil)) (pv 1))))))), ?_⟩
    have nrb : r ≠ b := ne_of h2 h1 (by intro z; cases z)
    have g1 : DGet H b (.str "at") (some (.int n)) := by have g := DGet.k (k := kAt) h1; rw [box_at] at g; exact g
    have p1 : DPut H b (.str "at") (.int (n + 1)) (upd H b (.dK (boxD r (n + 1)))) := by have g := DPut.k (k := kAt) (v := .int (n + 1)) h1 (by show 2 < sizeLine; decide); rw [box_put] at g; exact g
    have e1 : (upd H b (.dK (boxD r (n + 1)))) r = some (.lst (rs.map V.int)) := by walk_at "hs"
    have g2 : DGet (upd H b (.dK (boxD r (n + 1)))) b (.str "row") (some (.ref r)) := by have g := DGet.k (k := kRow) (H := upd H b (.dK (boxD r (n + 1)))) upd_same; rw [box_row] at g; exact g
    have hl : (rs.map V.int).length = rs.length := List.length_map ..
    have hi : ∃ x, rs[(n % (rs.length : Int)).toNat]? = some x := by
      have a1 : n % (rs.length : Int) < rs.length := Int.emod_lt_of_pos _ (by omega)
      have a2 : 0 ≤ n % (rs.length : Int) := Int.emod_nonneg _ (by omega)
      exact ⟨_, List.getElem?_eq_getElem (by omega)⟩
    obtain ⟨x, hx⟩ := hi
    have ax : atI (rs.map V.int) (n % ((rs.map V.int).length : Int)) = some (.int x) := by
      rw [hl]
      refine at_of (j := (n % (rs.length : Int)).toNat) ?_ ?_
      · have a2 : 0 ≤ n % (rs.length : Int) := Int.emod_nonneg _ (by omega)
        omega
      · rw [List.getElem?_map, hx]; rfl
    have hc : CDiv n (((rs.map V.int).length : Nat) : Int) := by rw [hl]; exact ⟨by omega, by omega⟩
    have hp : (0 : Int) < (((rs.map V.int).length : Nat) : Int) := by rw [hl]; omega
    have hM : ∀ z : Int, CMul 7919 z := fun z => .inl ⟨by decide, by decide⟩
    walk_at "st"
    exact q _ _ (Int.emod_nonneg _ (by omega)) (Int.emod_lt_of_pos _ hm) ⟨rs, n + 1, upd_same, e1, h3, h4, by omega⟩ (by walk_at "kp")
end
abbrev s__law_labels : Stmt := topS 7
theorem sc__law_labels : FnScope ["box"] ["box"] (defScope s__law_labels) := ⟨rfl, rfl, rfl, by decide +kernel, rfl, by decide +kernel, by decide +kernel⟩
section
variable {P : Program} {w : World} {K : PySem.W.Frag} {mg : Str → Option Value} {base : Heap}
theorem ok__law_labels {f : Addr} {fd : FuncData} (F : Fun K "_law_labels" "_law_labels" s__law_labels f fd) (B : Glb mg) (c_law_next : Cal P w K mg base 1 "_law_next" ["box", "modulus"] sp__law_next) : FnOk P w K mg base CX0 2 f fd ["box"] sp__law_labels := by
  refine F.ok sc__law_labels (fun vs H Q E h => ?_) (fun cdv A outer s H vs Q E hr h => ?_)
  · obtain ⟨b, r, rfl, _⟩ := h
    rfl
  · obtain ⟨b, r, rfl, hb, q⟩ := h
    have hu := hu_of hr
    refine ⟨_, (pss_one (ps_ret (pe_tup (pa_cons (pe_op op_add pe_int (pe_cal c_law_next (hr.mono (by decide)) (by rfl) (pa_cons (pv 0) (pa_cons pe_int pa_nil)))) (pa_cons (pe_op op_add pe_int (pe_cal c_law_next (hr.mono (by decide)) (by rfl) (pa_cons (pv 0) (pa_cons pe_int pa_nil)))) (pa_cons (pe_op op_add pe_int (pe_cal c_law_next (hr.mono (by decide)) (by rfl) (pa_cons (pv 0) (pa_cons pe_int pa_nil)))) pa_nil)))))), ?_⟩
    walk_at "st"
    intro v1 H1 a1 a2 b1 k1
    walk_at "st"
    intro v2 H2 a3 a4 b2 k2
    walk_at "st"
    intro v3 H3 a5 a6 b3 k3
    walk_at "st"
    intro p hp
    exact q p _ (1 + v1) (1 + v2) (1 + v3) ⟨by omega, by omega, by omega, by omega, by omega, by omega⟩ upd_same (((k1.trans k2).trans k3).fresh hp) (b3.kp ((Kp.refl _ _).new hp)) (((k1.trans k2).trans k3).new hp) 
end
abbrev s__law_text : Stmt := topS 8
theorem sc__law_text : FnScope ["box", "labels", "most", "row", "opened", "k", "choice"] ["box", "labels", "most"] (defScope s__law_text) := ⟨rfl, rfl, rfl, by decide +kernel, rfl, by decide +kernel, by decide +kernel⟩
section
variable {P : Program} {w : World} {K : PySem.W.Frag} {mg : Str → Option Value} {base : Heap}
theorem ok__law_text {f : Addr} {fd : FuncData} (F : Fun K "_law_text" "_law_text" s__law_text f fd) (B : Glb mg) (c_law_next : Cal P w K mg base 1 "_law_next" ["box", "modulus"] sp__law_next) : FnOk P w K mg base CX0 2 f fd ["box", "labels", "most"] (sp__law_text K) := by
  refine F.ok sc__law_text (fun vs H Q E h => ?_) (fun cdv A outer s H vs Q E hr h => ?_)
  · obtain ⟨b, r, l, x, y, z, m, rfl, _⟩ := h
    rfl
  · obtain ⟨b, r, l, x, y, z, m, rfl, hb, hl, hL, hm0, hm1, q⟩ := h
    have hu := hu_of hr
    refine ⟨_, (pss_cons (ps_set (i := 3) sc__law_text.nd rfl (.inl rfl) (pe_lst pa_nil))
  (pss_cons (ps_set (i := 4) sc__law_text.nd rfl (.inl rfl) pe_int)
  (pss_cons (ps_for PassesOwn.never rfl (pi_rn1 (by rfl) B.range (pa_cons (pv 2) pa_nil)) (pg_name (i := 5) sc__law_text.nd rfl (.inl rfl))
  (pss_cons (ps_set (i := 6) sc__law_text.nd rfl (.inl rfl) (pe_cal c_law_next (hr.mono (by decide)) (by rfl) (pa_cons (pv 0) (pa_cons pe_int pa_nil))))
  (pss_one (ps_if (PW.pt (pw_and2 (pt_cmpR op_lt (pv 6) pe_int (nomark _)) (pw_and1 (pt_cmpR op_le (pe_op op_add (pe_op op_add (pe_callB (call_lenL) (by rfl) B.len PySem.boot_len (pa_cons (pv 3) pa_nil)) (pv 4)) pe_int) (pv 2) (nomark _)))))
  (pss_cons (ps_expr (pe_bm PySem.F.plainAttrs_list PySem.F.slot_list_append PySem.F.type_list_append mt_append (pv 3) (pa_cons (pe_tup (pa_cons pe_str (pa_cons (pe_cal c_law_next (hr.mono (by decide)) (by rfl) (pa_cons (pv 0) (pa_cons (pe_ix ix_tup (pv 1) pe_int (fun _ _ => rfl)) pa_nil))) pa_nil))) pa_nil)))
  (pss_one (ps_set (i := 4) sc__law_text.nd rfl (.inl rfl) (pe_op op_add (pv 4) pe_int))))
  (pss_one (ps_if (PW.pt (pw_and2 (pt_cmpR op_lt (pv 6) pe_int (nomark _)) (pw_and1 (pt_cmpR op_gt (pv 4) pe_int (nomark _)))))
  (pss_cons (ps_expr (pe_bm PySem.F.plainAttrs_list PySem.F.slot_list_append PySem.F.type_list_append mt_append (pv 3) (pa_cons (pe_tup (pa_cons pe_str (pa_cons (pe_cal c_law_next (hr.mono (by decide)) (by rfl) (pa_cons (pv 0) (pa_cons (pe_ix ix_tup (pv 1) pe_int (fun _ _ => rfl)) pa_nil))) pa_nil))) pa_nil)))
  (pss_one (ps_set (i := 4) sc__law_text.nd rfl (.inl rfl) (pe_op op_sub (pv 4) pe_int))))
  (pss_one (ps_if (pt_cmpR op_lt (pe_op op_add (pe_callB (call_lenL) (by rfl) B.len PySem.boot_len (pa_cons (pv 3) pa_nil)) (pv 4)) (pv 2) (nomark _))
  (pss_one (ps_expr (pe_bm PySem.F.plainAttrs_list PySem.F.slot_list_append PySem.F.type_list_append mt_append (pv 3) (pa_cons (pe_tup (pa_cons pe_str (pa_cons (pe_cal c_law_next (hr.mono (by decide)) (by rfl) (pa_cons (pv 0) (pa_cons (pe_ix ix_tup (pv 1) pe_int (fun _ _ => rfl)) pa_nil))) pa_nil))) pa_nil))))
  pss_nil))))))))
  (pss_cons (ps_for PassesOwn.never rfl (pi_rn1 (by rfl) B.range (pa_cons (pv 4) pa_nil)) (pg_name (i := 5) sc__law_text.nd rfl (.inl rfl))
  (pss_one (ps_expr (pe_bm PySem.F.plainAttrs_list PySem.F.slot_list_append PySem.F.type_list_append mt_append (pv 3) (pa_cons (pe_tup (pa_cons pe_str (pa_cons (pe_cal c_law_next (hr.mono (by decide)) (by rfl) (pa_cons (pv 0) (pa_cons (pe_ix ix_tup (pv 1) pe_int (fun _ _ => rfl)) pa_nil))) pa_nil))) pa_nil)))))
  (pss_one (ps_ret (pv 3))))))), ?_⟩
    obtain ⟨L1, L2, L3, L4, L5, L6⟩ := id hL
    have a0 : atI [V.int x, V.int y, V.int z] 0 = some (.int x) := atI_nat (j := 0) rfl
    have a1 : atI [V.int x, V.int y, V.int z] 1 = some (.int y) := atI_nat (j := 1) rfl
    have a2 : atI [V.int x, V.int y, V.int z] 2 = some (.int z) := atI_nat (j := 2) rfl
    have nlb := hb.tupin hl
    walk_at "st"
    intro o ho
    have nob := hb.neb ho
    have nor := hb.ner ho
    have noq := hb.nin ho
    have hb0 : BoxAt (upd H o (.lst [])) b r := hb.upd nob nor
    -- a place put at the end of the row
    have put : ∀ (H2 H3 : Hp) (p : Addr) (vs' : List V) (t : List Pl) (c : Pl), H2 o = some (.lst vs') → Paired (PlV H2) vs' t → BoxAt H2 b r → Kp [b] H2 H3 → BoxAt H3 b r → H3 p = none → Kp [b] H H2 →
        H3 o = some (.lst vs') ∧ (upd H3 p (.tup c.vs)) o = some (.lst vs') ∧ Paired (PlV (upd (upd H3 p (.tup c.vs)) o (.lst (vs' ++ [.ref p])))) (vs' ++ [.ref p]) (t ++ [c]) ∧ BoxAt (upd (upd H3 p (.tup c.vs)) o (.lst (vs' ++ [.ref p]))) b r ∧ Kp [b] H (upd (upd H3 p (.tup c.vs)) o (.lst (vs' ++ [.ref p]))) := by
      intro H2 H3 p vs' t c h2 hp hb2 k3 hb3 np k2
      have h3o : H3 o = some (.lst vs') := k3.at_ h2 noq
      have npo : p ≠ o := (ne_of_none h3o np).symm
      have h3' : (upd H3 p (.tup c.vs)) o = some (.lst vs') := by walk_at "hs"
      have tk : TK H2 (upd (upd H3 p (.tup c.vs)) o (.lst (vs' ++ [.ref p]))) := ((TK.box hb2 k3).trans (.new np)).trans (.lst h3')
      exact ⟨h3o, h3', (Pd.tk hp tk).snoc ⟨p, rfl, by rw [upd_ne npo]; exact upd_same⟩, (hb3.upd (hb3.neb np) (hb3.ner np)).upd nob nor, ((k2.trans k3).new np).own ho⟩
    walk_at "st"
    refine for_range (lo := 0) (fun i σ H2 => Wd <| ∃ (n : Nat) (vs' : List V) (t : List Pl) (y5 y6 : Option V), σ = [some (.ref b), some (.ref l), some (.int m), some (.ref o), some (.int n), y5, y6] ∧
      H2 o = some (.lst vs') ∧ Paired (PlV H2) vs' t ∧ ht t 0 = some n ∧ LabT x y z t ∧ (t.length + n : Int) ≤ m ∧ BoxAt H2 b r ∧ Kp [b] H H2) ⟨⟨0, [], [], none, none, rfl, upd_same, .nil, rfl, fun _ h => (by cases h), by simpa using hm0, hb0, by walk_at "kp"⟩⟩ ?_ ?_
    · rintro i σ H2 hi ⟨⟨n, vs', t, y5, y6, rfl, h2, hp, hh, hlt, hlen, hb2, k2⟩⟩
      have hvl := hp.length
      walk_at "st"
      intro c H3 c1 c2 hb3 k3
      have h3 : H3 o = some (.lst vs') := k3.at_ h2 noq
      have hl3 : H3 l = some (.tup [.int x, .int y, .int z]) := (k2.trans k3).at_ hl nlb
      have stay : ∀ s, s = [some (V.ref b), some (V.ref l), some (V.int m), some (V.ref o), some (V.int n), some (V.int (0 + i)), some (V.int c)] → Wd (∃ (n : Nat) (vs' : List V) (t : List Pl) (y5 y6 : Option V), s = [some (.ref b), some (.ref l), some (.int m), some (.ref o), some (.int n), y5, y6] ∧
        H3 o = some (.lst vs') ∧ Paired (PlV H3) vs' t ∧ ht t 0 = some n ∧ LabT x y z t ∧ (t.length + n : Int) ≤ m ∧ BoxAt H3 b r ∧ Kp [b] H H3) := fun s e => ⟨⟨n, vs', t, _, _, e, h3, Pd.tk hp (.box hb2 k3), hh, hlt, hlen, hb3, k2.trans k3⟩⟩
      -- the ways of the choice
      have hvlt : vs'.length < sizeLine := smallLt (by omega)
      walk_at "st"
      apply iteAD
      · intro e1 e2
        -- a call
        walk_at "st"
        intro d H4 d1 d2 hb4 k4
        walk_at "st"
        intro p np
        obtain ⟨p1, p2, p3, p4, p5⟩ := put H2 H4 p vs' t (.cal d) h2 hp hb2 (k3.trans k4) hb4 np k2
        walk_at "st"
        refine ⟨⟨n + 1, vs' ++ [V.ref p], t ++ [Pl.cal d], _, _, rfl, upd_same, p3, ?_, hlt.snoc ⟨d1, d2⟩, ?_, p4, p5⟩⟩
        · rw [ht_app, hh]; rfl
        · rw [List.length_append]; simp; omega
      · intro e1
        walk_at "st"
        apply iteAD
        · intro e2 e3
          -- a return
          walk_at "st"
          intro d H4 d1 d2 hb4 k4
          walk_at "st"
          intro p np
          obtain ⟨p1, p2, p3, p4, p5⟩ := put H2 H4 p vs' t (.ret d) h2 hp hb2 (k3.trans k4) hb4 np k2
          walk_at "st"
          obtain ⟨j, rfl⟩ : ∃ j, n = j + 1 := ⟨n - 1, by omega⟩
          have ej : ((j + 1 : Nat) : Int) - 1 = (j : Int) := by omega
          refine ⟨⟨j, vs' ++ [V.ref p], t ++ [Pl.ret d], _, _, by rw [← ej]; rfl, upd_same, p3, ?_, hlt.snoc ⟨d1, d2⟩, ?_, p4, p5⟩⟩
          · rw [ht_app, hh]; rfl
          · rw [List.length_append]; simp; omega
        · intro e2
          walk_at "st"
          apply iteD
          · intro e3
            walk_at "st"
            intro d H4 d1 d2 hb4 k4
            walk_at "st"
            intro p np
            obtain ⟨p1, p2, p3, p4, p5⟩ := put H2 H4 p vs' t (.let_ d) h2 hp hb2 (k3.trans k4) hb4 np k2
            walk_at "st"
            refine ⟨⟨n, vs' ++ [V.ref p], t ++ [Pl.let_ d], _, _, rfl, upd_same, p3, ?_, hlt.snoc ⟨d1, d2⟩, ?_, p4, p5⟩⟩
            · rw [ht_app, hh]; rfl
            · rw [List.length_append]; simp; omega
          · intro e3
            exact stay _ rfl
    · rintro σ H2 ⟨⟨n, vs', t, y5, y6, rfl, h2, hp, hh, hlt, hlen, hb2, k2⟩⟩
      have hn62 : (n : Int) ≤ 1000 := by omega
      walk_at "st"
      refine for_range (lo := 0) (fun i σ H2 => Wd <| ∃ (vs' : List V) (t : List Pl) (y5 : Option V), σ = [some (.ref b), some (.ref l), some (.int m), some (.ref o), some (.int n), y5, y6] ∧
        H2 o = some (.lst vs') ∧ Paired (PlV H2) vs' t ∧ ht t 0 = some (n - i) ∧ i ≤ n ∧ LabT x y z t ∧ (t.length + (n - i : Nat) : Int) ≤ m ∧ BoxAt H2 b r ∧ Kp [b] H H2) ⟨⟨vs', t, y5, rfl, h2, hp, hh, Nat.zero_le _, hlt, hlen, hb2, k2⟩⟩ ?_ ?_
      · rintro i σ H2 hi ⟨⟨vs', t, y5, rfl, h2, hp, hh, hin, hlt, hlen, hb2, k2⟩⟩
        have hvl := hp.length
        have hl2 : H2 l = some (.tup [.int x, .int y, .int z]) := k2.at_ hl nlb
        walk_at "st"
        intro c H3 c1 c2 hb3 k3
        walk_at "st"
        intro p np
        obtain ⟨p1, p2, p3, p4, p5⟩ := put H2 H3 p vs' t (.ret c) h2 hp hb2 k3 hb3 np k2
        have hvlt : vs'.length < sizeLine := smallLt (by omega)
        walk_at "st"
        refine ⟨⟨vs' ++ [V.ref p], t ++ [Pl.ret c], _, rfl, upd_same, p3, ?_, by omega, hlt.snoc ⟨c1, c2⟩, ?_, p4, p5⟩⟩
        · rw [ht_app, hh]
          obtain ⟨j, hj⟩ : ∃ j, n - i = j + 1 := ⟨n - (i + 1), by omega⟩
          rw [hj]
          show some j = _
          congr 1
          omega
        · rw [List.length_append]; simp; omega
      · rintro σ H2 ⟨⟨vs', t, y5, rfl, h2, hp, hh, hin, hlt, hlen, hb2, k2⟩⟩
        walk_at "st"
        have e0 : n - (n : Int).toNat = 0 := by omega
        rw [e0] at hh hlen
        exact q o H2 vs' t h2 hp hh hlt (by omega) ho hb2 k2
end
abbrev s__law_arches : Stmt := topS 9
theorem sc__law_arches : FnScope ["text", "found", "at", "depth", "end", "k"] ["text"] (defScope s__law_arches) := ⟨rfl, rfl, rfl, by decide +kernel, rfl, by decide +kernel, by decide +kernel⟩
section
variable {P : Program} {w : World} {K : PySem.W.Frag} {mg : Str → Option Value} {base : Heap}
theorem ok__law_arches {f : Addr} {fd : FuncData} (F : Fun K "_law_arches" "_law_arches" s__law_arches f fd) (B : Glb mg) : FnOk P w K mg base CX0 1 f fd ["text"] (sp__law_arches K) := by
  refine F.ok sc__law_arches (fun vs H Q E h => ?_) (fun cdv A outer s H vs Q E hr h => ?_)
  · obtain ⟨a, t, rfl, _⟩ := h
    rfl
  · obtain ⟨a, t, rfl, hT, hlen, hbal, q⟩ := h
    have hu := hu_of hr
    refine ⟨_, (pss_cons (ps_set (i := 1) sc__law_arches.nd rfl (.inl rfl) (pe_lst pa_nil))
  (pss_cons (ps_for PassesOwn.never rfl (pi_rn1 (by rfl) B.range (pa_cons (pe_callB (call_lenL) (by rfl) B.len PySem.boot_len (pa_cons (pv 0) pa_nil)) pa_nil)) (pg_name (i := 2) sc__law_arches.nd rfl (.inl rfl))
  (pss_one (ps_if (pt_cmpR op_eq (pe_ix ix_tup (pe_ix ix_list (pv 0) (pv 2) (fun _ _ => rfl)) pe_int (fun _ _ => rfl)) pe_str (nomark _))
  (pss_cons (ps_set (i := 3) sc__law_arches.nd rfl (.inl rfl) pe_int)
  (pss_cons (ps_set (i := 4) sc__law_arches.nd rfl (.inl rfl) (pe_op op_sub pe_int pe_int))
  (pss_cons (ps_for PassesOwn.never rfl (pi_rn2 (by rfl) B.range (pa_cons (pv 2) (pa_cons (pe_callB (call_lenL) (by rfl) B.len PySem.boot_len (pa_cons (pv 0) pa_nil)) pa_nil))) (pg_name (i := 5) sc__law_arches.nd rfl (.inl rfl))
  (pss_cut (ps_if (pt_cmpR op_eq (pe_ix ix_tup (pe_ix ix_list (pv 0) (pv 5) (fun _ _ => rfl)) pe_int (fun _ _ => rfl)) pe_str (nomark _))
  (pss_one (ps_set (i := 3) sc__law_arches.nd rfl (.inl rfl) (pe_op op_add (pv 3) pe_int)))
  pss_nil)
  (pss_cut (ps_if (pt_cmpR op_eq (pe_ix ix_tup (pe_ix ix_list (pv 0) (pv 5) (fun _ _ => rfl)) pe_int (fun _ _ => rfl)) pe_str (nomark _))
  (pss_one (ps_set (i := 3) sc__law_arches.nd rfl (.inl rfl) (pe_op op_sub (pv 3) pe_int)))
  pss_nil)
  (pss_one (ps_if (PW.pt (pw_and2 (pt_cmpR op_eq (pv 3) pe_int (nomark _)) (pw_and1 (pt_cmpR op_lt (pv 4) pe_int (nomark _)))))
  (pss_one (ps_set (i := 4) sc__law_arches.nd rfl (.inl rfl) (pv 5)))
  pss_nil)))))
  (pss_one (ps_expr (pe_bm PySem.F.plainAttrs_list PySem.F.slot_list_append PySem.F.type_list_append mt_append (pv 1) (pa_cons (pe_tup (pa_cons (pv 2) (pa_cons (pv 4) pa_nil))) pa_nil)))))))
  pss_nil)))
  (pss_one (ps_ret (pv 1))))), ?_⟩
    obtain ⟨vs, hS, hP⟩ := hT.ex
    have hvl := hP.length
    have rd : ∀ (i : Nat), i < vs.length → ∃ (p : Pl) (tp : Addr), t[i]? = some p ∧ vs[i]? = some (.ref tp) ∧ H tp = some (.tup p.vs) := by
      intro i hi
      obtain ⟨p, hp, tp, e, htp⟩ := Pd.get hP (List.getElem?_eq_getElem hi)
      exact ⟨p, tp, hp, by rw [List.getElem?_eq_getElem hi, e], htp⟩
    walk_at "st"
    intro o ho
    walk_at "st"
    refine for_range (lo := 0) (fun i σ H2 => Wd <| ∃ (ys : List V) (y2 y3 y4 y5 : Option V), σ = [some (.ref a), some (.ref o), y2, y3, y4, y5] ∧ H2 o = some (.lst ys) ∧ ys.length ≤ i ∧ i ≤ vs.length ∧ Paired (PrV H2) ys (dueP (t.take i) (t.drop i) 0) ∧ Kp [] H H2)
      ⟨⟨[], none, none, none, none, rfl, upd_same, Nat.le_refl _, Nat.zero_le _, .nil, by walk_at "kp"⟩⟩ ?_ ?_
    · rintro i σ H2 hi ⟨⟨ys, y2, y3, y4, y5, rfl, h2, hyl, hi', hl, k2⟩⟩
      have hiv : i < vs.length := by simpa using hi
      obtain ⟨p, tp, hp, hv, htp⟩ := rd i hiv
      have ha := at0n hv
      have hb := vs0 p
      have htp2 := k2.at0 htp
      have hS2 := k2.seq hS
      have hyl2 : ys.length < sizeLine := smallLt (by omega)
      have ed : dueP (t.take (i + 1)) (t.drop (i + 1)) 0 = dueP (t.take i) (t.drop i) 0 ++ dueP [p] (t.drop (i + 1)) i := by
        rw [take_snoc hp, dueP_app, List.singleton_append, ← drop_at hp, List.length_take]
        rw [show 0 + min i t.length = i by omega]
      cases p with
      | let_ c =>
        walk_at "st"
        exact ⟨⟨ys, _, _, _, _, rfl, h2, by omega, hiv, by rw [ed]; simpa [dueP] using hl, k2⟩⟩
      | ret c =>
        walk_at "st"
        exact ⟨⟨ys, _, _, _, _, rfl, h2, by omega, hiv, by rw [ed]; simpa [dueP] using hl, k2⟩⟩
      | cal c =>
        walk_at "st"
        have ek : (((vs.length : Nat) : Int) - (0 + (i : Int))).toNat = vs.length - i := by omega
        rw [ek]
        refine for_range (lo := 0 + (i : Int)) (n := vs.length - i) (fun k σ H4 => Wd <| ∃ (d e : Int) (y5 : Option V), σ = [some (.ref a), some (.ref o), some (.int (0 + (i : Int))), some (.int d), some (.int e), y5] ∧ H4 = H2 ∧ i + k ≤ vs.length ∧
          ((e < 0 ∧ e = -1 ∧ cls (t.drop i) 0 i = cls (t.drop (i + k)) d (i + k)) ∨ (0 ≤ e ∧ eI (cls (t.drop i) 0 i) = e))) ⟨⟨0, -1, y5, rfl, rfl, by omega, .inl ⟨by decide, rfl, rfl⟩⟩⟩ ?_ ?_
        · rintro k σ H4 hk2 ⟨⟨d, e, y5, rfl, rfl, hik, hc⟩⟩
          obtain ⟨p2, tp2, hp2, hv2, htp2⟩ := rd (i + k) (by omega)
          have ha2 : atI vs (0 + (i : Int) + (k : Int)) = some (.ref tp2) := by
            have := at0n hv2
            rw [show (0 : Int) + ((i + k : Nat) : Int) = 0 + (i : Int) + (k : Int) by omega] at this
            exact this
          have hb2 := vs0 p2
          have htp3 := k2.at0 htp2
          -- behind the two tests
          have fin : ∀ (σ' : L2.St), σ' = [some (.ref a), some (.ref o), some (.int (0 + (i : Int))), some (.int (d + dl p2)), some (.int e), some (.int (0 + (i : Int) + (k : Int)))] → ∀ (e2 : Int), (e2 = if d + dl p2 = 0 ∧ e < 0 then 0 + (i : Int) + (k : Int) else e) →
              ((e2 < 0 ∧ e2 = -1 ∧ cls (t.drop i) 0 i = cls (t.drop (i + (k + 1))) (d + dl p2) (i + (k + 1))) ∨ (0 ≤ e2 ∧ eI (cls (t.drop i) 0 i) = e2)) := by
            intro _ _ e2 he2
            rw [drop_at hp2] at hc
            rcases hc with ⟨h1, h1', h3⟩ | ⟨h1, h3⟩
            · by_cases hz : d + dl p2 = 0
              · rw [if_pos ⟨hz, h1⟩] at he2
                refine .inr ⟨by omega, ?_⟩
                rw [h3, cls, if_pos hz]
                show ((i + k : Nat) : Int) = e2
                omega
              · rw [if_neg (fun z => hz z.1)] at he2
                refine .inl ⟨by omega, by omega, ?_⟩
                rw [h3, cls, if_neg hz]
                rfl
            · rw [if_neg (fun z => by omega)] at he2
              exact .inr ⟨by omega, by rw [h3, he2]⟩
          have ex1 : ∃ d1 : Int, d1 = d + (if decide (V.str p2.kind = V.str "call") = true then (1 : Int) else 0) := ⟨_, rfl⟩
          obtain ⟨d1, hd1⟩ := ex1
          have hdl := dl_of p2 d
          rw [← hd1] at hdl
          walk_at "st"
          refine ⟨fun σ' H' => Wd (H' = H4 ∧ σ' = [some (.ref a), some (.ref o), some (.int (0 + (i : Int))), some (.int d1), some (.int e), some (.int (0 + (i : Int) + (k : Int)))]), ?_, ?_⟩
          · walk_at "st"
            apply iteA
            · intro h5
              rw [h5] at hd1
              walk_at "st"
              exact ⟨⟨rfl, by rw [hd1]; rfl⟩⟩
            · intro h5
              rw [h5] at hd1
              exact ⟨⟨rfl, by rw [hd1]; simp⟩⟩
          rintro σ' H' ⟨⟨rfl, rfl⟩⟩
          walk_at "st"
          refine ⟨fun σ' H'' => Wd (H'' = H' ∧ σ' = [some (.ref a), some (.ref o), some (.int (0 + (i : Int))), some (.int (d + dl p2)), some (.int e), some (.int (0 + (i : Int) + (k : Int)))]), ?_, ?_⟩
          · walk_at "st"
            apply iteA
            · intro h5
              rw [h5] at hdl
              walk_at "st"
              exact ⟨⟨rfl, by rw [← hdl]; rfl⟩⟩
            · intro h5
              rw [h5] at hdl
              exact ⟨⟨rfl, by rw [← hdl]; simp⟩⟩
          rintro σ' H'' ⟨⟨rfl, rfl⟩⟩
          walk_at "st"
          apply iteA
          · intro h5
            have h6 : d + dl p2 = 0 ∧ e < 0 := by simpa using h5
            walk_at "st"
            exact ⟨⟨_, _, _, rfl, rfl, by omega, fin _ rfl _ (by rw [if_pos h6])⟩⟩
          · intro h5
            have h6 : ¬ (d + dl p2 = 0 ∧ e < 0) := by simpa using h5
            exact ⟨⟨_, _, _, rfl, rfl, by omega, fin _ rfl _ (by rw [if_neg h6])⟩⟩
        · rintro σ H4 ⟨⟨d, e, y5, rfl, rfl, hik, hc⟩⟩
          have ez : t.drop (i + (vs.length - i)) = [] := by
            rw [show i + (vs.length - i) = t.length by omega]; simp
          rw [ez] at hc
          have he : eI (cls (t.drop i) 0 i) = e := by
            rcases hc with ⟨h1, h1', h3⟩ | ⟨h1, h3⟩
            · rw [h3, h1']; rfl
            · exact h3
          walk_at "st"
          intro u nu
          walk_at "st"
          refine ⟨⟨ys ++ [V.ref u], _, _, _, _, rfl, upd_same, by simp; omega, hiv, ?_, by walk_at "kp"⟩⟩
          rw [ed]
          refine Pd.app (Pr.tk hl (by walk_at "tk")) (.cons ⟨u, rfl, ?_⟩ .nil)
          rw [List.nil_append, ← drop_at hp, he]
          exact Eq.trans (b := some (.tup [.int (0 + (i : Int)), .int e])) (by walk_at "hs") (by rw [Int.zero_add])
    · rintro σ H2 ⟨⟨ys, y2, y3, y4, y5, rfl, h2, hyl, hi', hl, k2⟩⟩
      walk_at "st"
      refine q o H2 ys ho h2 ?_ k2
      have e0 : ((vs.length : Nat) : Int).toNat = t.length := by omega
      rw [e0] at hl
      simpa using hl
end
abbrev s_law : Stmt := topS 10
theorem sc_law : FnScope ["script", "box", "labels", "text", "due", "actual", "told", "at", "around", "pair"] ["script"] (defScope s_law) := ⟨rfl, rfl, rfl, by decide +kernel, rfl, by decide +kernel, by decide +kernel⟩
section
variable {P : Program} {w : World} {K : PySem.W.Frag} {mg : Str → Option Value} {base : Heap}
theorem ok_law {f : Addr} {fd : FuncData} (F : Fun K "law" "law" s_law f fd) (B : Glb mg) (c_law_box : Cal P w K mg base 2 "_law_box" ["script"] (sp__law_box K)) (c_law_labels : Cal P w K mg base 2 "_law_labels" ["box"] sp__law_labels)
    (c_law_next : Cal P w K mg base 1 "_law_next" ["box", "modulus"] sp__law_next) (c_law_text : Cal P w K mg base 2 "_law_text" ["box", "labels", "most"] (sp__law_text K))
    (carches : Cal P w K mg base 1 "arches" ["text"] (sp_arches K)) (cdepths : Cal P w K mg base 1 "depths" ["text"] (sp_depths K)) (c_law_arches : Cal P w K mg base 1 "_law_arches" ["text"] (sp__law_arches K)) : FnOk P w K mg base CX0 3 f fd ["script"] (sp_law K) := by
  refine F.ok sc_law (fun vs H Q E h => ?_) (fun cdv A outer s H vs Q E hr h => ?_)
  · obtain ⟨a, ns, rfl, _⟩ := h
    rfl
  · obtain ⟨a, ns, rfl, hS, hn, q⟩ := h
    have hu := hu_of hr
    refine ⟨_, (pss_cons (ps_set (i := 1) sc_law.nd rfl (.inl rfl) (pe_cal c_law_box (hr.mono (by decide)) (by rfl) (pa_cons (pv 0) pa_nil)))
  (pss_cons (ps_set (i := 2) sc_law.nd rfl (.inl rfl) (pe_cal c_law_labels (hr.mono (by decide)) (by rfl) (pa_cons (pv 1) pa_nil)))
  (pss_cons (ps_set (i := 3) sc_law.nd rfl (.inl rfl) (pe_cal c_law_text (hr.mono (by decide)) (by rfl) (pa_cons (pv 1) (pa_cons (pv 2) (pa_cons (pe_cal c_law_next (hr.mono (by decide)) (by rfl) (pa_cons (pv 1) (pa_cons pe_int pa_nil))) pa_nil)))))
  (pss_cons (ps_set (i := 4) sc_law.nd rfl (.inl rfl) (pe_cal c_law_arches (hr.mono (by decide)) (by rfl) (pa_cons (pv 3) pa_nil)))
  (pss_cons (ps_set (i := 5) sc_law.nd rfl (.inl rfl) (pe_cal carches (hr.mono (by decide)) (by rfl) (pa_cons (pe_callTy (call_listL) (by rfl) B.list (by decide +kernel) (pa_cons (pv 3) pa_nil)) pa_nil)))
  (pss_cons (ps_if (PW.pt (pw_or2 (pt_not (pt_val (pe_callB call_is (by rfl) B.isinstance (by decide +kernel) (pa_cons (pv 5) (pa_cons (pe_bltn (v := .ty "list") (by rfl) B.list (by decide +kernel) rfl) pa_nil))))) (pw_or1 (pt_cmpR (op_neD hr.units) (pv 5) (pv 4) (nomark _)))))
  (pss_one (ps_ret pe_bl))
  pss_nil)
  (pss_cons (ps_set (i := 6) sc_law.nd rfl (.inl rfl) (pe_cal cdepths (hr.mono (by decide)) (by rfl) (pa_cons (pe_callTy (call_listL) (by rfl) B.list (by decide +kernel) (pa_cons (pv 3) pa_nil)) pa_nil)))
  (pss_cons (ps_if (PW.pt (pw_or2 (pt_not (pt_val (pe_callB call_is (by rfl) B.isinstance (by decide +kernel) (pa_cons (pv 6) (pa_cons (pe_bltn (v := .ty "list") (by rfl) B.list (by decide +kernel) rfl) pa_nil))))) (pw_or1 (pt_cmpR op_ne (pe_callB (call_lenL) (by rfl) B.len PySem.boot_len (pa_cons (pv 6) pa_nil)) (pe_callB (call_lenL) (by rfl) B.len PySem.boot_len (pa_cons (pv 3) pa_nil)) (nomark _)))))
  (pss_one (ps_ret pe_bl))
  pss_nil)
  (pss_cons (ps_for PassesOwn.never rfl (pi_rn1 (by rfl) B.range (pa_cons (pe_callB (call_lenL) (by rfl) B.len PySem.boot_len (pa_cons (pv 3) pa_nil)) pa_nil)) (pg_name (i := 7) sc_law.nd rfl (.inl rfl))
  (pss_cons (ps_set (i := 8) sc_law.nd rfl (.inl rfl) pe_int)
  (pss_cons (ps_for PassesOwn.never rfl (pi_list (pv 4)) (pg_name (i := 9) sc_law.nd rfl (.inl rfl))
  (pss_one (ps_if (pt_chain2 op_lt op_lt (pe_ix ix_tup (pv 9) pe_int (fun _ _ => rfl)) (pv 7) (pe_ix ix_tup (pv 9) pe_int (fun _ _ => rfl)))
  (pss_one (ps_set (i := 8) sc_law.nd rfl (.inl rfl) (pe_op op_add (pv 8) pe_int)))
  pss_nil)))
  (pss_one (ps_if (PW.pt (pw_or2 (pt_cmpR op_ne (pe_ix ix_list (pv 6) (pv 7) (fun _ _ => rfl)) (pv 8) (nomark _)) (pw_or1 (pt_val (pe_callB call_is (by rfl) B.isinstance (by decide +kernel) (pa_cons (pe_ix ix_list (pv 6) (pv 7) (fun _ _ => rfl)) (pa_cons (pe_bltn (v := .ty "bool") (by rfl) B.bool (by decide +kernel) rfl) pa_nil)))))))
  (pss_one (ps_ret pe_bl))
  pss_nil)))))
  (pss_one (ps_ret pe_bl))))))))))), ?_⟩
    walk_at "st"
    intro b r H1 hb1 _ k1
    walk_at "st"
    intro l H2 x y z hL hl _ hb2 k2
    walk_at "st"
    intro m H3 m0 m1 hb3 k3
    have hl3 : H3 l = some (.tup [.int x, .int y, .int z]) := k3.at_ hl (hb2.tupin hl)
    walk_at "st"
    intro p H4 vs t h4 hp hbal hlt hlen _ hb4 k4
    have hR4 : RowAt H4 p t := ⟨vs, h4, hp⟩
    have g4 := hR4.txt (K := K)
    have hlen2 : t.length ≤ 60 := by omega
    have hl1k : t.length ≤ 1000 := by omega
    walk_at "st"
    intro d H5 yd _ h5 pd5 k5
    have hR5 := hR4.kp k5
    obtain ⟨vs5, e5, hp5⟩ := hR5.ex
    walk_at "st"
    intro u1 nu1
    have kA : Kp [] H5 (upd H5 u1 (.lst vs5)) := (Kp.refl _ _).new nu1
    have g1 : TxtAt K (upd H5 u1 (.lst vs5)) u1 t := ⟨vs5, SqL.of upd_same, Pd.tk hp5 (.new nu1)⟩
    walk_at "st"
    intro ac H6 ya _ h6 pa6 k6
    have hR6 := (hR5.kp kA).kp k6
    have h5' := (k6.at0 (kA.at0 h5))
    have pd6 := Pr.tk pd5 (.kp (kA.trans k6))
    have hty : TyX K H6 (.ref ac) (.type "list") := .base (.lst h6)
    have d1 : Dp K H6 (.ref ac) (pyPs (dueP t [] 0)) := .lst (SqL.of h6) (dp_prs pa6)
    have d2 : Dp K H6 (.ref d) (pyPs (dueP t [] 0)) := .lst (SqL.of h5') (dp_prs pd6)
    have d3 := shaped_prs (dueP t [] 0)
    walk_at "st"
    refine iteN (by rw [eqv_self d3]; rfl) ?_
    obtain ⟨vs6, e6, hp6⟩ := hR6.ex
    walk_at "st"
    intro u2 nu2
    have kB : Kp [] H6 (upd H6 u2 (.lst vs6)) := (Kp.refl _ _).new nu2
    have g2 : TxtAt K (upd H6 u2 (.lst vs6)) u2 t := ⟨vs6, SqL.of upd_same, Pd.tk hp6 (.new nu2)⟩
    walk_at "st"
    intro dp H7 ds h7 hdl hds k7
    have hR7 := (hR6.kp kB).kp k7
    have h57 := k7.at0 (kB.at0 h5')
    have pd7 := Pr.tk pd6 (.kp (kB.trans k7))
    have hty7 : TyX K H7 (.ref dp) (.type "list") := .base (.lst h7)
    obtain ⟨vs7, e7, hp7⟩ := hR7.ex
    have hv7 := hp7.length
    have hml : (ds.map V.int).length = t.length := by rw [List.length_map, hdl]
    walk_at "st"
    refine iteN (by rw [hml, hv7]; simp) ?_
    walk_at "st"
    refine for_range (lo := 0) (fun i σ H8 => Wd <| ∃ (y7 y8 y9 : Option V), σ = [some (.ref a), some (.ref b), some (.ref l), some (.ref p), some (.ref d), some (.ref ac), some (.ref dp), y7, y8, y9] ∧ H8 = H7) ⟨⟨none, none, none, rfl, rfl⟩⟩ ?_ ?_
    · rintro i σ H8 hi ⟨⟨y7, y8, y9, rfl, rfl⟩⟩
      have hit : i < t.length := by rw [← hv7]; simpa using hi
      obtain ⟨st0, hst0⟩ := bal_pre hbal i
      have hht : ht (t.take i) 0 = some st0.length := by
        have e := ht_stk (t.take i) 0 []
        rw [hst0] at e
        exact e
      have hpi : t[i]? = some t[i] := List.getElem?_eq_getElem hit
      have har := around hbal hpi hht
      have hdi := hds i _ _ hpi hht
      walk_at "st"
      refine for_list (K := K) (a := d) (xs := yd) (fun j σ H9 => Wd <| ∃ (y9 : Option V), σ = [some (.ref a), some (.ref b), some (.ref l), some (.ref p), some (.ref d), some (.ref ac), some (.ref dp), some (.int (0 + (i : Int))), some (.int ((((dueP t [] 0).take j).countP (inP i) : Nat) : Int)), y9] ∧ H9 = H8) ⟨⟨y9, rfl, rfl⟩⟩ ?_ ?_ ?_
      · rintro j σ H9 _ ⟨⟨y9, rfl, rfl⟩⟩
        exact SqL.of h57
      · rintro j x σ H9 hx ⟨⟨y9, rfl, rfl⟩⟩
        obtain ⟨pr, hpr, tp, rfl, htp⟩ := Pd.get pd7 hx
        have q0 : atI [V.int pr.1, V.int pr.2] 0 = some (.int pr.1) := atI_nat (j := 0) rfl
        have q1 : atI [V.int pr.1, V.int pr.2] 1 = some (.int pr.2) := atI_nat (j := 1) rfl
        have ec : ((((dueP t [] 0).take (j + 1)).countP (inP i) : Nat) : Int) = ((((dueP t [] 0).take j).countP (inP i) : Nat) : Int) + (if inP i pr = true then 1 else 0) := by
          rw [take_snoc hpr, List.countP_append, List.countP_singleton]
          split <;> simp
        walk_at "st"
        apply iteA
        · intro e1
          walk_at "st"
          refine ⟨⟨some (.ref tp), ?_, rfl⟩⟩
          have e2 : inP i pr = true := by
            unfold inP
            simp at e1 ⊢
            exact e1
          rw [ec, if_pos e2]
          rfl
        · intro e1
          refine ⟨⟨some (.ref tp), ?_, rfl⟩⟩
          have e2 : ¬ inP i pr = true := by
            unfold inP
            simp at e1 ⊢
            exact e1
          rw [ec, if_neg e2, Int.add_zero]
          rfl
      · rintro σ H9 ⟨⟨y9, rfl, rfl⟩⟩
        have ef : (dueP t [] 0).take yd.length = dueP t [] 0 := by rw [pd7.length]; exact List.take_length
        rw [ef, har]
        have hat : atI (ds.map V.int) (0 + (i : Int)) = some (.int (dpt t[i] st0.length)) := at0n (by rw [List.getElem?_map, hdi]; rfl)
        have hti : TyX K H9 (.int (dpt t[i] st0.length)) (.type "int") := .base (.int _)
        walk_at "st"
        refine iteN (by simp) ?_
        exact ⟨⟨_, _, _, rfl, rfl⟩⟩
    · rintro σ H8 ⟨⟨y7, y8, y9, rfl, rfl⟩⟩
      walk_at "st"
      exact q H8
end
theorem all_mk {l : PySem.W.OpenLaw} {w : World} {K : PySem.W.Frag} {h : Heap} {mg : Str → Option Value} {fa : Addr} (X : K.In h) (G : h.Ns mainGlobals mg) (hfa : mg "law" = some (.ref fa))
    {f0 f1 f2 f3 f4 f5 f6 f7 f8 : Addr} {od0 an0 od1 an1 od2 an2 od3 an3 od4 an4 od5 an5 od6 an6 od7 an7 od8 an8 : Option Addr} {sl0 sl1 sl2 sl3 sl4 sl5 sl6 sl7 sl8 : Array (Option Value)} {oc0 kV0 dc0 pm0 ct0 cd0 oc1 kV1 dc1 pm1 ct1 cd1 oc2 kV2 dc2 pm2 ct2 cd2 oc3 kV3 dc3 pm3 ct3 cd3 oc4 kV4 dc4 pm4 ct4 cd4 oc5 kV5 dc5 pm5 ct5 cd5 oc6 kV6 dc6 pm6 ct6 cd6 oc7 kV7 dc7 pm7 ct7 cd7 oc8 kV8 dc8 pm8 ct8 cd8 : Value}
    (a0 : PySem.W.nsIn K mainGlobals "arches" = some (some (.ref f0))) (l0 : K.lookup f0 = some ⟨oc0, od0, .func (PySem.W.fnOf "arches" "arches" (defArgs s_arches) (defBody s_arches) (defScope s_arches) .none kV0 dc0 pm0 an0 cd0 ct0), sl0⟩) (c0 : PySem.W.codeIn K cd0 "arches" = true) (k0 : PySem.W.keepIn K (.ref f0) = true)
    (a1 : PySem.W.nsIn K mainGlobals "depths" = some (some (.ref f1))) (l1 : K.lookup f1 = some ⟨oc1, od1, .func (PySem.W.fnOf "depths" "depths" (defArgs s_depths) (defBody s_depths) (defScope s_depths) .none kV1 dc1 pm1 an1 cd1 ct1), sl1⟩) (c1 : PySem.W.codeIn K cd1 "depths" = true) (k1 : PySem.W.keepIn K (.ref f1) = true)
    (a2 : PySem.W.nsIn K mainGlobals "_law_draws" = some (some (.ref f2))) (l2 : K.lookup f2 = some ⟨oc2, od2, .func (PySem.W.fnOf "_law_draws" "_law_draws" (defArgs s__law_draws) (defBody s__law_draws) (defScope s__law_draws) .none kV2 dc2 pm2 an2 cd2 ct2), sl2⟩) (c2 : PySem.W.codeIn K cd2 "_law_draws" = true) (k2 : PySem.W.keepIn K (.ref f2) = true)
    (a3 : PySem.W.nsIn K mainGlobals "_law_box" = some (some (.ref f3))) (l3 : K.lookup f3 = some ⟨oc3, od3, .func (PySem.W.fnOf "_law_box" "_law_box" (defArgs s__law_box) (defBody s__law_box) (defScope s__law_box) .none kV3 dc3 pm3 an3 cd3 ct3), sl3⟩) (c3 : PySem.W.codeIn K cd3 "_law_box" = true) (k3 : PySem.W.keepIn K (.ref f3) = true)
    (a4 : PySem.W.nsIn K mainGlobals "_law_next" = some (some (.ref f4))) (l4 : K.lookup f4 = some ⟨oc4, od4, .func (PySem.W.fnOf "_law_next" "_law_next" (defArgs s__law_next) (defBody s__law_next) (defScope s__law_next) .none kV4 dc4 pm4 an4 cd4 ct4), sl4⟩) (c4 : PySem.W.codeIn K cd4 "_law_next" = true) (k4 : PySem.W.keepIn K (.ref f4) = true)
    (a5 : PySem.W.nsIn K mainGlobals "_law_labels" = some (some (.ref f5))) (l5 : K.lookup f5 = some ⟨oc5, od5, .func (PySem.W.fnOf "_law_labels" "_law_labels" (defArgs s__law_labels) (defBody s__law_labels) (defScope s__law_labels) .none kV5 dc5 pm5 an5 cd5 ct5), sl5⟩) (c5 : PySem.W.codeIn K cd5 "_law_labels" = true) (k5 : PySem.W.keepIn K (.ref f5) = true)
    (a6 : PySem.W.nsIn K mainGlobals "_law_text" = some (some (.ref f6))) (l6 : K.lookup f6 = some ⟨oc6, od6, .func (PySem.W.fnOf "_law_text" "_law_text" (defArgs s__law_text) (defBody s__law_text) (defScope s__law_text) .none kV6 dc6 pm6 an6 cd6 ct6), sl6⟩) (c6 : PySem.W.codeIn K cd6 "_law_text" = true) (k6 : PySem.W.keepIn K (.ref f6) = true)
    (a7 : PySem.W.nsIn K mainGlobals "_law_arches" = some (some (.ref f7))) (l7 : K.lookup f7 = some ⟨oc7, od7, .func (PySem.W.fnOf "_law_arches" "_law_arches" (defArgs s__law_arches) (defBody s__law_arches) (defScope s__law_arches) .none kV7 dc7 pm7 an7 cd7 ct7), sl7⟩) (c7 : PySem.W.codeIn K cd7 "_law_arches" = true) (k7 : PySem.W.keepIn K (.ref f7) = true)
    (a8 : PySem.W.nsIn K mainGlobals "law" = some (some (.ref f8))) (l8 : K.lookup f8 = some ⟨oc8, od8, .func (PySem.W.fnOf "law" "law" (defArgs s_law) (defBody s_law) (defScope s_law) .none kV8 dc8 pm8 an8 cd8 ct8), sl8⟩) (c8 : PySem.W.codeIn K cd8 "law" = true) (k8 : PySem.W.keepIn K (.ref f8) = true)
    (z0 : PySem.W.nsIn K mainGlobals "len" = some none) (z1 : PySem.W.nsIn K mainGlobals "range" = some none) (z2 : PySem.W.nsIn K mainGlobals "int" = some none) (z3 : PySem.W.nsIn K mainGlobals "str" = some none) (z4 : PySem.W.nsIn K mainGlobals "list" = some none) (z5 : PySem.W.nsIn K mainGlobals "isinstance" = some none) (z6 : PySem.W.nsIn K mainGlobals "enumerate" = some none) (z7 : PySem.W.nsIn K mainGlobals "sorted" = some none) (z8 : PySem.W.nsIn K mainGlobals "tuple" = some none) (z9 : PySem.W.nsIn K mainGlobals "bool" = some none) (z10 : PySem.W.nsIn K mainGlobals "max" = some none) (z11 : PySem.W.nsIn K mainGlobals "min" = some none) (z12 : PySem.W.nsIn K mainGlobals "sum" = some none) (z13 : PySem.W.nsIn K mainGlobals "all" = some none) (z14 : PySem.W.nsIn K mainGlobals "any" = some none) (z15 : PySem.W.nsIn K mainGlobals "zip" = some none) (z16 : PySem.W.nsIn K mainGlobals "set" = some none) (z17 : PySem.W.nsIn K mainGlobals "reversed" = some none)
    : ∃ fd : FuncData, (∀ (s : Shared) (v : Value), BindsTo s fd ⟨[v], []⟩ [("script", v)]) ∧ ∀ base : Heap, K.In base → base.Ns mainGlobals mg → FnOk l.prog w K mg base CX0 3 fa fd ["script"] (sp_law K) := by
  have e := hfa.symm.trans (PySem.W.mg_of X G a8)
  cases e
  have B : Glb mg := ⟨PySem.W.mg_none_of X G z0, PySem.W.mg_none_of X G z1, PySem.W.mg_none_of X G z2, PySem.W.mg_none_of X G z3, PySem.W.mg_none_of X G z4, PySem.W.mg_none_of X G z5, PySem.W.mg_none_of X G z6, PySem.W.mg_none_of X G z7, PySem.W.mg_none_of X G z8, PySem.W.mg_none_of X G z9, PySem.W.mg_none_of X G z10, PySem.W.mg_none_of X G z11, PySem.W.mg_none_of X G z12, PySem.W.mg_none_of X G z13, PySem.W.mg_none_of X G z14, PySem.W.mg_none_of X G z15, PySem.W.mg_none_of X G z16, PySem.W.mg_none_of X G z17⟩
  have F0 := fun_mk (st := s_arches) l0 c0 k0
  have b0 := F0.binds (ps := ["text"]) fun _ _ _ _ _ _ us hl => match us, hl with | [_], _ => rfl
  have carches : ∀ base : Heap, Cal l.prog w K mg base 1 "arches" ["text"] (sp_arches K) := fun base => ⟨⟨_, _, ok_arches F0 B, PySem.W.mg_of X G a0, k0, b0⟩⟩
  have F1 := fun_mk (st := s_depths) l1 c1 k1
  have b1 := F1.binds (ps := ["text"]) fun _ _ _ _ _ _ us hl => match us, hl with | [_], _ => rfl
  have cdepths : ∀ base : Heap, Cal l.prog w K mg base 1 "depths" ["text"] (sp_depths K) := fun base => ⟨⟨_, _, ok_depths F1 B, PySem.W.mg_of X G a1, k1, b1⟩⟩
  have F2 := fun_mk (st := s__law_draws) l2 c2 k2
  have b2 := F2.binds (ps := ["cell", "modulus", "count"]) fun _ _ _ _ _ _ us hl => match us, hl with | [_, _, _], _ => rfl
  have c_law_draws : ∀ base : Heap, Cal l.prog w K mg base 1 "_law_draws" ["cell", "modulus", "count"] sp__law_draws := fun base => ⟨⟨_, _, ok__law_draws F2 B, PySem.W.mg_of X G a2, k2, b2⟩⟩
  have F3 := fun_mk (st := s__law_box) l3 c3 k3
  have b3 := F3.binds (ps := ["script"]) fun _ _ _ _ _ _ us hl => match us, hl with | [_], _ => rfl
  have c_law_box : ∀ base : Heap, Cal l.prog w K mg base 2 "_law_box" ["script"] (sp__law_box K) := fun base => ⟨⟨_, _, ok__law_box F3 B (c_law_draws base), PySem.W.mg_of X G a3, k3, b3⟩⟩
  have F4 := fun_mk (st := s__law_next) l4 c4 k4
  have b4 := F4.binds (ps := ["box", "modulus"]) fun _ _ _ _ _ _ us hl => match us, hl with | [_, _], _ => rfl
  have c_law_next : ∀ base : Heap, Cal l.prog w K mg base 1 "_law_next" ["box", "modulus"] sp__law_next := fun base => ⟨⟨_, _, ok__law_next F4 B, PySem.W.mg_of X G a4, k4, b4⟩⟩
  have F5 := fun_mk (st := s__law_labels) l5 c5 k5
  have b5 := F5.binds (ps := ["box"]) fun _ _ _ _ _ _ us hl => match us, hl with | [_], _ => rfl
  have c_law_labels : ∀ base : Heap, Cal l.prog w K mg base 2 "_law_labels" ["box"] sp__law_labels := fun base => ⟨⟨_, _, ok__law_labels F5 B (c_law_next base), PySem.W.mg_of X G a5, k5, b5⟩⟩
  have F6 := fun_mk (st := s__law_text) l6 c6 k6
  have b6 := F6.binds (ps := ["box", "labels", "most"]) fun _ _ _ _ _ _ us hl => match us, hl with | [_, _, _], _ => rfl
  have c_law_text : ∀ base : Heap, Cal l.prog w K mg base 2 "_law_text" ["box", "labels", "most"] (sp__law_text K) := fun base => ⟨⟨_, _, ok__law_text F6 B (c_law_next base), PySem.W.mg_of X G a6, k6, b6⟩⟩
  have F7 := fun_mk (st := s__law_arches) l7 c7 k7
  have b7 := F7.binds (ps := ["text"]) fun _ _ _ _ _ _ us hl => match us, hl with | [_], _ => rfl
  have c_law_arches : ∀ base : Heap, Cal l.prog w K mg base 1 "_law_arches" ["text"] (sp__law_arches K) := fun base => ⟨⟨_, _, ok__law_arches F7 B, PySem.W.mg_of X G a7, k7, b7⟩⟩
  have F8 := fun_mk (st := s_law) l8 c8 k8
  exact ⟨_, fun s v => .of_eq rfl, fun base _ _ => ok_law F8 B (c_law_box base) (c_law_labels base) (c_law_next base) (c_law_text base) (carches base) (cdepths base) (c_law_arches base)⟩
end A
open PySem PySem.W PyProof.Rows
set_option maxHeartbeats 0 in
theorem PySem.Challenge.cw_archway_k03_arches_and_depths_holds : PySem.Challenge.rw_archway_k03_arches_and_depths.Holds := by
  w_on; o_law; k_head; (case hw => w_witness2)
  k_fill
  refine L2.walk_of (l := PySem.Challenge.rw_archway_k03_arches_and_depths) (n := 63) (k := 3) (x := "script") (CX := fun _ => L2.CX0) (sp := fun w => A.sp_law _) rfl (by decide) rfl ⟨rfl, by decide, by decide⟩ (fun w h Y => PySem.W.kIn_of Y) ?F (fun _ _ a ns hl _ hS => ⟨a, ns, rfl, hS, hl, fun _ => rfl⟩) (fun _ _ _ _ _ h => h)
  case F =>
    intro w mg fa h KX G hmg
    refine' A.all_mk KX G hmg ?a0 ?l0 ?c0 ?k0 ?a1 ?l1 ?c1 ?k1 ?a2 ?l2 ?c2 ?k2 ?a3 ?l3 ?c3 ?k3 ?a4 ?l4 ?c4 ?k4 ?a5 ?l5 ?c5 ?k5 ?a6 ?l6 ?c6 ?k6 ?a7 ?l7 ?c7 ?k7 ?a8 ?l8 ?c8 ?k8 ?z0 ?z1 ?z2 ?z3 ?z4 ?z5 ?z6 ?z7 ?z8 ?z9 ?z10 ?z11 ?z12 ?z13 ?z14 ?z15 ?z16 ?z17
    (case a0 => k_is)
    (case l0 => k_is)
    (case c0 => k_is)
    (case k0 => k_is)
    (case a1 => k_is)
    (case l1 => k_is)
    (case c1 => k_is)
    (case k1 => k_is)
    (case a2 => k_is)
    (case l2 => k_is)
    (case c2 => k_is)
    (case k2 => k_is)
    (case a3 => k_is)
    (case l3 => k_is)
    (case c3 => k_is)
    (case k3 => k_is)
    (case a4 => k_is)
    (case l4 => k_is)
    (case c4 => k_is)
    (case k4 => k_is)
    (case a5 => k_is)
    (case l5 => k_is)
    (case c5 => k_is)
    (case k5 => k_is)
    (case a6 => k_is)
    (case l6 => k_is)
    (case c6 => k_is)
    (case k6 => k_is)
    (case a7 => k_is)
    (case l7 => k_is)
    (case c7 => k_is)
    (case k7 => k_is)
    (case a8 => k_is)
    (case l8 => k_is)
    (case c8 => k_is)
    (case k8 => k_is)
    (case z0 => k_is)
    (case z1 => k_is)
    (case z2 => k_is)
    (case z3 => k_is)
    (case z4 => k_is)
    (case z5 => k_is)
    (case z6 => k_is)
    (case z7 => k_is)
    (case z8 => k_is)
    (case z9 => k_is)
    (case z10 => k_is)
    (case z11 => k_is)
    (case z12 => k_is)
    (case z13 => k_is)
    (case z14 => k_is)
    (case z15 => k_is)
    (case z16 => k_is)
    (case z17 => k_is)
