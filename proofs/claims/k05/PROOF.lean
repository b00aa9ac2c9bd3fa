import PyProof.Rows.All
import Wide.All
import OpenK.AllK
import Wide.FinOn
import HandS.ForMost
import HandS.ForExc
import HandS.IsInst
import HandS.Style
import HandS.Flow
import HandS.More
import HandS.Strs
import HandS.FStr
import PySem.Challenge.RW_archway_k05_written_texts
set_option Elab.async false
set_option linter.all false
set_option maxRecDepth 100000
set_option maxHeartbeats 4000000
namespace A
open PySem PySem.Spec PyProof.Rows L2
/-! ### what a step leaves -/
/-- M may have changed, all else that was tracked is as it was -/
structure Kp (M : List Addr) (H H' : Hp) : Prop where
  keep : ∀ a o, H a = some o → a ∉ M → H' a = some o
  there : ∀ a o, H a = some o → ∃ o', H' a = some o'
theorem Kp.refl (M : List Addr) (H : Hp) : Kp M H H := ⟨fun _ _ h _ => h, fun _ o h => ⟨o, h⟩⟩
theorem Kp.trans {M : List Addr} {H H1 H2 : Hp} (x : Kp M H H1) (y : Kp M H1 H2) : Kp M H H2 :=
  ⟨fun a o h n => y.keep a o (x.keep a o h n) n, fun a o h => by
    obtain ⟨o1, h1⟩ := x.there a o h
    exact y.there a o1 h1⟩
theorem Kp.mono {M N : List Addr} {H H1 : Hp} (x : Kp M H H1) (s : ∀ a, a ∈ M → a ∈ N) : Kp N H H1 := ⟨fun a o h n => x.keep a o h fun z => n (s a z), x.there⟩
theorem Kp.nil {M : List Addr} {H H1 : Hp} (x : Kp [] H H1) : Kp M H H1 := x.mono fun _ z => nomatch z
theorem Kp.fresh {M : List Addr} {H H1 : Hp} {p : Addr} (x : Kp M H H1) (h : H1 p = none) : H p = none := by
  cases q : H p with
  | none => rfl
  | some o =>
    obtain ⟨o', e⟩ := x.there p o q
    rw [h] at e
    cases e
theorem Kp.new {M : List Addr} {H H1 : Hp} {p : Addr} {o : HO} (x : Kp M H H1) (h : H1 p = none) : Kp M H (upd H1 p o) :=
  x.trans ⟨fun a u e _ => by rw [upd_ne (ne_of_none e h)]; exact e, fun a u e => ⟨u, by rw [upd_ne (ne_of_none e h)]; exact e⟩⟩
/-- an object that H does not know changes -/
theorem Kp.own {M : List Addr} {H H1 : Hp} {p : Addr} {o : HO} (x : Kp M H H1) (h : H p = none) : Kp M H (upd H1 p o) :=
  ⟨fun a u e n => by rw [upd_ne (ne_of_none e h)]; exact x.keep a u e n, fun a u e => by rw [upd_ne (ne_of_none e h)]; exact x.there a u e⟩
theorem Kp.inn {M : List Addr} {H H1 : Hp} {p : Addr} {o : HO} (x : Kp M H H1) (h : p ∈ M) : Kp M H (upd H1 p o) :=
  ⟨fun a u e n => by rw [upd_ne (fun z => n (by rw [z]; exact h))]; exact x.keep a u e n, fun a u e => by
    by_cases z : a = p
    · exact ⟨o, by rw [z, upd_same]⟩
    · rw [upd_ne z]; exact x.there a u e⟩
theorem Kp.at_ {M : List Addr} {H H1 : Hp} {a : Addr} {o : HO} (x : Kp M H H1) (h : H a = some o) (n : a ∉ M) : H1 a = some o := x.keep a o h n
theorem Kp.at0 {H H1 : Hp} {a : Addr} {o : HO} (x : Kp [] H H1) (h : H a = some o) : H1 a = some o := x.keep a o h (by simp)
theorem Kp.seq {K : PySem.W.Frag} {H H' : Hp} {a : Addr} {xs : List V} (e : Kp [] H H') (h : SqL K H a xs) : SqL K H' a xs := by
  rcases h with (h | ⟨o, h⟩) | h
  · exact .inl (.inl (e.at0 h))
  · exact .inl (.inr ⟨o, e.at0 h⟩)
  · exact .inr h
theorem Kp.sqt {K : PySem.W.Frag} {H H' : Hp} {a : Addr} {xs : List V} (e : Kp [] H H') (h : SqT K H a xs) : SqT K H' a xs := by
  rcases h with (h | ⟨o, h⟩) | h
  · exact .inl (.inl (e.at0 h))
  · exact .inl (.inr ⟨o, e.at0 h⟩)
  · exact .inr h
theorem nin1 {a b : Addr} (h : a ≠ b) : a ∉ [b] := by simpa using h

/-! ### the built-ins that no text here binds -/
structure Glb (mg : Str → Option Value) : Prop where
  len : mg "len" = none
  range : mg "range" = none
  int : mg "int" = none
  str : mg "str" = none
  list : mg "list" = none
  isinstance : mg "isinstance" = none
  enumerate : mg "enumerate" = none
  sorted : mg "sorted" = none
  tuple : mg "tuple" = none
  bool : mg "bool" = none
  max : mg "max" = none
  min : mg "min" = none
  sum : mg "sum" = none
  all : mg "all" = none
  any : mg "any" = none
  zip : mg "zip" = none
  set : mg "set" = none
  reversed : mg "reversed" = none
/-- a def of the text that keeps its promise, as callers see it -/
structure Cal (P : Program) (w : World) (K : PySem.W.Frag) (mg : Str → Option Value) (base : Heap) (k : Nat) (x : Str) (ps : List Str) (sp : Sp) : Prop where
  ex : ∃ (f : Addr) (fd : FuncData), FnOk P w K mg base CX0 k f fd ps sp ∧ mg x = some (.ref f) ∧ PySem.W.keepIn K (.ref f) = true ∧ Binds K fd ps []
theorem pe_cal {X : Cx} {k : Nat} {x : Str} {ps : List Str} {sp : Sp} {e : Expr} {es : List Expr} {t : TA} {p pos : Pos} (C : Cal X.prog X.w X.K X.mg X.base k x ps sp) (hr : Room k X.A) (hg : Gl X x) (ha : PA X (e :: es) t)
    (hd : (x == ("__debug__" : Str)) = false := by decide)
    (he : starEach (e :: es) X.env = (false, eval e X.env) :: starEach es X.env := by rfl) (hpl : (backTo pos (starEach es X.env)).any (·.1) = false := by rfl) : PE X (.Call (.Name x p) (e :: es) [] pos) (tCall sp [] E0 t) := by
  obtain ⟨f, fd, F, g, kp, b⟩ := C.ex
  exact pe_call F hr hg g kp b .nil pass0 ha hd he hpl
theorem Cal.mono {P : Program} {w : World} {K : PySem.W.Frag} {mg : Str → Option Value} {base : Heap} {j k : Nat} {x : Str} {ps : List Str} {sp : Sp} (C : Cal P w K mg base j x ps sp) (h : j ≤ k) : Cal P w K mg base k x ps sp := by
  obtain ⟨f, fd, F, r⟩ := C.ex
  exact ⟨f, fd, F.mono h, r⟩
/-! ### rules told more narrowly -/
section
variable {X : Cx}
theorem CallR.imp {f : Value} {r r' : List V → Hp → VK → Prop} (h : CallR X f r) (i : ∀ xs H Q, r' xs H Q → r xs H Q) : CallR X f r' := fun pins s σ H xs us Q I v q => h pins s σ H xs us Q I v (i _ _ _ q)
theorem OpR.imp {f : Value → Value → Sem Value} {r r' : R2} (h : OpR X f r) (i : ∀ x y H Q, r' x y H Q → r x y H Q) : OpR X f r' := fun pins s σ H x y v u Q I a b q => h pins s σ H x y v u Q I a b (i _ _ _ _ q)
theorem call_intI : CallR X (.type "int") (fun xs H Q => ∃ i, xs = [.int i] ∧ Q (.int i) H) := CallR.imp call_int1 fun _ _ _ q => .inl q
theorem call_intB : CallR X (.type "int") (fun xs H Q => ∃ k, xs = [.bl k] ∧ Q (.int (if k then 1 else 0)) H) := CallR.imp call_int1 fun _ _ _ q => .inr q
theorem call_lenL : CallR X (.builtin "len") (fun xs H Q => ∃ p ys, xs = [.ref p] ∧ SqL X.K H p ys ∧ Q (.int ys.length) H) := CallR.imp call_len_seq fun _ _ _ ⟨p, ys, e, h, q⟩ => ⟨p, ys, e, .inl h, q⟩
theorem call_lenT : CallR X (.builtin "len") (fun xs H Q => ∃ p ys, xs = [.ref p] ∧ SqT X.K H p ys ∧ Q (.int ys.length) H) := CallR.imp call_len_seq fun _ _ _ ⟨p, ys, e, h, q⟩ => ⟨p, ys, e, .inr h, q⟩
theorem call_listL : CallR X (.type "list") (fun xs H Q => ∃ p ys, xs = [.ref p] ∧ SqL X.K H p ys ∧ ∀ l, H l = none → Q (.ref l) (upd H l (.lst ys))) := CallR.imp call_list_of fun _ _ _ ⟨p, ys, e, h, q⟩ => ⟨p, ys, e, .inl h, q⟩
theorem call_listT : CallR X (.type "list") (fun xs H Q => ∃ p ys, xs = [.ref p] ∧ SqT X.K H p ys ∧ ∀ l, H l = none → Q (.ref l) (upd H l (.lst ys))) := CallR.imp call_list_of fun _ _ _ ⟨p, ys, e, h, q⟩ => ⟨p, ys, e, .inr h, q⟩
theorem call_tupleL : CallR X (.type "tuple") (fun xs H Q => ∃ p ys, xs = [.ref p] ∧ SqL X.K H p ys ∧ ∀ l, H l = none → Q (.ref l) (upd H l (.tup ys))) := CallR.imp call_tuple_of fun _ _ _ ⟨p, ys, e, h, q⟩ => ⟨p, ys, e, .inl ⟨h, q⟩⟩
end
/-! ### small things -/
theorem kv_r (s : Str) : kV (Sum.inr s : Key) = .str s := rfl
theorem iteA {c : Bool} {A B : Prop} (h1 : c = true → A) (h2 : c = false → B) : if c = true then A else B := by
  cases c with
  | true => exact iteT (h1 rfl)
  | false => exact iteF (h2 rfl)
theorem iteD {c : Prop} [Decidable c] {A B : Prop} (h1 : c → A) (h2 : ¬ c → B) : if decide c = true then A else B := ite2 (fun e => h1 (of_decide_eq_true e)) (fun e => h2 fun z => e (decide_eq_true z))
theorem iteND {c : Prop} [Decidable c] {A B : Prop} (h1 : ¬ c → A) (h2 : c → B) : if (!decide c) = true then A else B := ite2 (fun e => h1 (by simpa using e)) (fun e => h2 (by simpa using e))
theorem small {n : Nat} (h : n ≤ 100000) : n ≤ sizeLine := Nat.le_trans h (by decide)
theorem smallLt {n : Nat} (h : n < 100000) : n < sizeLine := Nat.lt_of_lt_of_le h (by decide)
theorem nodupPair {a b : Str} (h : a ≠ b) : (Sum.inr a : Key) ≠ Sum.inr b := fun z => h (Sum.inr.inj z)

/-- a statement, then a word that holds behind it, then the rest -/
def tCut (t u : TS) : TS := fun D σ H => ∃ W : L2.St → Hp → Prop, t { D with nx := W } σ H ∧ ∀ σ' H', W σ' H' → u D σ' H'
theorem pss_cut {X : Cx} {st : Stmt} {rest : List Stmt} {t u : TS} (h1 : PS X st t) (h2 : PSs X rest u) : PSs X (st :: rest) (tCut t u) := by
  refine ⟨fun pins s σ H D I h => ?_⟩
  obtain ⟨W, ht, hu⟩ := h
  refine wpAny_execs_cons (thn (h1.run pins s σ H { D with nx := W } I ht) fun f s1 q => ?_)
  cases f with
  | next =>
    obtain ⟨σ', H', I', q⟩ := q
    exact h2.run pins s1 σ' H' D I' (hu _ _ q)
  | ret v => exact q
  | brk => exact q
  | cont => exact q
theorem tyL {K : PySem.W.Frag} {H : Hp} {a : Addr} {xs : List V} (h : H a = some (.lst xs)) : tyV K "list" (.ref a) H := .inl ⟨rfl, _, .inl (.inl h)⟩
/-- a word: the steps stop at it -/
structure Wd (p : Prop) : Prop where
  get : p
theorem upd_int {H : Hp} {o : Addr} {rs : List Int} {x : Int} : upd H o (.lst (rs.map V.int ++ [V.int x])) o = some (.lst ((rs ++ [x]).map V.int)) := by
  rw [upd_same, List.map_append]
  rfl
/-- ranges of a few turns -/
def iRn1 (ta : TA) : TI := fun σ H R => ta σ H fun vs H1 => ∃ j : Int, vs = [.int j] ∧ -1000000 ≤ j ∧ j ≤ 1000000 ∧ R (Itr 0 j.toNat) H1
def iRn2 (ta : TA) : TI := fun σ H R => ta σ H fun vs H1 => ∃ i j : Int, vs = [.int i, .int j] ∧ -1000000 ≤ i ∧ i ≤ 1000000 ∧ -1000000 ≤ j ∧ j ≤ 1000000 ∧ R (Itr i (j - i).toNat) H1
theorem PA.imp {X : Cx} {es : List Expr} {t t' : TA} (h : PA X es t) (i : ∀ σ H Q, t' σ H Q → t σ H Q) : PA X es t' := ⟨fun pos pins s σ H Q I q => h.run pos pins s σ H Q I (i _ _ _ q)⟩
theorem PI.imp {X : Cx} {tg iter : Expr} {w w' : TI} (h : PI X tg iter w) (i : ∀ σ H R, w' σ H R → w σ H R) : PI X tg iter w' := ⟨fun pins s σ H R I q => h.run pins s σ H R I (i _ _ _ q)⟩
/-- arguments read, then weakened -/
theorem PA.clo {X : Cx} {es : List Expr} {t : TA} (h : PA X es t) : PA X es (fun σ H Q => ∃ Q0, t σ H Q0 ∧ ∀ vs H', Q0 vs H' → Q vs H') := ⟨fun pos pins s σ H Q I ⟨Q0, q, i⟩ =>
  thn (h.run pos pins s σ H Q0 I q) fun us s1 ⟨vs, H1, I1, r1, q1⟩ => ⟨vs, H1, I1, r1, i _ _ q1⟩⟩
theorem p62 {j : Int} (h1 : -1000000 ≤ j) (h2 : j ≤ 1000000) : -(2 ^ 62) ≤ j ∧ j < 2 ^ 62 := ⟨Int.le_trans (by decide) h1, Int.lt_of_le_of_lt h2 (by decide)⟩
theorem pi_rn1 {X : Cx} {tg a : Expr} {ta : TA} {p pos : Pos} (hg : Gl X "range") (hm : X.mg "range" = none) (ha : PA X [a] ta) (hs : starEach [a] X.env = [(false, eval a X.env)] := by rfl) : PI X tg (.Call (.Name "range" p) [a] [] pos) (iRn1 ta) :=
  PI.imp (pi_range1 hg hm (PA.clo ha) hs) fun σ H R q => ⟨_, q, fun vs H' ⟨j, e, h1, h2, r⟩ => ⟨j, e, (p62 h1 h2).1, (p62 h1 h2).2, r⟩⟩
theorem pi_rn2 {X : Cx} {tg a b : Expr} {ta : TA} {p pos : Pos} (hg : Gl X "range") (hm : X.mg "range" = none) (ha : PA X [a, b] ta) (hs : starEach [a, b] X.env = [(false, eval a X.env), (false, eval b X.env)] := by rfl) (hs2 : starEach [b] X.env = [(false, eval b X.env)] := by rfl) : PI X tg (.Call (.Name "range" p) [a, b] [] pos) (iRn2 ta) :=
  PI.imp (pi_range2 hg hm (PA.clo ha) hs hs2) fun σ H R q => ⟨_, q, fun vs H' ⟨i, j, e, h1, h2, h3, h4, r⟩ => ⟨i, j, e, ⟨(p62 h1 h2).1, (p62 h1 h2).2, (p62 h3 h4).1, (p62 h3 h4).2⟩, r⟩⟩
/-! ### tests and bools whose parts change nothing -/
def AnsT (t : TT) (σ : L2.St) (H : Hp) (b : Bool) : Prop := ∀ Q : Bool → Hp → Prop, Q b H → t σ H Q
def ValE (t : TE) (σ : L2.St) (H : Hp) (v : V) : Prop := ∀ Q : VK, Q v H → t σ H Q
def tAnd2 (t u : TT) : TT := fun σ H Q => ∃ b1 b2, AnsT t σ H b1 ∧ (b1 = true → AnsT u σ H b2) ∧ Q (b1 && b2) H
def tOr2 (t u : TT) : TT := fun σ H Q => ∃ b1 b2, AnsT t σ H b1 ∧ (b1 = false → AnsT u σ H b2) ∧ Q (b1 || b2) H
def tAndV2 (t u : TE) : TE := fun σ H Q => ∃ b1 b2, ValE t σ H (.bl b1) ∧ (b1 = true → ValE u σ H (.bl b2)) ∧ Q (.bl (b1 && b2)) H
def tOrV2 (t u : TE) : TE := fun σ H Q => ∃ b1 b2, ValE t σ H (.bl b1) ∧ (b1 = false → ValE u σ H (.bl b2)) ∧ Q (.bl (b1 || b2)) H
def tChain2 (r r' : R2) (ta tb tc : TE) : TE := fun σ H Q => ∃ b1 b2 x y z, ValE ta σ H x ∧ ValE tb σ H y ∧ (∀ Q : VK, Q (.bl b1) H → r x y H Q) ∧ (b1 = true → ValE tc σ H z ∧ ∀ Q : VK, Q (.bl b2) H → r' y z H Q) ∧ Q (.bl (b1 && b2)) H
section
variable {X : Cx} {a b c : Expr} {rest : List Expr} {tA tB' : TT} {ta tb tc : TE} {pos : Pos}
theorem PW.imp {e : Expr} {t t' : TT} (h : PW X e t) (i : ∀ σ H Q, t' σ H Q → t σ H Q) : PW X e t' := ⟨fun wh pins s σ H Q I q => h.run wh pins s σ H Q I (i _ _ _ q)⟩
theorem PT.imp {e : Expr} {t t' : TT} (h : PT X e t) (i : ∀ σ H Q, t' σ H Q → t σ H Q) : PT X e t' := ⟨fun pins s σ H Q I q => h.run pins s σ H Q I (i _ _ _ q)⟩
theorem PE.imp {e : Expr} {t t' : TE} (h : PE X e t) (i : ∀ σ H Q, t' σ H Q → t σ H Q) : PE X e t' := ⟨fun pins s σ H Q I q => h.run pins s σ H Q I (i _ _ _ q)⟩
theorem pw_and2 (ha : PT X a tA) (hb : PW X (.BoolOp .And (b :: rest) pos) tB') : PW X (.BoolOp .And (a :: b :: rest) pos) (tAnd2 tA tB') :=
  PW.imp (pw_and ha hb) fun σ H Q ⟨b1, b2, h1, h2, q⟩ => h1 _ (by
    cases b1 with
    | true => exact iteT (h2 rfl _ q)
    | false => exact iteF q)
theorem pw_or2 (ha : PT X a tA) (hb : PW X (.BoolOp .Or (b :: rest) pos) tB') : PW X (.BoolOp .Or (a :: b :: rest) pos) (tOr2 tA tB') :=
  PW.imp (pw_or ha hb) fun σ H Q ⟨b1, b2, h1, h2, q⟩ => h1 _ (by
    cases b1 with
    | true => exact iteT q
    | false => exact iteF (h2 rfl _ q))
theorem pe_and2 (ha : PE X a ta) (hb : PE X (.BoolOp .And (b :: rest) pos) tb) : PE X (.BoolOp .And (a :: b :: rest) pos) (tAndV2 ta tb) :=
  PE.imp (pe_and ha hb) fun σ H Q ⟨b1, b2, h1, h2, q⟩ => h1 _ ⟨b1, rfl, by
    cases b1 with
    | true => exact iteT (h2 rfl _ q)
    | false => exact iteF q⟩
theorem pe_or2 (ha : PE X a ta) (hb : PE X (.BoolOp .Or (b :: rest) pos) tb) : PE X (.BoolOp .Or (a :: b :: rest) pos) (tOrV2 ta tb) :=
  PE.imp (pe_or ha hb) fun σ H Q ⟨b1, b2, h1, h2, q⟩ => h1 _ ⟨b1, rfl, by
    cases b1 with
    | true => exact iteT q
    | false => exact iteF (h2 rfl _ q)⟩
theorem chain2_imp {r r' : R2} {σ : L2.St} {H : Hp} {Q : VK} (h : tChain2 r r' ta tb tc σ H Q) : tChain r r' ta tb tc σ H Q := by
  obtain ⟨b1, b2, x, y, z, h1, h2, h3, h4, q⟩ := h
  refine h1 _ (h2 _ (h3 _ ⟨b1, rfl, ?_⟩))
  cases b1 with
  | true => exact iteT ((h4 rfl).1 _ ((h4 rfl).2 _ q))
  | false => exact iteF q
theorem pe_chain2 {op op' : CmpOp} {r r' : R2} (ho : OpR X (compareOp op) r) (ho' : OpR X (compareOp op') r') (ha : PE X a ta) (hb : PE X b tb) (hc : PE X c tc)
    (hm : lastMarks [op, op'] [b, c] = false := by with_unfolding_all rfl) : PE X (.Compare a [op, op'] [b, c] pos) (tChain2 r r' ta tb tc) := PE.imp (pe_chain ho ho' ha hb hc hm) fun _ _ _ q => chain2_imp q
theorem pt_chain2 {op op' : CmpOp} {r r' : R2} (ho : OpR X (compareOp op) r) (ho' : OpR X (compareOp op') r') (ha : PE X a ta) (hb : PE X b tb) (hc : PE X c tc)
    (hm : lastMarks [op, op'] [b, c] = false := by with_unfolding_all rfl) : PT X (.Compare a [op, op'] [b, c] pos) (tTest (tChain2 r r' ta tb tc)) := PT.imp (pt_chain ho ho' ha hb hc hm) fun _ _ _ q => chain2_imp q
/-- a list's truth -/
theorem pt_truthL (ha : PE X a ta) (he : ∀ whole, isTrue a X.env whole = (do let v ← whole; standAt a.pos; holding [v] (truthy v)) := by intro _; rfl) :
    PT X a (fun σ H Q => ∃ p xs, ValE ta σ H (.ref p) ∧ SqL X.K H p xs ∧ Q (!xs.isEmpty) H) :=
  PT.imp (pt_truth ha he) fun σ H Q ⟨p, xs, h1, h2, q⟩ => h1 _ ⟨_, .inl ⟨xs, h2, rfl⟩, q⟩
end
theorem u65 {k : Nat} {A : Around} (r : Room k A) : A.units + 65 < cLine := by have := r.un; omega
theorem andP {c d : Prop} [Decidable c] [Decidable d] : (decide c && decide d) = decide (c ∧ d) := by simp
theorem orP {c d : Prop} [Decidable c] [Decidable d] : (decide c || decide d) = decide (c ∨ d) := by simp
theorem iteAD {c d A B : Prop} [Decidable c] [Decidable d] (h1 : c → d → A) (h2 : ¬ (c ∧ d) → B) : if (decide c && decide d) = true then A else B := by
  rw [andP]
  exact iteD (fun e => h1 e.1 e.2) h2
theorem iteOD {c d A B : Prop} [Decidable c] [Decidable d] (h1 : c ∨ d → A) (h2 : ¬ c → ¬ d → B) : if (decide c || decide d) = true then A else B := by
  rw [orP]
  exact iteD h1 (fun e => h2 (fun z => e (.inl z)) fun z => e (.inr z))
/-- for i, x in enumerate(xs), the list as it was -/
theorem for_enum {K : PySem.W.Frag} {a : Addr} {xs : List V} {g : TG} {tb : TS} {D : Ends} {σ : L2.St} {H : Hp} (Pv : Nat → L2.St → Hp → Prop) (h0 : Pv 0 σ H) (hl : ∀ i σ H, i ≤ xs.length → Pv i σ H → SqL K H a xs)
    (hs : ∀ i x T σ H, xs[i]? = some x → Pv i σ H → H T = none → g (.ref T) σ (upd H T (.tup [.int (i : Nat), x])) fun σ2 H2 => tb { D with nx := Pv (i + 1), ct := Pv (i + 1), bk := D.nx } σ2 H2) (hd : ∀ σ H, Pv xs.length σ H → D.nx σ H) :
    ∃ W : Nat → Nat → L2.St → Hp → Prop, (∃ m, W 0 m σ H) ∧ ∀ i m σ H, W i m σ H →
      ((Ite K a).stop i H ∧ D.nx σ H) ∨ ((Ite K a).go i H ∧ ∃ N : L2.St → Hp → Prop, (∀ σ' H', N σ' H' → ∃ m', m' < m ∧ W (i + 1) m' σ' H') ∧ ∀ x H', (Ite K a).yld i H x H' → g x σ H' fun σ2 H2 => tb { D with nx := N, ct := N, bk := D.nx } σ2 H2) := by
  refine ⟨fun i m σ H => m = xs.length - i ∧ i ≤ xs.length ∧ Pv i σ H, ⟨xs.length, by simp, Nat.zero_le _, h0⟩, ?_⟩
  rintro i m σ H ⟨rfl, hi, p⟩
  have q := hl i σ H hi p
  by_cases hlt : i < xs.length
  · refine .inr ⟨⟨xs, xs[i], q, by simp [hlt]⟩, Pv (i + 1), fun σ' H' p' => ⟨xs.length - (i + 1), by omega, rfl, hlt, p'⟩, fun x H' y => ?_⟩
    obtain ⟨T, z, rfl, nT, rfl, y⟩ := y
    exact hs i z T σ _ (y xs q) p nT
  · have e : i = xs.length := by omega
    subst e
    exact .inl ⟨⟨xs, q, Nat.le_refl _⟩, hd σ H p⟩
theorem iteY {c : Bool} {A B : Prop} (h : c = true) (q : A) : if c = true then A else B := by rw [h]; exact iteT q
theorem iteN {c : Bool} {A B : Prop} (h : c = false) (q : B) : if c = true then A else B := by rw [h]; exact iteF q
theorem dstrY {a : Str} : decide (V.str a = V.str a) = true := decide_eq_true rfl
theorem dstrN {a b : Str} (h : ¬ a = b) : decide (V.str a = V.str b) = false := decide_eq_false fun z => h (V.str.inj z)
/-- isinstance(x, T), T a built-in class -/
structure Kit (S T : String) (b : Bool) : Prop where
  eq : kitB S T = some b
def rIs (K : PySem.W.Frag) : List V → Hp → VK → Prop := fun xs H Q => ∃ (x : V) (T S : String) (b : Bool), xs = [x, .ty T] ∧ TyX K H x (.type S) ∧ Kit S T b ∧ Q (.bl b) H
theorem call_is {X : Cx} : CallR X (.builtin "isinstance") (rIs X.K) := CallR.imp call_isi fun xs H Q ⟨x, T, S, b, e, h1, h2, q⟩ => ⟨x, .ty T, .type S, .type T, b, e, .ty T, h1, kit_ty h2.eq, q⟩
theorem kit_ll : Kit "list" "list" true := ⟨by decide +kernel⟩
theorem kit_tt : Kit "tuple" "tuple" true := ⟨by decide +kernel⟩
theorem kit_ss : Kit "str" "str" true := ⟨by decide +kernel⟩
theorem kit_ib : Kit "int" "bool" false := ⟨by decide +kernel⟩
theorem kit_ii : Kit "int" "int" true := ⟨by decide +kernel⟩
theorem kit_bb : Kit "bool" "bool" true := ⟨by decide +kernel⟩
theorem cut_take {xs : List V} {n : Nat} : cutV xs none (some (n : Int)) = xs.take n := by
  unfold cutV
  rw [HT.sIx_nat, HT.sIx_none, List.drop_zero, Nat.sub_zero]
  by_cases h : n ≤ xs.length
  · rw [Nat.min_eq_left h]
  · rw [Nat.min_eq_right (by omega), List.take_of_length_le (Nat.le_refl _), List.take_of_length_le (by omega)]
theorem cut_drop {xs : List V} {n : Nat} : cutV xs (some (n : Int)) none = xs.drop n := by
  unfold cutV
  rw [HT.sIx_nat, HT.sIx_none]
  by_cases h : n ≤ xs.length
  · rw [Nat.min_eq_left h, List.take_of_length_le (by rw [List.length_drop]; exact Nat.le_refl _)]
  · rw [Nat.min_eq_right (by omega), List.drop_of_length_le (Nat.le_refl _), List.drop_of_length_le (by omega)]
    exact List.take_nil
/-- a def that calls itself: its own name -/
structure Slf (K : PySem.W.Frag) (mg : Str → Option Value) (x : Str) (f : Addr) (fd : FuncData) (ps : List Str) : Prop where
  g : mg x = some (.ref f)
  k : PySem.W.keepIn K (.ref f) = true
  b : Binds K fd ps []
/-! ### the steps: hs (what stands at an address), ne (two addresses), kp (what is left), sd (a side question), st (one place of a reading) -/
local macro_rules | `(tactic| walk_at "ne") => `(tactic| first
  | assumption
  | (apply Ne.symm; assumption)
  | (apply ne_of_none (h' := by assumption); walk_at "hs")
  | (apply Ne.symm; apply ne_of_none (h' := by assumption); walk_at "hs"))
local macro_rules | `(tactic| walk_at "hs") => `(tactic| first
  | assumption
  | exact upd_same
  | (refine Eq.trans (upd_ne ?_) ?_; (focus walk_at "ne"); walk_at "hs"))
local macro_rules | `(tactic| walk_at "kp") => `(tactic| first
  | assumption
  | exact Kp.refl _ _
  | (apply Kp.new (h := by assumption); walk_at "kp")
  | (apply Kp.own (h := by assumption); walk_at "kp")
  | (apply Kp.inn (h := List.mem_cons_self); walk_at "kp"))
local macro_rules | `(tactic| walk_at "sd") => `(tactic| first
  | ((with_reducible show _ = _); rfl)
  | ((with_reducible show (_ : Int) < _); omega)
  | ((with_reducible show (_ : Int) ≤ _); omega)
  | assumption
  | (apply SqL.of; walk_at "hs")
  | (apply tyL; walk_at "hs")
  | (apply SqT.of; walk_at "hs")
  | walk_at "hs"
  | exact kit_ll
  | exact kit_tt
  | exact kit_ss
  | exact kit_ib
  | exact kit_bb
  | omega
  | (apply small; (try simp only [List.length_append, List.length_cons, List.length_nil, List.length_map]); omega)
  | (apply smallLt; (try simp only [List.length_append, List.length_cons, List.length_nil, List.length_map]); omega)
  | (refine Or.inl ⟨?_, ?_⟩ <;> omega)
  | (refine Or.inr ⟨?_, ?_⟩ <;> omega)
  | (refine ⟨?_, ?_⟩ <;> omega)
  | (apply Kp.seq; rotate_left; assumption; walk_at "kp")
  | (apply Kp.sqt; rotate_left; assumption; walk_at "kp")
  | (apply Exists.intro; assumption)
  | (apply Exists.intro; apply Kp.seq; rotate_left; assumption; walk_at "kp")
  | (apply Exists.intro; apply Kp.sqt; rotate_left; assumption; walk_at "kp")
  | (apply Exists.intro; apply SqL.of; walk_at "hs")
  | (apply Exists.intro; apply SqT.of; walk_at "hs")
  | (show AnsT _ _ _ _; intro Qx qx; walk_at "st"; exact qx)
  | (show ValE _ _ _ _; intro Qx qx; walk_at "st"; exact qx)
  | (intro hx; show AnsT _ _ _ _; intro Qx qx; walk_at "st"; exact qx)
  | (intro hx; show ValE _ _ _ _; intro Qx qx; walk_at "st"; exact qx)
  | (intro hx; apply And.intro; (focus walk_at "sd"); intro Qx qx; walk_at "st"; exact qx)
  | (intro Qx qx; walk_at "st"; exact qx)
  | decide)
local macro_rules | `(tactic| walk_at "st1") => `(tactic| first
  | (apply And.intro; (focus walk_at "sd"))
  | apply Exists.intro)
local macro_rules | `(tactic| walk_at "st") => `(tactic| repeat (
  (fail_if_success show ∃ W : Nat → Nat → L2.St → Hp → Prop, _)
  (fail_if_success show ∃ W : Nat → Nat → Hp → Prop, _)
  (fail_if_success show ∃ W : Nat → L2.St → Hp → Prop, _)
  (fail_if_success show ∃ W : L2.St → Hp → Prop, _)
  walk_at "st1"))
/-! ### the box of draws: what a law draws its input from -/
def kRow : Key := .inr "row"
def kAt : Key := .inr "at"
theorem kRA : ¬ kRow = kAt := fun z => absurd (Sum.inr.inj z) (by decide +kernel)
def boxD (r : Addr) (n : Int) : List (Key × V) := [(kRow, .ref r), (kAt, .int n)]
theorem box_row (r : Addr) (n : Int) : valV (boxD r n) kRow = some (.ref r) := valV_pos rfl
theorem box_at (r : Addr) (n : Int) : valV (boxD r n) kAt = some (.int n) := (valV_neg kRA).trans (valV_pos rfl)
theorem box_put (r : Addr) (n m : Int) : putK (boxD r n) kAt (.int m) = boxD r m := by
  unfold putK boxD
  simp [kRA]
/-- the box stands at b: its numbers, none empty -/
structure BoxAt (H : Hp) (b r : Addr) : Prop where
  ex : ∃ (rs : List Int) (n : Int), H b = some (.dK (boxD r n)) ∧ H r = some (.lst (rs.map V.int)) ∧ 0 < rs.length ∧ rs.length ≤ 1000 ∧ 0 ≤ n
theorem BoxAt.kp {H H' : Hp} {b r : Addr} (x : BoxAt H b r) (k : Kp [] H H') : BoxAt H' b r := by
  obtain ⟨rs, n, h1, h2, h3⟩ := x.ex
  exact ⟨rs, n, k.at0 h1, k.at0 h2, h3⟩
/-- a new object, or one that is neither, changes -/
theorem BoxAt.upd {H : Hp} {b r p : Addr} {o : HO} (x : BoxAt H b r) (h1 : p ≠ b) (h2 : p ≠ r) : BoxAt (upd H p o) b r := by
  obtain ⟨rs, n, e1, e2, h3⟩ := x.ex
  exact ⟨rs, n, by rw [upd_ne h1.symm]; exact e1, by rw [upd_ne h2.symm]; exact e2, h3⟩
theorem BoxAt.neb {H : Hp} {b r p : Addr} (x : BoxAt H b r) (h : H p = none) : p ≠ b := by
  obtain ⟨rs, n, e1, e2, h3⟩ := x.ex
  exact (ne_of_none e1 h).symm
theorem BoxAt.ner {H : Hp} {b r p : Addr} (x : BoxAt H b r) (h : H p = none) : p ≠ r := by
  obtain ⟨rs, n, e1, e2, h3⟩ := x.ex
  exact (ne_of_none e2 h).symm
theorem BoxAt.nin {H : Hp} {b r p : Addr} (x : BoxAt H b r) (h : H p = none) : p ∉ [b] := nin1 (x.neb h)
theorem BoxAt.tupin {H : Hp} {b r p : Addr} {xs : List V} (x : BoxAt H b r) (h : H p = some (.tup xs)) : p ∉ [b] := by
  obtain ⟨rs, n, e1, e2, h3⟩ := x.ex
  exact nin1 (ne_of h e1 (by intro z; cases z))
theorem BoxAt.lstin {H : Hp} {b r p : Addr} {xs : List V} (x : BoxAt H b r) (h : H p = some (.lst xs)) : p ∉ [b] := by
  obtain ⟨rs, n, e1, e2, h3⟩ := x.ex
  exact nin1 (ne_of h e1 (by intro z; cases z))
/-- a drawn number below m -/
def sp__law_next : Sp := fun vs H Q _ => ∃ (b r : Addr) (m : Int), vs = [.ref b, .int m] ∧ 0 < m ∧ m < 1073741824 ∧ BoxAt H b r ∧ ∀ (v : Int) (H' : Hp), 0 ≤ v → v < m → BoxAt H' b r → Kp [b] H H' → Q (.int v) H'
/-- labels: three numbers from 1 to 3, a new tuple -/
def Lab (a b c : Int) : Prop := 1 ≤ a ∧ a ≤ 3 ∧ 1 ≤ b ∧ b ≤ 3 ∧ 1 ≤ c ∧ c ≤ 3
def sp__law_labels : Sp := fun vs H Q _ => ∃ b r : Addr, vs = [.ref b] ∧ BoxAt H b r ∧
  ∀ (p : Addr) (H' : Hp) (x y z : Int), Lab x y z → H' p = some (.tup [.int x, .int y, .int z]) → H p = none → BoxAt H' b r → Kp [b] H H' → Q (.ref p) H'
/-- so many drawn numbers, a new list -/
def sp__law_draws : Sp := fun vs H Q _ => ∃ c m k : Int, vs = [.int c, .int m, .int k] ∧ 0 < m ∧ m < 1073741824 ∧ 0 ≤ k ∧ k ≤ 1000 ∧
  ∀ (p : Addr) (H' : Hp) (rs : List Int), (rs.length : Int) = k → H p = none → H' p = some (.lst (rs.map V.int)) → Kp [] H H' → Q (.ref p) H'
/-- a new box from the script -/
def sp__law_box (K : PySem.W.Frag) : Sp := fun vs H Q _ => ∃ (a : Addr) (ns : List Int), vs = [.ref a] ∧ SqL K H a (ns.map V.int) ∧ ns.length ≤ 63 ∧
  ∀ (b r : Addr) (H' : Hp), BoxAt H' b r → H b = none → Kp [] H H' → Q (.ref b) H'
/-! ### places and texts, as data -/
inductive Pl | let_ (a : Int) | cal (a : Int) | ret (a : Int)
  deriving DecidableEq, Inhabited
def Pl.kind : Pl → Str
  | .let_ _ => "letter" | .cal _ => "call" | .ret _ => "return"
def Pl.lab : Pl → Int
  | .let_ a => a | .cal a => a | .ret a => a
def Pl.vs (p : Pl) : List V := [.str p.kind, .int p.lab]
def Pl.py (p : Pl) : PyData := .tuple [.str p.kind, .int p.lab]
def pyT (t : List Pl) : PyData := .list (t.map Pl.py)
theorem kLC : ¬ (("letter" : Str) = "call") := by decide +kernel
theorem kLR : ¬ (("letter" : Str) = "return") := by decide +kernel
theorem kCR : ¬ (("call" : Str) = "return") := by decide +kernel
theorem Pl.ext_ {p q : Pl} (h1 : p.kind = q.kind) (h2 : p.lab = q.lab) : p = q := by
  cases p <;> cases q <;> simp only [Pl.kind, Pl.lab] at h1 h2 <;> first
    | (subst h2; rfl; done)
    | exact absurd h1 kLC
    | exact absurd h1 kLR
    | exact absurd h1 kCR
    | exact absurd h1.symm kLC
    | exact absurd h1.symm kLR
    | exact absurd h1.symm kCR
theorem eqv_pl (p q : Pl) : PyData.eqv p.py q.py = decide (p = q) := by
  unfold Pl.py
  by_cases h : p = q
  · subst h; simp [PyData.eqv, PyData.eqvAll]
  · rw [decide_eq_false h]
    simp only [PyData.eqv, PyData.eqvAll, Bool.and_true]
    by_cases h1 : p.kind = q.kind
    · have h2 : ¬ p.lab = q.lab := fun z => h (Pl.ext_ h1 z)
      simp [h2]
    · simp [h1]
theorem eqvAll_pl : ∀ (t u : List Pl), PyData.eqvAll (t.map Pl.py) (u.map Pl.py) = decide (t = u)
  | [], [] => rfl
  | [], _ :: _ => by simp [PyData.eqvAll]
  | _ :: _, [] => by simp [PyData.eqvAll]
  | p :: t, q :: u => by
    simp only [List.map_cons, PyData.eqvAll, eqv_pl, eqvAll_pl t u]
    by_cases h1 : p = q <;> by_cases h2 : t = u <;> simp [h1, h2]
theorem eqv_t (t u : List Pl) : PyData.eqv (pyT t) (pyT u) = decide (t = u) := by
  unfold pyT
  rw [PyData.eqv]
  exact eqvAll_pl t u
theorem strOk_kind (p : Pl) : PyData.strOk p.kind = true := by cases p <;> (show PyData.strOk _ = true; simp only [Pl.kind]; decide +kernel)
theorem canLay_pl (p : Pl) : p.py.canLay0 = true := by simp [Pl.py, PyData.canLay0, PyData.canLayAll0, strOk_kind]
theorem canLayAll_pl : ∀ t : List Pl, PyData.canLayAll0 (t.map Pl.py) = true
  | [] => by simp [PyData.canLayAll0]
  | p :: t => by simp [PyData.canLayAll0, canLay_pl, canLayAll_pl t]
theorem depth_pl (p : Pl) : p.py.depth ≤ 2 := by simp [Pl.py, PyData.depth, PyData.depthAll]
theorem depthAll_pl : ∀ t : List Pl, PyData.depthAll (t.map Pl.py) ≤ 2
  | [] => by simp [PyData.depthAll]
  | p :: t => by
    have h1 := depth_pl p
    have h2 := depthAll_pl t
    simp only [List.map_cons, PyData.depthAll]
    omega
theorem shaped_pl (p : Pl) : SeqAt.shaped p.py = true := by
  have h := depth_pl p
  unfold SeqAt.shaped
  rw [canLay_pl, decide_eq_true (show p.py.depth ≤ 64 by omega)]
  rfl
theorem shaped_t (t : List Pl) : SeqAt.shaped (pyT t) = true := by
  have h := depthAll_pl t
  unfold SeqAt.shaped
  have h1 : (pyT t).canLay0 = true := by
    unfold pyT
    rw [PyData.canLay0]
    exact canLayAll_pl t
  have h2 : (pyT t).depth ≤ 64 := by
    unfold pyT
    rw [PyData.depth]
    omega
  rw [h1, decide_eq_true h2]
  rfl
/-! ### tuples stay -/
def TK (H H' : Hp) : Prop := ∀ a xs, H a = some (.tup xs) → H' a = some (.tup xs)
theorem TK.refl (H : Hp) : TK H H := fun _ _ h => h
theorem TK.trans {H H1 H2 : Hp} (x : TK H H1) (y : TK H1 H2) : TK H H2 := fun a xs h => y a xs (x a xs h)
theorem TK.kp {H H' : Hp} (k : Kp [] H H') : TK H H' := fun _ _ h => k.at0 h
theorem TK.new {H : Hp} {p : Addr} {o : HO} (h : H p = none) : TK H (upd H p o) := fun a xs e => by
  rw [upd_ne (ne_of_none e h)]; exact e
theorem TK.lst {H : Hp} {p : Addr} {o : HO} {ys : List V} (h : H p = some (.lst ys)) : TK H (upd H p o) := fun a xs e => by
  rw [upd_ne (ne_of e h (by intro z; cases z))]; exact e
theorem TK.box {H H' : Hp} {b r : Addr} (hb : BoxAt H b r) (k : Kp [b] H H') : TK H H' := fun a xs e => by
  obtain ⟨rs, n, h1, _⟩ := hb.ex
  exact k.at_ e (nin1 (ne_of e h1 (by intro z; cases z)))
theorem TK.new' {H H1 : Hp} {p : Addr} {o : HO} (x : TK H H1) (h : H1 p = none) : TK H (upd H1 p o) := x.trans (.new h)
theorem TK.lst' {H H1 : Hp} {p : Addr} {o : HO} {ys : List V} (x : TK H H1) (h : H1 p = some (.lst ys)) : TK H (upd H1 p o) := x.trans (.lst h)
local macro_rules | `(tactic| walk_at "tk") => `(tactic| first
  | exact TK.refl _
  | assumption
  | (apply TK.new' (h := by assumption); walk_at "tk")
  | (apply TK.lst'; (focus walk_at "tk"); (focus walk_at "hs")))
/-- a place at a value -/
def PlV (H : Hp) (v : V) (p : Pl) : Prop := ∃ a, v = .ref a ∧ H a = some (.tup p.vs)
theorem PlV.tk {H H' : Hp} {v : V} {p : Pl} (h : PlV H v p) (k : TK H H') : PlV H' v p := by
  obtain ⟨a, e, h⟩ := h
  exact ⟨a, e, k _ _ h⟩
theorem Pd.tk {H H' : Hp} {vs : List V} {t : List Pl} (h : Paired (PlV H) vs t) (k : TK H H') : Paired (PlV H') vs t := Paired.mapP h fun _ _ q => q.tk k
theorem Pd.app {α β : Type} {F : α → β → Prop} : ∀ {a c : List α} {b d : List β}, Paired F a b → Paired F c d → Paired F (a ++ c) (b ++ d)
  | _, _, _, _, .nil, h => h
  | _, _, _, _, .cons r t, h => .cons r (Pd.app t h)
theorem Pd.take {α β : Type} {F : α → β → Prop} : ∀ {a : List α} {b : List β} (n : Nat), Paired F a b → Paired F (a.take n) (b.take n)
  | _, _, 0, _ => .nil
  | _, _, _ + 1, .nil => .nil
  | _, _, n + 1, .cons r t => .cons r (Pd.take n t)
theorem Pd.drop {α β : Type} {F : α → β → Prop} : ∀ {a : List α} {b : List β} (n : Nat), Paired F a b → Paired F (a.drop n) (b.drop n)
  | _, _, 0, r => r
  | _, _, _ + 1, .nil => .nil
  | _, _, n + 1, .cons _ t => Pd.drop n t
theorem Pd.set {α β : Type} {F : α → β → Prop} {x : α} {y : β} (h : F x y) : ∀ {a : List α} {b : List β} (n : Nat), Paired F a b → Paired F (a.set n x) (b.set n y)
  | _, _, _, .nil => .nil
  | _, _, 0, .cons _ t => .cons h t
  | _, _, n + 1, .cons r t => .cons r (Pd.set h n t)
theorem Pd.get {α β : Type} {F : α → β → Prop} : ∀ {a : List α} {b : List β} {i : Nat} {x : α}, Paired F a b → a[i]? = some x → ∃ y, b[i]? = some y ∧ F x y
  | _, _, _, _, .nil, e => by simp at e
  | _, _, 0, _, .cons r _, e => by simp at e; subst e; exact ⟨_, rfl, r⟩
  | _, _, i + 1, x, .cons _ t, e => by
    obtain ⟨u, h1, h2⟩ := Pd.get (i := i) (x := x) t (by simpa using e)
    exact ⟨u, by simpa using h1, h2⟩
theorem Pd.get' {α β : Type} {F : α → β → Prop} : ∀ {a : List α} {b : List β} {i : Nat} {y : β}, Paired F a b → b[i]? = some y → ∃ x, a[i]? = some x ∧ F x y
  | _, _, _, _, .nil, e => by simp at e
  | _, _, 0, _, .cons r _, e => by simp at e; subst e; exact ⟨_, rfl, r⟩
  | _, _, i + 1, y, .cons _ t, e => by
    obtain ⟨u, h1, h2⟩ := Pd.get' (i := i) (y := y) t (by simpa using e)
    exact ⟨u, by simpa using h1, h2⟩
/-- a text at an address: a list of places -/
structure TxtAt (K : PySem.W.Frag) (H : Hp) (a : Addr) (t : List Pl) : Prop where
  ex : ∃ vs, SqL K H a vs ∧ Paired (PlV H) vs t
theorem TxtAt.kp {K : PySem.W.Frag} {H H' : Hp} {a : Addr} {t : List Pl} (h : TxtAt K H a t) (k : Kp [] H H') : TxtAt K H' a t := by
  obtain ⟨vs, h1, h2⟩ := h.ex
  exact ⟨vs, k.seq h1, Pd.tk h2 (.kp k)⟩
theorem dp_pl {K : PySem.W.Frag} {H : Hp} {v : V} {p : Pl} (h : PlV H v p) : Dp K H v p.py := by
  obtain ⟨a, rfl, h⟩ := h
  exact .tup (SqT.of h) (.cons (.str _) (.cons (.int _) .nil))
theorem dp_pls {K : PySem.W.Frag} {H : Hp} : ∀ {vs : List V} {t : List Pl}, Paired (PlV H) vs t → DpAll K H vs (t.map Pl.py)
  | _, _, .nil => .nil
  | _, _, .cons r t => .cons (dp_pl r) (dp_pls t)
theorem TxtAt.dp {K : PySem.W.Frag} {H : Hp} {a : Addr} {t : List Pl} (h : TxtAt K H a t) : Dp K H (.ref a) (pyT t) := by
  obtain ⟨vs, h1, h2⟩ := h.ex
  exact .lst h1 (dp_pls h2)
/-! ### balance -/
/-- the height behind a row, from a height; none: a return that fits no call -/
def ht : List Pl → Nat → Option Nat
  | [], n => some n
  | .let_ _ :: r, n => ht r n
  | .cal _ :: r, n => ht r (n + 1)
  | .ret _ :: _, 0 => none
  | .ret _ :: r, n + 1 => ht r n
def Bal (t : List Pl) : Prop := ht t 0 = some 0
theorem ht_app : ∀ (s t : List Pl) (n : Nat), ht (s ++ t) n = (ht s n).bind (ht t)
  | [], _, _ => rfl
  | .let_ _ :: s, t, n => ht_app s t n
  | .cal _ :: s, t, n => ht_app s t (n + 1)
  | .ret _ :: _, _, 0 => rfl
  | .ret _ :: s, t, n + 1 => ht_app s t n
/-- each place has a label of its kind -/
def LabP (x y z : Int) : Pl → Prop
  | .let_ a => 0 ≤ a ∧ a < x
  | .cal a => 0 ≤ a ∧ a < y
  | .ret a => 0 ≤ a ∧ a < z
def LabT (x y z : Int) (t : List Pl) : Prop := ∀ p ∈ t, LabP x y z p
theorem LabT.snoc {x y z : Int} {t : List Pl} {p : Pl} (h : LabT x y z t) (q : LabP x y z p) : LabT x y z (t ++ [p]) := fun r hr => by
  rcases List.mem_append.mp hr with z | z
  · exact h r z
  · have e : r = p := by simpa using z
    rw [e]; exact q
/-- a drawn text: balanced, its labels, a new list -/
def sp__law_text (K : PySem.W.Frag) : Sp := fun vs H Q _ => ∃ (b r l : Addr) (x y z m : Int), vs = [.ref b, .ref l, .int m] ∧ BoxAt H b r ∧ H l = some (.tup [.int x, .int y, .int z]) ∧ Lab x y z ∧ 0 ≤ m ∧ m ≤ 1000 ∧
  ∀ (p : Addr) (H' : Hp) (vs' : List V) (t : List Pl), H' p = some (.lst vs') → Paired (PlV H') vs' t → Bal t → LabT x y z t → (t.length : Int) ≤ m → H p = none → BoxAt H' b r → Kp [b] H H' → Q (.ref p) H'
theorem dLC : decide (V.str ("letter" : Str) = V.str "call") = false := dstrN kLC
theorem dLR : decide (V.str ("letter" : Str) = V.str "return") = false := dstrN kLR
theorem dCR : decide (V.str ("call" : Str) = V.str "return") = false := dstrN kCR
theorem dRC : decide (V.str ("return" : Str) = V.str "call") = false := dstrN fun z => kCR z.symm
theorem dCL : decide (V.str ("call" : Str) = V.str "letter") = false := dstrN fun z => kLC z.symm
theorem dRL : decide (V.str ("return" : Str) = V.str "letter") = false := dstrN fun z => kLR z.symm
def sp_law (K : PySem.W.Frag) : Sp := fun vs H Q _ => ∃ (a : Addr) (ns : List Int), vs = [.ref a] ∧ SqL K H a (ns.map V.int) ∧ ns.length ≤ 63 ∧ ∀ H', Q (.bl true) H'
theorem kind3 (c : Int) (h0 : 0 ≤ c) (h1 : c < 3) : ∃ p : Pl, p.lab = 0 ∧ atI [V.str "letter", V.str "call", V.str "return"] c = some (.str p.kind) := by
  have h : c = 0 ∨ c = 1 ∨ c = 2 := by omega
  rcases h with rfl | rfl | rfl
  · exact ⟨.let_ 0, rfl, atI_nat (j := 0) rfl⟩
  · exact ⟨.cal 0, rfl, atI_nat (j := 1) rfl⟩
  · exact ⟨.ret 0, rfl, atI_nat (j := 2) rfl⟩
/-- a row that the program itself holds: a list of its own -/
structure RowAt (H : Hp) (a : Addr) (t : List Pl) : Prop where
  ex : ∃ vs, H a = some (.lst vs) ∧ Paired (PlV H) vs t
theorem RowAt.txt {K : PySem.W.Frag} {H : Hp} {a : Addr} {t : List Pl} (h : RowAt H a t) : TxtAt K H a t := by
  obtain ⟨vs, h1, h2⟩ := h.ex
  exact ⟨vs, SqL.of h1, h2⟩
theorem RowAt.kp {H H' : Hp} {a : Addr} {t : List Pl} (h : RowAt H a t) (k : Kp [] H H') : RowAt H' a t := by
  obtain ⟨vs, h1, h2⟩ := h.ex
  exact ⟨vs, k.at0 h1, Pd.tk h2 (.kp k)⟩
theorem RowAt.box {H H' : Hp} {a b r : Addr} {t : List Pl} (h : RowAt H a t) (hb : BoxAt H b r) (k : Kp [b] H H') : RowAt H' a t := by
  obtain ⟨vs, h1, h2⟩ := h.ex
  exact ⟨vs, k.at_ h1 (hb.lstin h1), Pd.tk h2 (.box hb k)⟩
theorem tk_snoc {α : Type} {t : List α} {i : Nat} {p : α} (h : t[i]? = some p) : t.take (i + 1) = t.take i ++ [p] := by
  rw [List.take_add_one, h]; rfl
def sp_check_labels_ok (K : PySem.W.Frag) : Sp := fun vs H Q _ => ∃ (l a : Addr) (x y z : Int) (t : List Pl), vs = [.ref l, .ref a] ∧ H l = some (.tup [.int x, .int y, .int z]) ∧ TxtAt K H a t ∧ LabT x y z t ∧ ∀ H', Kp [] H H' → Q .non H'
/-! ### the fault of a row -/
def flt : List Pl → Nat → List Nat → Option (Bool × Nat)
  | [], _, st => match st.getLast? with
    | none => none
    | some j => some (false, j)
  | .let_ _ :: r, i, st => flt r (i + 1) st
  | .cal _ :: r, i, st => flt r (i + 1) (i :: st)
  | .ret _ :: _, i, [] => some (true, i)
  | .ret _ :: r, i, _ :: st => flt r (i + 1) st
def fk (b : Bool) : Str := if b then "return" else "call"
def FltV (H : Hp) (v : V) : Option (Bool × Nat) → Prop
  | none => v = .non
  | some (b, j) => ∃ p, v = .ref p ∧ H p = some (.tup [.str (fk b), .int (j : Int)])
def fltPy : Option (Bool × Nat) → PyData
  | none => .none
  | some (b, j) => .tuple [.str (fk b), .int (j : Int)]
def natsV (st : List Nat) : List V := st.map fun (j : Nat) => V.int (j : Int)
theorem FltV.dp {K : PySem.W.Frag} {H : Hp} {v : V} {f : Option (Bool × Nat)} (h : FltV H v f) : Dp K H v (fltPy f) := by
  cases f with
  | none =>
    have e : v = .non := h
    rw [e]; exact .non
  | some bj =>
    obtain ⟨p, rfl, h⟩ := h
    exact .tup (SqT.of h) (.cons (.str _) (.cons (.int _) .nil))
theorem FltV.kp {H H' : Hp} {v : V} {f : Option (Bool × Nat)} (h : FltV H v f) (k : Kp [] H H') : FltV H' v f := by
  cases f with
  | none => exact h
  | some bj =>
    obtain ⟨p, e, h⟩ := h
    exact ⟨p, e, k.at0 h⟩
/-- a row's fault, the row as it was -/
def sp_fault_of (K : PySem.W.Frag) : Sp := fun vs H Q _ => ∃ (a : Addr) (t : List Pl), vs = [.ref a] ∧ TxtAt K H a t ∧ t.length ≤ 1000 ∧ ∀ (v : V) (H' : Hp), FltV H' v (flt t 0 []) → Kp [] H H' → Q v H'
def sp_is_balanced (K : PySem.W.Frag) : Sp := fun vs H Q _ => ∃ (a : Addr) (t : List Pl), vs = [.ref a] ∧ TxtAt K H a t ∧ t.length ≤ 1000 ∧ ∀ (H' : Hp), Kp [] H H' → Q (.bl (flt t 0 []).isNone) H'
/-! ### .. by heights -/
def dl : Pl → Int
  | .let_ _ => 0 | .cal _ => 1 | .ret _ => -1
def stk : List Pl → Nat → List Nat → Option (List Nat)
  | [], _, st => some st
  | .let_ _ :: r, i, st => stk r (i + 1) st
  | .cal _ :: r, i, st => stk r (i + 1) (i :: st)
  | .ret _ :: _, _, [] => none
  | .ret _ :: r, i, _ :: st => stk r (i + 1) st
def clI : List Pl → Int → Bool
  | [], _ => false
  | p :: r, h => decide (h + dl p = 0) || clI r (h + dl p)
theorem stk_app : ∀ (s t : List Pl) (i : Nat) (st : List Nat), stk (s ++ t) i st = (stk s i st).bind (stk t (i + s.length))
  | [], _, _, _ => rfl
  | .let_ _ :: s, t, i, st => by
    show stk (s ++ t) (i + 1) st = _
    rw [stk_app s t (i + 1) st, List.length_cons, show i + 1 + s.length = i + (s.length + 1) by omega]; rfl
  | .cal _ :: s, t, i, st => by
    show stk (s ++ t) (i + 1) (i :: st) = _
    rw [stk_app s t (i + 1) (i :: st), List.length_cons, show i + 1 + s.length = i + (s.length + 1) by omega]; rfl
  | .ret _ :: _, _, _, [] => rfl
  | .ret _ :: s, t, i, _ :: st => by
    show stk (s ++ t) (i + 1) st = _
    rw [stk_app s t (i + 1) st, List.length_cons, show i + 1 + s.length = i + (s.length + 1) by omega]; rfl
/-- what is on the stack was there or comes behind i, and is a call -/
theorem stk_mem : ∀ (r : List Pl) (i : Nat) (st st' : List Nat), stk r i st = some st' → ∀ j ∈ st', j ∈ st ∨ (i ≤ j ∧ j < i + r.length ∧ ∃ a, r[j - i]? = some (.cal a))
  | [], i, st, st', h, j, hj => by
    cases h
    exact .inl hj
  | .let_ _ :: r, i, st, st', h, j, hj => by
    rcases stk_mem r (i + 1) st st' h j hj with z | ⟨z1, z2, a, z3⟩
    · exact .inl z
    · refine .inr ⟨by omega, by simp; omega, a, ?_⟩
      rw [show j - i = (j - (i + 1)) + 1 by omega]; simpa using z3
  | .cal c :: r, i, st, st', h, j, hj => by
    rcases stk_mem r (i + 1) (i :: st) st' h j hj with z | ⟨z1, z2, a, z3⟩
    · rcases List.mem_cons.mp z with z | z
      · subst z
        exact .inr ⟨Nat.le_refl _, by simp, c, by simp⟩
      · exact .inl z
    · refine .inr ⟨by omega, by simp; omega, a, ?_⟩
      rw [show j - i = (j - (i + 1)) + 1 by omega]; simpa using z3
  | .ret _ :: r, i, [], st', h, j, hj => by cases h
  | .ret _ :: r, i, x :: st, st', h, j, hj => by
    rcases stk_mem r (i + 1) st st' h j hj with z | ⟨z1, z2, a, z3⟩
    · exact .inl (List.mem_cons_of_mem _ z)
    · refine .inr ⟨by omega, by simp; omega, a, ?_⟩
      rw [show j - i = (j - (i + 1)) + 1 by omega]; simpa using z3
theorem stk_open : ∀ (r : List Pl) (i : Nat) (X S : List Nat) (a : Nat) (st : List Nat), stk r i (X ++ a :: S) = some st → clI r (X.length + 1 : Nat) = false → ∃ Y, st = Y ++ a :: S
  | [], i, X, S, a, st, h, _ => by
    cases h
    exact ⟨X, rfl⟩
  | .let_ _ :: r, i, X, S, a, st, h, hc => by
    have hc' : clI r (X.length + 1 : Nat) = false := by
      simp only [clI, dl, Bool.or_eq_false_iff] at hc
      have := hc.2
      rwa [Int.add_zero] at this
    exact stk_open r (i + 1) X S a st h hc'
  | .cal _ :: r, i, X, S, a, st, h, hc => by
    refine stk_open r (i + 1) (i :: X) S a st h ?_
    simp only [clI, dl, Bool.or_eq_false_iff] at hc
    have := hc.2
    rwa [show (((X.length + 1 : Nat) : Int) + 1) = (((i :: X).length + 1 : Nat) : Int) by simp] at this
  | .ret _ :: r, i, [], S, a, st, h, hc => by simp [clI, dl] at hc
  | .ret _ :: r, i, x :: X, S, a, st, h, hc => by
    refine stk_open r (i + 1) X S a st h ?_
    simp only [clI, dl, Bool.or_eq_false_iff] at hc
    have := hc.2
    rwa [show ((((x :: X).length + 1 : Nat) : Int) + -1) = ((X.length + 1 : Nat) : Int) by simp; omega] at this
theorem stk_closed : ∀ (r : List Pl) (i : Nat) (X S : List Nat) (a : Nat) (st : List Nat), stk r i (X ++ a :: S) = some st → clI r (X.length + 1 : Nat) = true → a < i → a ∉ S → a ∉ st
  | [], i, X, S, a, st, h, hc, _, _ => by simp [clI] at hc
  | .let_ _ :: r, i, X, S, a, st, h, hc, hi, hS => by
    refine stk_closed r (i + 1) X S a st h ?_ (by omega) hS
    simp only [clI, dl, Bool.or_eq_true, decide_eq_true_eq, Int.add_zero] at hc
    rcases hc with z | z
    · exfalso; clear h hS hi; omega
    · exact z
  | .cal _ :: r, i, X, S, a, st, h, hc, hi, hS => by
    refine stk_closed r (i + 1) (i :: X) S a st h ?_ (by omega) hS
    simp only [clI, dl, Bool.or_eq_true, decide_eq_true_eq] at hc
    rcases hc with z | z
    · have z' := of_decide_eq_true z
      exfalso; clear h hS hi z; omega
    · rwa [show (((X.length + 1 : Nat) : Int) + 1) = (((i :: X).length + 1 : Nat) : Int) by simp] at z
  | .ret _ :: r, i, [], S, a, st, h, hc, hi, hS => by
    intro hm
    rcases stk_mem r (i + 1) S st h a hm with z | ⟨z1, _⟩
    · exact hS z
    · omega
  | .ret _ :: r, i, x :: X, S, a, st, h, hc, hi, hS => by
    refine stk_closed r (i + 1) X S a st h ?_ (by omega) hS
    simp only [clI, dl, Bool.or_eq_true, decide_eq_true_eq] at hc
    rcases hc with z | z
    · have z' := of_decide_eq_true z
      exfalso; clear h hS hi z; simp only [List.length_cons] at z'; omega
    · rwa [show ((((x :: X).length + 1 : Nat) : Int) + -1) = ((X.length + 1 : Nat) : Int) by simp; omega] at z
theorem stk_split {t : List Pl} {st : List Nat} {a : Nat} {c : Int} (h : stk t 0 [] = some st) (ha : t[a]? = some (.cal c)) : ∃ S, stk (t.drop (a + 1)) (a + 1) (a :: S) = some st ∧ ∀ j ∈ S, j < a := by
  have hlt : a < t.length := (List.getElem?_eq_some_iff.mp ha).1
  have e1 : t.drop a = .cal c :: t.drop (a + 1) := by
    rw [List.drop_eq_getElem_cons hlt]
    rw [List.getElem?_eq_getElem hlt] at ha
    rw [Option.some.inj ha]
  have e2 := stk_app (t.take a) (t.drop a) 0 []
  rw [List.take_append_drop, h, e1] at e2
  cases e3 : stk (t.take a) 0 [] with
  | none => rw [e3] at e2; cases e2
  | some S =>
    rw [e3] at e2
    refine ⟨S, ?_, fun j hj => ?_⟩
    · have e4 : 0 + (t.take a).length = a := by rw [List.length_take]; omega
      rw [e4] at e2
      exact e2.symm
    · rcases stk_mem _ _ _ _ e3 j hj with z | ⟨_, z, _⟩
      · cases z
      · rw [List.length_take] at z; omega
theorem bottom_of {t : List Pl} {st : List Nat} {a : Nat} {c : Int} (h : stk t 0 [] = some st) (ha : t[a]? = some (.cal c)) (hc : clI (t.drop (a + 1)) 1 = false) (hm : ∀ j ∈ st, a ≤ j) : st.getLast? = some a := by
  obtain ⟨S, e, hS⟩ := stk_split h ha
  obtain ⟨Y, rfl⟩ := stk_open _ _ [] S a st e hc
  have hn : S = [] := by
    cases S with
    | nil => rfl
    | cons j S =>
      have h1 := hm j (by simp)
      have h2 := hS j (by simp)
      omega
  subst hn
  simp
theorem gone_of {t : List Pl} {st : List Nat} {a : Nat} {c : Int} (h : stk t 0 [] = some st) (ha : t[a]? = some (.cal c)) (hc : clI (t.drop (a + 1)) 1 = true) : a ∉ st := by
  obtain ⟨S, e, hS⟩ := stk_split h ha
  exact stk_closed _ _ [] S a st e hc (by omega) fun z => absurd (hS a z) (by omega)
theorem notcall_of {t : List Pl} {st : List Nat} {a : Nat} (h : stk t 0 [] = some st) (ha : ∀ c, t[a]? ≠ some (.cal c)) : a ∉ st := fun hm => by
  rcases stk_mem _ _ _ _ h a hm with z | ⟨_, _, c, z⟩
  · cases z
  · exact ha c (by simpa using z)
/-- the fault, worked by heights -/
def sp__law_due (K : PySem.W.Frag) : Sp := sp_fault_of K
theorem flt_stk : ∀ (r : List Pl) (i : Nat) (st st' : List Nat), stk r i st = some st' → flt r i st = match st'.getLast? with
    | none => none
    | some j => some (false, j)
  | [], i, st, st', h => by cases h; rfl
  | .let_ _ :: r, i, st, st', h => flt_stk r (i + 1) st st' h
  | .cal _ :: r, i, st, st', h => flt_stk r (i + 1) (i :: st) st' h
  | .ret _ :: _, _, [], st', h => by cases h
  | .ret _ :: r, i, _ :: st, st', h => flt_stk r (i + 1) st st' h
theorem drop_at {t : List Pl} {i : Nat} {p : Pl} (h : t[i]? = some p) : t.drop i = p :: t.drop (i + 1) := by
  have hlt : i < t.length := (List.getElem?_eq_some_iff.mp h).1
  rw [List.drop_eq_getElem_cons hlt]
  rw [List.getElem?_eq_getElem hlt] at h
  rw [Option.some.inj h]
theorem dl_of (p : Pl) (h : Int) : h + (if decide (V.str p.kind = V.str "call") = true then (1 : Int) else 0) - (if decide (V.str p.kind = V.str "return") = true then (1 : Int) else 0) = h + dl p := by
  cases p with
  | let_ a => rw [show decide (V.str (Pl.let_ a).kind = V.str "call") = false from dLC, show decide (V.str (Pl.let_ a).kind = V.str "return") = false from dLR]; simp [dl]
  | cal a => rw [show decide (V.str (Pl.cal a).kind = V.str "call") = true from dstrY, show decide (V.str (Pl.cal a).kind = V.str "return") = false from dCR]; simp [dl]
  | ret a => rw [show decide (V.str (Pl.ret a).kind = V.str "call") = false from dRC, show decide (V.str (Pl.ret a).kind = V.str "return") = true from dstrY]; simp [dl]; omega
theorem vs0 (p : Pl) : atI p.vs 0 = some (.str p.kind) := atI_nat (j := 0) rfl
theorem vs1 (p : Pl) : atI p.vs 1 = some (.int p.lab) := atI_nat (j := 1) rfl
theorem at0n {vs : List V} {i : Nat} {v : V} (h : vs[i]? = some v) : atI vs (0 + (i : Int)) = some v := by
  rw [Int.zero_add]; exact atI_nat h
theorem ht_stk : ∀ (t : List Pl) (i : Nat) (st : List Nat), ht t st.length = (stk t i st).map List.length
  | [], _, _ => rfl
  | .let_ _ :: r, i, st => ht_stk r (i + 1) st
  | .cal _ :: r, i, st => ht_stk r (i + 1) (i :: st)
  | .ret _ :: _, _, [] => rfl
  | .ret _ :: r, i, _ :: st => ht_stk r (i + 1) st
theorem Bal.flt {t : List Pl} (h : Bal t) : flt t 0 [] = none := by
  have e := ht_stk t 0 []
  rw [show ht t ([] : List Nat).length = some 0 from h] at e
  cases e2 : stk t 0 [] with
  | none => rw [e2] at e; cases e
  | some st =>
    rw [e2] at e
    have e3 : st.length = 0 := (Option.some.inj e).symm
    have e4 : st = [] := List.eq_nil_of_length_eq_zero e3
    rw [flt_stk _ _ _ _ e2, e4]
    rfl
theorem fltPy_shaped (f : Option (Bool × Nat)) : SeqAt.shaped (fltPy f) = true := by
  cases f with
  | none => decide +kernel
  | some bj =>
    obtain ⟨b, j⟩ := bj
    unfold SeqAt.shaped fltPy
    have h0 : PyData.strOk (fk b) = true := by cases b <;> (unfold fk; decide +kernel)
    have h1 : (PyData.tuple [.str (fk b), .int (j : Int)]).canLay0 = true := by simp [PyData.canLay0, PyData.canLayAll0, h0]
    have h2 : (PyData.tuple [.str (fk b), .int (j : Int)]).depth ≤ 64 := by simp [PyData.depth, PyData.depthAll]
    rw [h1, decide_eq_true h2]
    rfl
theorem eqv_self {d : PyData} (h : SeqAt.shaped d = true) : PyData.eqv d d = true := SeqAt.eqv_refl d (SeqAt.canLay_of_shaped h)
theorem FltV.isN {H : Hp} {v : V} {f : Option (Bool × Nat)} (h : FltV H v f) : decide (v = V.non) = f.isNone := by
  cases f with
  | none =>
    have e : v = .non := h
    rw [e]; rfl
  | some bj =>
    obtain ⟨p, rfl, _⟩ := h
    rfl
/-! ### constants of the text's modules -/
structure IntC (mg : Str → Option Value) (x : Str) (i : Int) : Prop where
  ex : ∃ t, mg x = some (.int i t)
structure StrC (mg : Str → Option Value) (x s : Str) : Prop where
  ex : ∃ t, mg x = some (.str s t)
theorem IntC.pe {X : Cx} {x : Str} {i : Int} {pos : Pos} (c : IntC X.mg x i) (hg : Gl X x) (hd : (x == ("__debug__" : Str)) = false := by decide) : PE X (.Name x pos) (tC (.int i)) := by
  obtain ⟨t, h⟩ := c.ex
  exact pe_glob hg h ⟨_, rfl⟩ hd
theorem StrC.pe {X : Cx} {x s : Str} {pos : Pos} (c : StrC X.mg x s) (hg : Gl X x) (hd : (x == ("__debug__" : Str)) = false := by decide) : PE X (.Name x pos) (tC (.str s)) := by
  obtain ⟨t, h⟩ := c.ex
  exact pe_glob hg h ⟨_, rfl⟩ hd
/-- a tuple of texts -/
structure TupF (K : PySem.W.Frag) (d : Addr) (ss : List Str) : Prop where
  ex : ∃ (o : Obj) (its : Array Value) (n : Nat), K.lookup d = some o ∧ o.cls = .type "tuple" ∧ o.dict = none ∧ o.data = .seq its n ∧ its.size ≤ sizeLine ∧ Vals (ss.map V.str) its.toList
theorem TupF.sq {K : PySem.W.Frag} {d : Addr} {ss : List Str} (h : TupF K d ss) (H : Hp) : SqT K H d (ss.map V.str) := by
  obtain ⟨o, its, n, h1, h2, _, h4, h5, h6⟩ := h.ex
  exact .inr ⟨o, its, n, h1, h2, h4, h5, h6⟩
theorem TupF.ty {K : PySem.W.Frag} {d : Addr} {ss : List Str} (h : TupF K d ss) (H : Hp) : tyV K "tuple" (.ref d) H := by
  obtain ⟨o, its, n, h1, h2, h3, _⟩ := h.ex
  exact .inr (.inl ⟨rfl, o, h1, h2, h3⟩)
structure TupC (K : PySem.W.Frag) (mg : Str → Option Value) (x : Str) (ss : List Str) : Prop where
  ex : ∃ d, mg x = some (.ref d) ∧ TupF K d ss
/-- a dict from texts to texts -/
structure DicF (K : PySem.W.Frag) (w : World) (d : Addr) (kvs : List (Str × Str)) : Prop where
  ex : ∃ es n, KDict K w d es n
  get : ∀ k v, (k, v) ∈ kvs → ∃ u, PySem.W.nsIn K d k = some (some u) ∧ RelV (.str v) u
theorem DicF.at_ {K : PySem.W.Frag} {w : World} {d : Addr} {kvs : List (Str × Str)} (h : DicF K w d kvs) {k v : Str} (m : (k, v) ∈ kvs) : KDct K w d k (.str v) := by
  obtain ⟨es, n, D⟩ := h.ex
  obtain ⟨u, e, r⟩ := h.get k v m
  exact ⟨es, n, u, D.at_, D.lit, e, r⟩
structure DicC (K : PySem.W.Frag) (w : World) (mg : Str → Option Value) (x : Str) (kvs : List (Str × Str)) : Prop where
  ex : ∃ d, mg x = some (.ref d) ∧ DicF K w d kvs
/-- x not in d, x in d -/
def rNotInKD (K : PySem.W.Frag) : R2 := fun x y H Q => ∃ (z : Str) (d : Addr) (r : Option Value), x = .str z ∧ y = .ref d ∧ PySem.W.nsIn K d z = some r ∧ Q (.bl (!r.isSome)) H
theorem op_notInKD {X : Cx} {d : Addr} {kvs : List (Str × Str)} (D : DicF X.K X.w d kvs) : OpR X (compareOp .NotIn) (fun x y H Q => ∃ (z : Str) (r : Option Value), x = .str z ∧ y = .ref d ∧ PySem.W.nsIn X.K d z = some r ∧ Q (.bl (!r.isSome)) H) := by
  obtain ⟨es, n, D⟩ := D.ex
  exact op_notIn_kd D
section
variable {X : Cx} {e : Expr} {te : TE} {pos : Pos}
theorem pe_fmtS (he : PE X e te) : PE X (.FormattedValue e (-1) none pos) (fun σ H Q => te σ H fun x H1 => ∃ y : Str, x = .str y ∧ y.length ≤ sizeLine ∧ Q (.str y) H1) :=
  ⟨fun pins s σ H Q I h => wpAny_FormattedValue_plain (thn (he.run pins s σ H _ I h) fun v s1 ⟨x, H1, I1, r1, y, ex, hz, q⟩ => by
    subst ex
    obtain ⟨t, rfl⟩ := r1
    exact wpAny_formatField_str ⟨.str y, H1, I1, ⟨t, rfl⟩, q⟩ ⟨.str y, H1, I1.tok _, ⟨_, rfl⟩, q⟩ hz)⟩
theorem pe_fmtI (he : PE X e te) : PE X (.FormattedValue e (-1) none pos) (fun σ H Q => te σ H fun x H1 => ∃ i : Int, x = .int i ∧ i.natAbs.log2 < 1920 ∧ Q (.str (toString i)) H1) :=
  ⟨fun pins s σ H Q I h => wpAny_FormattedValue_plain (thn (he.run pins s σ H _ I h) fun v s1 ⟨x, H1, I1, r1, i, ex, hz, q⟩ => by
    subst ex
    obtain ⟨t, rfl⟩ := r1
    exact wpAny_formatField_int hz ⟨.str (toString i), H1, I1.tok _, ⟨_, rfl⟩, q⟩)⟩
end
def tJoin (ts : List TE) : TE := fun σ H Q => tJs ts Str.empty σ H fun out H1 => Q (.str out) H1
theorem pe_joinedT {X : Cx} {v1 v2 : Expr} {rest : List Expr} {ts : List TE} {pos : Pos} (h : PJ X (v1 :: v2 :: rest) ts) : PE X (.JoinedStr (v1 :: v2 :: rest) pos) (tJoin ts) := pe_joined h
/-! ### written places -/
def sc : Pl → Nat
  | .let_ _ => 108 | .cal _ => 99 | .ret _ => 114
def sgn (p : Pl) : Str := ⟨#[sc p]⟩
/-- the word of a place with a label of one digit -/
def wd (p : Pl) : Str := ⟨#[sc p, 48 + p.lab.toNat]⟩
def Dig (p : Pl) : Prop := p.lab = 0 ∨ p.lab = 1 ∨ p.lab = 2
theorem LabP.dig {x y z : Int} {p : Pl} (h : LabP x y z p) (hL : Lab x y z) : Dig p := by
  obtain ⟨h1, h2, h3, h4, h5, h6⟩ := hL
  unfold Dig
  cases p with
  | let_ a => have h : 0 ≤ a ∧ a < x := h; show a = 0 ∨ a = 1 ∨ a = 2; omega
  | cal a => have h : 0 ≤ a ∧ a < y := h; show a = 0 ∨ a = 1 ∨ a = 2; omega
  | ret a => have h : 0 ≤ a ∧ a < z := h; show a = 0 ∨ a = 1 ∨ a = 2; omega
theorem dig_cases {P : Pl → Prop} {p : Pl} (h : Dig p) (l : ∀ i : Int, i = 0 ∨ i = 1 ∨ i = 2 → P (.let_ i) ∧ P (.cal i) ∧ P (.ret i)) : P p := by
  cases p with
  | let_ a => exact (l a h).1
  | cal a => exact (l a h).2.1
  | ret a => exact (l a h).2.2
theorem wd_fmt {p : Pl} (h : Dig p) : (Str.empty ++ sgn p ++ ((toString p.lab : String) : Str)) = wd p :=
  dig_cases (P := fun p => (Str.empty ++ sgn p ++ ((toString p.lab : String) : Str)) = wd p) h fun i hi => by
    rcases hi with rfl | rfl | rfl <;> exact ⟨by decide +kernel, by decide +kernel, by decide +kernel⟩
theorem wd_add {p : Pl} (h : Dig p) : (sgn p ++ ((toString p.lab : String) : Str)) = wd p :=
  dig_cases (P := fun p => (sgn p ++ ((toString p.lab : String) : Str)) = wd p) h fun i hi => by
    rcases hi with rfl | rfl | rfl <;> exact ⟨by decide +kernel, by decide +kernel, by decide +kernel⟩
theorem wd_len (p : Pl) : (wd p).length = 2 := rfl
theorem sgn_let (a : Int) : ("l" : Str) = sgn (.let_ a) := by show _ = (⟨#[108]⟩ : Str); decide +kernel
theorem sgn_cal (a : Int) : ("c" : Str) = sgn (.cal a) := by show _ = (⟨#[99]⟩ : Str); decide +kernel
theorem sgn_ret (a : Int) : ("r" : Str) = sgn (.ret a) := by show _ = (⟨#[114]⟩ : Str); decide +kernel
theorem lab_log {p : Pl} (h : Dig p) : p.lab.natAbs.log2 < 1920 := by
  rcases h with h | h | h <;> rw [h] <;> decide
theorem fmt_len {p : Pl} (h : Dig p) : (Str.empty ++ sgn p).length ≤ sizeLine ∧ (Str.empty ++ sgn p ++ ((toString p.lab : String) : Str)).length ≤ sizeLine :=
  ⟨Nat.le_trans (show (Str.empty ++ sgn p).length ≤ 100 by
    cases p with
    | let_ a => show (Str.empty ++ (⟨#[108]⟩ : Str)).length ≤ 100; decide +kernel
    | cal a => show (Str.empty ++ (⟨#[99]⟩ : Str)).length ≤ 100; decide +kernel
    | ret a => show (Str.empty ++ (⟨#[114]⟩ : Str)).length ≤ 100; decide +kernel) (by decide), by rw [wd_fmt h]; show 2 ≤ sizeLine; decide⟩
theorem add_len {p : Pl} (h : Dig p) : (sgn p).length + ((toString p.lab : String) : Str).length ≤ sizeLine :=
  Nat.le_trans (show _ ≤ 100 from dig_cases (P := fun p => (sgn p).length + ((toString p.lab : String) : Str).length ≤ 100) h fun i hi => by
    rcases hi with rfl | rfl | rfl <;> exact ⟨by decide +kernel, by decide +kernel, by decide +kernel⟩) (by decide)
theorem wd_int {p : Pl} (h : Dig p) : PySem.intText? (⟨#[48 + p.lab.toNat]⟩ : Str) = some p.lab := by
  rcases h with h | h | h <;> rw [h] <;> decide +kernel
theorem wd_digit {p : Pl} (h : Dig p) : decide ((48 + p.lab.toNat) ∈ ("0123456789" : Str).cps.toList) = true := by
  rcases h with h | h | h <;> rw [h] <;> decide +kernel
theorem wd_sp {p : Pl} (h : Dig p) : 32 ∉ TL.tl (wd p) := by
  show 32 ∉ [sc p, 48 + p.lab.toNat]
  intro z
  rcases List.mem_cons.mp z with z | z
  · cases p <;> cases z
  · have := List.mem_singleton.mp z
    omega
theorem join_split {t : List Pl} (ht : t ≠ []) (h : ∀ p ∈ t, Dig p) : Txt.split (Txt.join " " (t.map wd)) " " = t.map wd := by
  refine TL.split_join (s := 32) (S := []) (by decide +kernel) (by decide +kernel) (by simpa using ht) ?_
  intro w hw
  obtain ⟨p, hp, rfl⟩ := List.mem_map.mp hw
  exact wd_sp (h p hp)
theorem joinL_len : ∀ (t : List Pl), (TL.joinL [32] (t.map fun p => TL.tl (wd p))).length ≤ 3 * t.length
  | [] => Nat.le_refl _
  | [p] => by
    show (TL.tl (wd p)).length ≤ 3
    show 2 ≤ 3
    decide
  | p :: q :: t => by
    have ih := joinL_len (q :: t)
    show (TL.tl (wd p) ++ [32] ++ TL.joinL [32] ((q :: t).map fun p => TL.tl (wd p))).length ≤ _
    rw [List.length_append, List.length_append]
    have h2 : (TL.tl (wd p)).length = 2 := rfl
    simp only [List.length_cons, List.length_nil] at *
    omega
theorem join_len (t : List Pl) : (Txt.join " " (t.map wd)).length ≤ 3 * t.length := by
  have e := TL.tl_join " " (t.map wd)
  have h := joinL_len t
  rw [TL.join_eq]
  rw [List.map_map] at e
  have e2 : TL.tl (" " : Str) = [32] := by decide +kernel
  rw [e2] at e
  have e3 : (TL.tl (Str.join " " (t.map wd))).length = (Str.join " " (t.map wd)).length := by
    unfold TL.tl Str.length
    exact Array.length_toList
  rw [← e3, e]
  exact h
theorem join_nil : Txt.join " " (([] : List Pl).map wd) = ("" : Str) := by decide +kernel
theorem join_ne {t : List Pl} (ht : t ≠ []) (h : ∀ p ∈ t, Dig p) : ¬ Txt.join " " (t.map wd) = ("" : Str) := by
  intro e
  have h2 := join_split ht h
  rw [e] at h2
  have h3 : Txt.split "" " " = [("" : Str)] := by decide +kernel
  rw [h3] at h2
  cases t with
  | nil => exact ht rfl
  | cons p t =>
    have h4 : ("" : Str) = wd p := (List.cons.inj h2).1
    have h5 : ("" : Str).length = (wd p).length := by rw [h4]
    rw [wd_len] at h5
    exact absurd h5 (by decide +kernel)
theorem wd_sum (t : List Pl) : ((t.map wd).map (·.length)).sum = 2 * t.length := by
  induction t with
  | nil => rfl
  | cons p t ih =>
    simp only [List.map_cons, List.sum_cons, List.length_cons, wd_len] at *
    omega
/-! the defs' promises -/
def bnd (x y z : Int) : Pl → Int
  | .let_ _ => x | .cal _ => y | .ret _ => z
def sp_has_label : Sp := fun vs H Q _ => ∃ (l a : Addr) (x y z : Int) (p : Pl), vs = [.ref l, .ref a] ∧ H l = some (.tup [.int x, .int y, .int z]) ∧ H a = some (.tup p.vs) ∧ Q (.bl (decide (0 ≤ p.lab) && decide (p.lab < bnd x y z p))) H
theorem LabP.has {x y z : Int} {p : Pl} (h : LabP x y z p) : (decide (0 ≤ p.lab) && decide (p.lab < bnd x y z p)) = true := by
  cases p with
  | let_ a => have h : 0 ≤ a ∧ a < x := h; simp [Pl.lab, bnd, h.1, h.2]
  | cal a => have h : 0 ≤ a ∧ a < y := h; simp [Pl.lab, bnd, h.1, h.2]
  | ret a => have h : 0 ≤ a ∧ a < z := h; simp [Pl.lab, bnd, h.1, h.2]
/-- a text that is one -/
def sp_check_ok (K : PySem.W.Frag) : Sp := fun vs H Q _ => ∃ (l a : Addr) (x y z : Int) (t : List Pl), vs = [.ref l, .ref a] ∧ H l = some (.tup [.int x, .int y, .int z]) ∧ TxtAt K H a t ∧ LabT x y z t ∧ Bal t ∧ t.length ≤ 200 ∧ ∀ H', Kp [] H H' → Q .non H'
def sp_format_text (K : PySem.W.Frag) : Sp := fun vs H Q _ => ∃ (a : Addr) (t : List Pl), vs = [.ref a] ∧ TxtAt K H a t ∧ (∀ p ∈ t, Dig p) ∧ t.length ≤ 1000 ∧ ∀ H', Kp [] H H' → Q (.str (Txt.join " " (t.map wd))) H'
def sp__words_of : Sp := fun vs H Q _ => ∃ (t : List Pl), vs = [.str (Txt.join " " (t.map wd))] ∧ (∀ p ∈ t, Dig p) ∧ t.length ≤ 1000 ∧ ∀ (p : Addr) (H' : Hp), H p = none → H' p = some (.lst ((t.map wd).map V.str)) → Kp [] H H' → Q (.ref p) H'
def sp__place_ok : Sp := fun vs H Q _ => ∃ (l : Addr) (x y z : Int) (p : Pl), vs = [.ref l, .str (wd p)] ∧ H l = some (.tup [.int x, .int y, .int z]) ∧ Lab x y z ∧ LabP x y z p ∧ ∀ (a : Addr) (H' : Hp), H' a = some (.tup p.vs) → Kp [] H H' → Q (.ref a) H'
def sp_parse_ok : Sp := fun vs H Q _ => ∃ (l : Addr) (x y z : Int) (t : List Pl), vs = [.ref l, .str (Txt.join " " (t.map wd))] ∧ H l = some (.tup [.int x, .int y, .int z]) ∧ Lab x y z ∧ LabT x y z t ∧ Bal t ∧ t.length ≤ 200 ∧ ∀ (p : Addr) (H' : Hp), RowAt H' p t → Kp [] H H' → Q (.ref p) H'
def kinds : List Str := ["letter", "call", "return"]
def kidx : Pl → Nat
  | .let_ _ => 0 | .cal _ => 1 | .ret _ => 2
theorem kidx_at (p : Pl) : kinds[kidx p]? = some p.kind := by cases p <;> rfl
theorem kidx_first (p : Pl) : ∀ m, m < kidx p → kinds[m]? ≠ some p.kind := by
  intro m hm
  cases p with
  | let_ a => exact absurd hm (Nat.not_lt_zero m)
  | cal a =>
    have e : m = 0 := by have h : m < 1 := hm; omega
    subst e
    intro z
    exact kLC (Option.some.inj z)
  | ret a =>
    have h : m < 2 := hm
    rcases (show m = 0 ∨ m = 1 by omega) with e | e
    · subst e; intro z; exact kLR (Option.some.inj z)
    · subst e; intro z; exact kCR (Option.some.inj z)
theorem kidx_bnd (x y z : Int) (p : Pl) : atI [V.int x, V.int y, V.int z] ((kidx p : Nat) : Int) = some (.int (bnd x y z p)) := by
  cases p with
  | let_ a => exact atI_nat (j := 0) rfl
  | cal a => exact atI_nat (j := 1) rfl
  | ret a => exact atI_nat (j := 2) rfl
def marksD : List (Key × V) := [(.inr "letter", .str "l"), (.inr "call", .str "c"), (.inr "return", .str "r")]
theorem marks_merge : mergeK [] marksD = marksD := by decide +kernel
theorem marks_get (p : Pl) : valV marksD (.inr p.kind) = some (.str (sgn p)) := by
  cases p with
  | let_ a => show valV marksD (.inr "letter") = some (.str ⟨#[108]⟩); decide +kernel
  | cal a => show valV marksD (.inr "call") = some (.str ⟨#[99]⟩); decide +kernel
  | ret a => show valV marksD (.inr "return") = some (.str ⟨#[114]⟩); decide +kernel
def topS (i : Nat) : Stmt := PySem.Challenge.pw_archway_k05_written_texts.main.body.getD i (.Pass ⟨0, 0, 0, 0⟩)
abbrev s_fault_of : Stmt := topS 10
theorem sc_fault_of : FnScope ["row", "opened", "number", "kind", "_"] ["row"] (defScope s_fault_of) := ⟨rfl, rfl, rfl, by decide +kernel, rfl, by decide +kernel, by decide +kernel⟩
section
variable {P : Program} {w : World} {K : PySem.W.Frag} {mg : Str → Option Value} {base : Heap}
theorem ok_fault_of {f : Addr} {fd : FuncData} (F : Fun K "fault_of" "fault_of" s_fault_of f fd) (B : Glb mg) : FnOk P w K mg base CX0 1 f fd ["row"] (sp_fault_of K) := by
  refine F.ok sc_fault_of (fun vs H Q E h => ?_) (fun cdv A outer s H vs Q E hr h => ?_)
  · obtain ⟨a, t, rfl, _⟩ := h
    rfl
  · obtain ⟨a, t, rfl, hT, hlen, q⟩ := h
    have hu := hu_of hr
    refine ⟨_, (pss_cons (ps_set (i := 1) sc_fault_of.nd rfl (.inl rfl) (pe_lst pa_nil))
  (pss_cons (ps_for PassesOwn.never rfl (pi_enum (by rfl) B.enumerate (pa_cons (pv 0) pa_nil)) (pg_tup rfl (pgs_cons (pg_name (i := 2) sc_fault_of.nd rfl (.inl rfl)) (pgs_cons (pg_tup rfl (pgs_cons (pg_name (i := 3) sc_fault_of.nd rfl (.inl rfl)) (pgs_cons (pg_name (i := 4) sc_fault_of.nd rfl (.inl rfl)) pgs_nil))) pgs_nil)))
  (pss_one (ps_if (pt_cmpR op_eq (pv 3) pe_str (nomark _))
  (pss_one (ps_expr (pe_bm PySem.F.plainAttrs_list PySem.F.slot_list_append PySem.F.type_list_append mt_append (pv 1) (pa_cons (pv 2) pa_nil))))
  (pss_one (ps_if (pt_cmpR op_eq (pv 3) pe_str (nomark _))
  (pss_cons (ps_if (pt_not (pt_truthL (pv 1)))
  (pss_one (ps_ret (pe_tup (pa_cons pe_str (pa_cons (pv 2) pa_nil)))))
  pss_nil)
  (pss_one (ps_expr (pe_bm0 PySem.F.plainAttrs_list PySem.F.slot_list_pop PySem.F.type_list_pop mt_pop (pv 1)))))
  pss_nil)))))
  (pss_cons (ps_if (pt_truthL (pv 1))
  (pss_one (ps_ret (pe_tup (pa_cons pe_str (pa_cons (pe_ix ix_list (pv 1) pe_int (fun _ _ => rfl)) pa_nil)))))
  pss_nil)
  (pss_one (ps_ret pe_non))))), ?_⟩
    obtain ⟨vs, hS, hP⟩ := hT.ex
    have hvl := hP.length
    walk_at "st"
    intro o ho
    walk_at "st"
    refine for_enum (K := K) (a := a) (xs := vs) (fun i σ H2 => Wd <| ∃ (st : List Nat) (y2 y3 y4 : Option V), σ = [some (.ref a), some (.ref o), y2, y3, y4] ∧ H2 o = some (.lst (natsV st.reverse)) ∧ st.length ≤ i ∧
      flt t 0 [] = flt (t.drop i) i st ∧ Kp [] H H2) ⟨⟨[], none, none, none, rfl, upd_same, Nat.le_refl _, rfl, by walk_at "kp"⟩⟩ ?_ ?_ ?_
    · rintro i σ H2 _ ⟨⟨st, y2, y3, y4, rfl, h2, hl, hf, k2⟩⟩
      exact k2.seq hS
    · rintro i x T σ H2 hx ⟨⟨st, y2, y3, y4, rfl, h2, hl, hf, k2⟩⟩ nT
      obtain ⟨p, hp, tp, rfl, htp⟩ := Pd.get hP hx
      have hi : i < t.length := (List.getElem?_eq_some_iff.mp hp).1
      have e1 : t.drop i = p :: t.drop (i + 1) := by
        rw [List.drop_eq_getElem_cons hi]
        rw [List.getElem?_eq_getElem hi] at hp
        rw [Option.some.inj hp]
      rw [e1] at hf
      have htp2 := k2.at0 htp
      have h2' : (upd H2 T (.tup [.int (i : Nat), .ref tp])) o = some (.lst (natsV st.reverse)) := by walk_at "hs"
      have hnl : (natsV st.reverse).length = st.length := by simp [natsV]
      have hl3 : st.length < sizeLine := smallLt (by omega)
      cases p with
      | let_ l =>
        walk_at "st"
        exact ⟨⟨st, _, _, _, rfl, h2', by omega, hf, k2.new nT⟩⟩
      | cal l =>
        walk_at "st"
        refine ⟨⟨i :: st, _, _, _, rfl, ?_, by simp; omega, hf, (k2.new nT).own ho⟩⟩
        rw [upd_same]; simp [natsV]
      | ret l =>
        cases st with
        | nil =>
          walk_at "st"
          intro u nu
          refine q _ _ ?_ ((k2.new nT).new nu)
          rw [hf]
          exact ⟨u, rfl, upd_same⟩
        | cons j st =>
          have e2 : natsV (j :: st).reverse = natsV st.reverse ++ [V.int (j : Int)] := by simp [natsV]
          rw [e2] at h2'
          have e3 : (natsV st.reverse ++ [V.int (j : Int)])[(natsV st.reverse ++ [V.int (j : Int)]).length - 1]? = some (V.int (j : Int)) := by simp
          walk_at "st"
          refine iteN (by simp) ?_
          walk_at "st"
          refine ⟨⟨st, _, _, _, rfl, ?_, by simp at hl; omega, hf, (k2.new nT).own ho⟩⟩
          rw [upd_same]; simp
    · rintro σ H2 ⟨⟨st, y2, y3, y4, rfl, h2, hl, hf, k2⟩⟩
      have e0 : t.drop vs.length = [] := by rw [hvl]; simp
      rw [e0] at hf
      walk_at "st"
      apply iteA
      · intro e1
        have hne : st ≠ [] := by
          intro z
          subst z
          cases e1
        obtain ⟨j, hj⟩ : ∃ j, st.getLast? = some j := ⟨_, List.getLast?_eq_getLast hne⟩
        have ha : atI (natsV st.reverse) 0 = some (V.int (j : Int)) := by
          refine atI_nat (j := 0) ?_
          unfold natsV
          rw [List.getElem?_map]
          have : st.reverse[0]? = some j := by
            rw [← List.head?_eq_getElem?, List.head?_reverse, hj]
          rw [this]; rfl
        walk_at "st"
        intro u nu
        refine q _ _ ?_ (k2.new nu)
        rw [hf]
        show FltV _ _ (match st.getLast? with | none => none | some j => some (false, j))
        rw [hj]
        exact ⟨u, rfl, upd_same⟩
      · intro e1
        have hz : st = [] := by
          cases st with
          | nil => rfl
          | cons j st => simp [natsV] at e1
        subst hz
        walk_at "st"
        refine q _ _ ?_ k2
        rw [hf]
        rfl
end
abbrev s_has_label : Stmt := topS 11
theorem sc_has_label : FnScope ["labels", "place", "kind", "label"] ["labels", "place"] (defScope s_has_label) := ⟨rfl, rfl, rfl, by decide +kernel, rfl, by decide +kernel, by decide +kernel⟩
section
variable {P : Program} {w : World} {K : PySem.W.Frag} {mg : Str → Option Value} {base : Heap}
theorem ok_has_label {f : Addr} {fd : FuncData} (F : Fun K "has_label" "has_label" s_has_label f fd) (B : Glb mg) (k_KINDS : TupC K mg "KINDS" ["letter", "call", "return"]) : FnOk P w K mg base CX0 1 f fd ["labels", "place"] sp_has_label := by
  refine F.ok sc_has_label (fun vs H Q E h => ?_) (fun cdv A outer s H vs Q E hr h => ?_)
  · obtain ⟨l, a, x, y, z, p, rfl, _⟩ := h
    rfl
  · obtain ⟨l, a, x, y, z, p, rfl, hl, ha, q⟩ := h
    have hu := hu_of hr
    obtain ⟨d_KINDS, g_KINDS, hK⟩ := k_KINDS.ex
    refine ⟨_, (pss_cons (ps_asg (pv 1) (pg_tup rfl (pgs_cons (pg_name (i := 2) sc_has_label.nd rfl (.inl rfl)) (pgs_cons (pg_name (i := 3) sc_has_label.nd rfl (.inl rfl)) pgs_nil))))
  (pss_one (ps_ret (pe_chain2 op_le op_lt pe_int (pv 3) (pe_ix ix_tup (pv 0) (pe_bm PySem.F.plainAttrs_tuple PySem.F.slot_tuple_index PySem.F.type_tuple_index mt_tup_index (pe_glob (v := .ref d_KINDS) (by rfl) g_KINDS rfl) (pa_cons (pv 2) pa_nil)) (fun _ _ => rfl)))))), ?_⟩
    have hsq : SqT K H d_KINDS (kinds.map V.str) := hK.sq H
    have hty := hK.ty H
    have e1 := kidx_at p
    have e2 := kidx_first p
    have e3 := kidx_bnd x y z p
    walk_at "st"
    exact q
end
abbrev s_check_labels : Stmt := topS 12
theorem sc_check_labels : FnScope ["labels", "row", "number", "place"] ["labels", "row"] (defScope s_check_labels) := ⟨rfl, rfl, rfl, by decide +kernel, rfl, by decide +kernel, by decide +kernel⟩
section
variable {P : Program} {w : World} {K : PySem.W.Frag} {mg : Str → Option Value} {base : Heap}
theorem ok_check_labels {f : Addr} {fd : FuncData} (F : Fun K "check_labels" "check_labels" s_check_labels f fd) (B : Glb mg) (chas_label : Cal P w K mg base 1 "has_label" ["labels", "place"] sp_has_label) : FnOk P w K mg base CX0 2 f fd ["labels", "row"] (sp_check_labels_ok K) := by
  refine F.ok sc_check_labels (fun vs H Q E h => ?_) (fun cdv A outer s H vs Q E hr h => ?_)
  · obtain ⟨l, a, x, y, z, t, rfl, _⟩ := h
    rfl
  · obtain ⟨l, a, x, y, z, t, rfl, hl, hT, hlt, q⟩ := h
    have hu := hu_of hr
    refine ⟨_, (pss_one (ps_for PassesOwn.never rfl (pi_enum (by rfl) B.enumerate (pa_cons (pv 1) pa_nil)) (pg_tup rfl (pgs_cons (pg_name (i := 2) sc_check_labels.nd rfl (.inl rfl)) (pgs_cons (pg_name (i := 3) sc_check_labels.nd rfl (.inl rfl)) pgs_nil)))
  (pss_one (ps_if (pt_not (pt_val (pe_cal chas_label (hr.mono (by decide)) (by rfl) (pa_cons (pv 0) (pa_cons (pv 3) pa_nil)))))
  (pss_one ps_never)
  pss_nil)))), ?_⟩
    obtain ⟨vs, hS, hP⟩ := hT.ex
    have hvl := hP.length
    walk_at "st"
    refine for_enum (K := K) (a := a) (xs := vs) (fun i σ H2 => Wd <| ∃ (y2 y3 : Option V), σ = [some (.ref l), some (.ref a), y2, y3] ∧ Kp [] H H2) ⟨⟨none, none, rfl, Kp.refl _ _⟩⟩ ?_ ?_ ?_
    · rintro i σ H2 _ ⟨⟨y2, y3, rfl, k2⟩⟩
      exact k2.seq hS
    · rintro i v T σ H2 hv ⟨⟨y2, y3, rfl, k2⟩⟩ nT
      obtain ⟨p, hp, tp, rfl, htp⟩ := Pd.get hP hv
      have htp2 := k2.at0 htp
      have hl2 := k2.at0 hl
      walk_at "st"
      refine iteN (by rw [(hlt p (List.mem_of_getElem? hp)).has]; rfl) ?_
      exact ⟨⟨_, _, rfl, k2.new nT⟩⟩
    · rintro σ H2 ⟨⟨y2, y3, rfl, k2⟩⟩
      walk_at "st"
      exact q H2 k2
end
abbrev s_check_text : Stmt := topS 13
theorem sc_check_text : FnScope ["labels", "row", "fault"] ["labels", "row"] (defScope s_check_text) := ⟨rfl, rfl, rfl, by decide +kernel, rfl, by decide +kernel, by decide +kernel⟩
section
variable {P : Program} {w : World} {K : PySem.W.Frag} {mg : Str → Option Value} {base : Heap}
theorem ok_check_text {f : Addr} {fd : FuncData} (F : Fun K "check_text" "check_text" s_check_text f fd) (B : Glb mg) (ccheck_labels : Cal P w K mg base 2 "check_labels" ["labels", "row"] (sp_check_labels_ok K)) (cfault_of : Cal P w K mg base 1 "fault_of" ["row"] (sp_fault_of K)) (k_MOST_PLACES : IntC mg "MOST_PLACES" 200) : FnOk P w K mg base CX0 3 f fd ["labels", "row"] (sp_check_ok K) := by
  refine F.ok sc_check_text (fun vs H Q E h => ?_) (fun cdv A outer s H vs Q E hr h => ?_)
  · obtain ⟨l, a, x, y, z, t, rfl, _⟩ := h
    rfl
  · obtain ⟨l, a, x, y, z, t, rfl, hl, hT, hlt, hbal, hlen, q⟩ := h
    have hu := hu_of hr
    refine ⟨_, (pss_cons (ps_expr (pe_cal ccheck_labels (hr.mono (by decide)) (by rfl) (pa_cons (pv 0) (pa_cons (pv 1) pa_nil))))
  (pss_cons (ps_set (i := 2) sc_check_text.nd rfl (.inl rfl) (pe_cal cfault_of (hr.mono (by decide)) (by rfl) (pa_cons (pv 1) pa_nil)))
  (pss_cons (ps_if (pt_cmpR op_notN (pv 2) pe_non (nomark _))
  (pss_one ps_never)
  pss_nil)
  (pss_one (ps_if (pt_cmpR op_gt (pe_callB (call_lenL) (by rfl) B.len PySem.boot_len (pa_cons (pv 1) pa_nil)) (k_MOST_PLACES.pe (by rfl)) (nomark _))
  (pss_one ps_never)
  pss_nil))))), ?_⟩
    obtain ⟨vs, hS, hP⟩ := hT.ex
    have hvl := hP.length
    walk_at "st"
    intro H2 k2
    have hT2 := hT.kp k2
    have hl1k : t.length ≤ 1000 := by omega
    walk_at "st"
    intro v H3 hv k3
    rw [hbal.flt] at hv
    have ev : v = .non := hv
    subst ev
    have hS3 := (k2.trans k3).seq hS
    walk_at "st"
    apply iteD
    · intro e
      exfalso
      omega
    · intro e
      exact q H3 (k2.trans k3)
end
abbrev s_format_text : Stmt := topS 18
theorem sc_format_text : FnScope ["text", "kind", "label"] ["text"] (defScope s_format_text) := ⟨rfl, rfl, rfl, by decide +kernel, rfl, by decide +kernel, by decide +kernel⟩
section
variable {P : Program} {w : World} {K : PySem.W.Frag} {mg : Str → Option Value} {base : Heap}
theorem ok_format_text {f : Addr} {fd : FuncData} (F : Fun K "format_text" "format_text" s_format_text f fd) (B : Glb mg) (k_SIGN_OF : DicC K w mg "SIGN_OF" [("letter", "l"), ("call", "c"), ("return", "r")]) : FnOk P w K mg base CX0 1 f fd ["text"] (sp_format_text K) := by
  refine F.ok sc_format_text (fun vs H Q E h => ?_) (fun cdv A outer s H vs Q E hr h => ?_)
  · obtain ⟨a, t, rfl, _⟩ := h
    rfl
  · obtain ⟨a, t, rfl, hT, hd, hlen, q⟩ := h
    have hu := hu_of hr
    obtain ⟨d_SIGN_OF, g_SIGN_OF, hK⟩ := k_SIGN_OF.ex
    refine ⟨_, (pss_one (ps_ret (pe_join pe_str (pe_lc (own := [("kind", 1), ("label", 2)]) (g := (gTup K 2 (gCons (gName 1) (gCons (gName 2) gNil)))) (by rfl) sc_format_text.nd (pi_list (pv 0)) (blkOk_by (own := [("kind", 1), ("label", 2)]) (N := ["text", "kind", "label"]) (sc := defScope s_format_text) (by decide +kernel)) (fun _ _ _ _ _ => (pg_tup rfl (pgs_cons (pg_name (i := 1) sc_format_text.nd rfl (.inl rfl)) (pgs_cons (pg_name (i := 2) sc_format_text.nd rfl (.inl rfl)) pgs_nil)))) (fun _ _ _ _ _ => pts_nil) (fun _ _ _ _ _ => (pe_joinedT (.cons (pe_fmtS (pe_ix (r := rIxD K w) ix_kdict (pe_glob (v := .ref d_SIGN_OF) (by rfl) g_SIGN_OF rfl) (pv 1) (fun _ _ => rfl))) (.cons (pe_fmtI (pv 2)) .nil)))))))), ?_⟩
    obtain ⟨vs, hS, hP⟩ := hT.ex
    have hvl := hP.length
    have hsg : ∀ p : Pl, KDct K w d_SIGN_OF p.kind (.str (sgn p)) := by
      intro p
      cases p with
      | let_ i => rw [← sgn_let i]; exact hK.at_ (by simp [Pl.kind])
      | cal i => rw [← sgn_cal i]; exact hK.at_ (by simp [Pl.kind])
      | ret i => rw [← sgn_ret i]; exact hK.at_ (by simp [Pl.kind])
    walk_at "st"
    refine ⟨⟨_, rfl⟩, ?_⟩
    walk_at "st"
    intro D nD
    refine lc_list (K := K) (a := a) (xs := vs) (fun i H' => Wd (H' D = some (.lst (((t.take i).map wd).map V.str)) ∧ Kp [] H H')) ⟨⟨upd_same, by walk_at "kp"⟩⟩ ?_ ?_ ?_
    · rintro i H' _ ⟨⟨_, k⟩⟩
      exact k.seq hS
    · rintro i v H' hv ⟨⟨hD, k⟩⟩
      obtain ⟨p, hp, tp, rfl, htp⟩ := Pd.get hP hv
      have hi : i < vs.length := (List.getElem?_eq_some_iff.mp hv).1
      have htp2 := k.at0 htp
      have hdp := hd p (List.mem_of_getElem? hp)
      have hml : (((t.take i).map wd).map V.str).length < sizeLine := smallLt (by simp; omega)
      have hs1 := hsg p
      have hs2 := lab_log hdp
      obtain ⟨hs3, hs4⟩ := fmt_len hdp
      have hs5 : (sgn p).length ≤ sizeLine := by show 1 ≤ sizeLine; decide
      walk_at "st"
      refine ⟨⟨?_, by walk_at "kp"⟩⟩
      rw [upd_same, tk_snoc hp, List.map_append, List.map_append]
      exact congrArg (fun s => some (HO.lst (((t.take i).map wd).map V.str ++ [V.str s]))) (wd_fmt hdp)
    · rintro H' ⟨⟨hD, k⟩⟩
      have e0 : t.take vs.length = t := by rw [hvl]; exact List.take_length
      rw [e0] at hD
      walk_at "st"
      have hz : ((t.map wd).map (·.length)).sum + (t.map wd).length * (" " : Str).length ≤ 16777216 := by
        rw [wd_sum, List.length_map, show (" " : Str).length = 1 by decide +kernel]
        omega
      exact ⟨.inl (SqL.of hD), hz, q H' k⟩
end
abbrev s_parse_text : Stmt := topS 19
theorem sc_parse_text : FnScope ["labels", "written", "text", "number", "word", "place"] ["labels", "written"] (defScope s_parse_text) := ⟨rfl, rfl, rfl, by decide +kernel, rfl, by decide +kernel, by decide +kernel⟩
section
variable {P : Program} {w : World} {K : PySem.W.Frag} {mg : Str → Option Value} {base : Heap}
theorem ok_parse_text {f : Addr} {fd : FuncData} (F : Fun K "parse_text" "parse_text" s_parse_text f fd) (B : Glb mg) (c_words_of : Cal P w K mg base 1 "_words_of" ["written"] sp__words_of) (c_place_of : Cal P w K mg base 2 "_place_of" ["labels", "word"] sp__place_ok) (ccheck_text : Cal P w K mg base 3 "check_text" ["labels", "row"] (sp_check_ok K)) : FnOk P w K mg base CX0 4 f fd ["labels", "written"] sp_parse_ok := by
  refine F.ok sc_parse_text (fun vs H Q E h => ?_) (fun cdv A outer s H vs Q E hr h => ?_)
  · obtain ⟨l, x, y, z, t, rfl, _⟩ := h
    rfl
  · obtain ⟨l, x, y, z, t, rfl, hl, hL, hlt, hbal, hlen, q⟩ := h
    have hu := hu_of hr
    refine ⟨_, (pss_cons (ps_set (i := 2) sc_parse_text.nd rfl (.inl rfl) (pe_lst pa_nil))
  (pss_cons (ps_for PassesOwn.never rfl (pi_enum (by rfl) B.enumerate (pa_cons (pe_cal c_words_of (hr.mono (by decide)) (by rfl) (pa_cons (pv 1) pa_nil)) pa_nil)) (pg_tup rfl (pgs_cons (pg_name (i := 3) sc_parse_text.nd rfl (.inl rfl)) (pgs_cons (pg_name (i := 4) sc_parse_text.nd rfl (.inl rfl)) pgs_nil)))
  (pss_cons (ps_set (i := 5) sc_parse_text.nd rfl (.inl rfl) (pe_cal c_place_of (hr.mono (by decide)) (by rfl) (pa_cons (pv 0) (pa_cons (pv 4) pa_nil))))
  (pss_cons (ps_if (pt_cmpR op_isN (pv 5) pe_non (nomark _))
  (pss_one ps_never)
  pss_nil)
  (pss_one (ps_expr (pe_bm PySem.F.plainAttrs_list PySem.F.slot_list_append PySem.F.type_list_append mt_append (pv 2) (pa_cons (pv 5) pa_nil)))))))
  (pss_cons (ps_expr (pe_cal ccheck_text (hr.mono (by decide)) (by rfl) (pa_cons (pv 0) (pa_cons (pv 2) pa_nil))))
  (pss_one (ps_ret (pv 2)))))), ?_⟩
    walk_at "st"
    intro o no
    have hds : ∀ p ∈ t, Dig p := fun p hp => (hlt p hp).dig hL
    have hl1k : t.length ≤ 1000 := by omega
    walk_at "st"
    intro pw H1 nw hpw k1
    have nop : pw ≠ o := (ne_of_none upd_same nw).symm
    have ho1 : H1 o = some (.lst []) := k1.at0 upd_same
    have k01 : Kp [] H H1 := Kp.trans (by walk_at "kp") k1
    have hwl : ((t.map wd).map V.str).length = t.length := by simp
    walk_at "st"
    refine for_enum (K := K) (a := pw) (xs := (t.map wd).map V.str) (fun i σ H2 => Wd <| ∃ (vs : List V) (y3 y4 y5 : Option V), σ = [some (.ref l), some (.str (Txt.join " " (t.map wd))), some (.ref o), y3, y4, y5] ∧ H2 o = some (.lst vs) ∧ Paired (PlV H2) vs (t.take i) ∧ H2 pw = some (.lst ((t.map wd).map V.str)) ∧ Kp [] H H2)
      ⟨⟨[], none, none, none, rfl, ho1, .nil, hpw, k01⟩⟩ ?_ ?_ ?_
    · rintro i σ H2 _ ⟨⟨vs, y3, y4, y5, rfl, h2, hp2, hw2, k2⟩⟩
      exact SqL.of hw2
    · rintro i v T σ H2 hv ⟨⟨vs, y3, y4, y5, rfl, h2, hp2, hw2, k2⟩⟩ nT
      obtain ⟨p, hp, rfl⟩ : ∃ p, t[i]? = some p ∧ v = V.str (wd p) := by
        rw [List.getElem?_map, List.getElem?_map] at hv
        cases e : t[i]? with
        | none => rw [e] at hv; cases hv
        | some p => rw [e] at hv; exact ⟨p, rfl, (Option.some.inj hv).symm⟩
      have hlp := hlt p (List.mem_of_getElem? hp)
      have hl2 := k2.at0 hl
      have hi : i < t.length := (List.getElem?_eq_some_iff.mp hp).1
      have hvl := hp2.length
      rw [List.length_take] at hvl
      have hvs : vs.length < sizeLine := smallLt (by omega)
      have h2' : (upd H2 T (.tup [.int (i : Nat), .str (wd p)])) o = some (.lst vs) := by walk_at "hs"
      have hw' : (upd H2 T (.tup [.int (i : Nat), .str (wd p)])) pw = some (.lst ((t.map wd).map V.str)) := by walk_at "hs"
      walk_at "st"
      intro ap H3 hap k3
      have h3 := k3.at0 h2'
      have hw3 := k3.at0 hw'
      walk_at "st"
      refine ⟨⟨vs ++ [V.ref ap], _, _, _, rfl, upd_same, ?_, by walk_at "hs", ?_⟩⟩
      · rw [tk_snoc hp]
        have tk : TK H2 (upd H3 o (.lst (vs ++ [V.ref ap]))) := ((TK.new nT).trans (.kp k3)).trans (.lst h3)
        exact (Pd.tk hp2 tk).snoc ⟨ap, rfl, TK.lst h3 _ _ hap⟩
      · have kk : Kp [] H H3 := Kp.trans (k2.new nT) k3
        walk_at "kp"
    · rintro σ H2 ⟨⟨vs, y3, y4, y5, rfl, h2, hp2, hw2, k2⟩⟩
      have e0 : t.take ((t.map wd).map V.str).length = t := by rw [hwl]; exact List.take_length
      rw [e0] at hp2
      have hR : RowAt H2 o t := ⟨vs, h2, hp2⟩
      have gR := hR.txt (K := K)
      have hl2 := k2.at0 hl
      walk_at "st"
      intro H3 k3
      walk_at "st"
      exact q o H3 (hR.kp k3) (k2.trans k3)
end
abbrev s__words_of : Stmt := topS 20
theorem sc__words_of : FnScope ["written"] ["written"] (defScope s__words_of) := ⟨rfl, rfl, rfl, by decide +kernel, rfl, by decide +kernel, by decide +kernel⟩
section
variable {P : Program} {w : World} {K : PySem.W.Frag} {mg : Str → Option Value} {base : Heap}
theorem ok__words_of {f : Addr} {fd : FuncData} (F : Fun K "_words_of" "_words_of" s__words_of f fd) (B : Glb mg) : FnOk P w K mg base CX0 1 f fd ["written"] sp__words_of := by
  refine F.ok sc__words_of (fun vs H Q E h => ?_) (fun cdv A outer s H vs Q E hr h => ?_)
  · obtain ⟨t, rfl, _⟩ := h
    rfl
  · obtain ⟨t, rfl, hd, hlen, q⟩ := h
    have hu := hu_of hr
    refine ⟨_, (pss_cons (ps_if (pt_cmpR op_eq (pv 0) pe_str (nomark _))
  (pss_one (ps_ret (pe_lst pa_nil)))
  pss_nil)
  (pss_one (ps_ret (pe_split (pv 0) pe_str)))), ?_⟩
    walk_at "st"
    apply iteD
    · intro e
      have et : t = [] := by
        cases t with
        | nil => rfl
        | cons p t => exact absurd (V.str.inj e) (join_ne (by simp) hd)
      subst et
      walk_at "st"
      intro p np
      exact q p _ np upd_same (by walk_at "kp")
    · intro e
      have et : t ≠ [] := by
        intro z
        subst z
        exact e (congrArg V.str join_nil)
      have hj := join_len t
      have hb : ((" " : Str).length == 0) = false := by decide +kernel
      have hz : (Txt.join " " (t.map wd)).length + 2 ≤ sizeLine := small (by omega)
      walk_at "st"
      refine ⟨⟨_, rfl⟩, ?_⟩
      walk_at "st"
      rw [join_split et hd]
      intro p np
      exact q p _ np upd_same (by walk_at "kp")
end
abbrev s__place_of : Stmt := topS 21
theorem sc__place_of : FnScope ["labels", "word", "place"] ["labels", "word"] (defScope s__place_of) := ⟨rfl, rfl, rfl, by decide +kernel, rfl, by decide +kernel, by decide +kernel⟩
section
variable {P : Program} {w : World} {K : PySem.W.Frag} {mg : Str → Option Value} {base : Heap}
theorem ok__place_of {f : Addr} {fd : FuncData} (F : Fun K "_place_of" "_place_of" s__place_of f fd) (B : Glb mg) (chas_label : Cal P w K mg base 1 "has_label" ["labels", "place"] sp_has_label) (k_KIND_OF : DicC K w mg "KIND_OF" [("l", "letter"), ("c", "call"), ("r", "return")]) (k_DIGITS : StrC mg "DIGITS" "0123456789") : FnOk P w K mg base CX0 2 f fd ["labels", "word"] sp__place_ok := by
  refine F.ok sc__place_of (fun vs H Q E h => ?_) (fun cdv A outer s H vs Q E hr h => ?_)
  · obtain ⟨l, x, y, z, p, rfl, _⟩ := h
    rfl
  · obtain ⟨l, x, y, z, p, rfl, hl, hL, hP, q⟩ := h
    have hu := hu_of hr
    obtain ⟨d_KIND_OF, g_KIND_OF, h_KIND_OF⟩ := k_KIND_OF.ex
    refine ⟨_, (pss_cons (ps_if (PW.pt (pw_or2 (pt_cmpR op_ne (pe_callB call_len_str (by rfl) B.len PySem.boot_len (pa_cons (pv 1) pa_nil)) pe_int (nomark _)) (pw_or2 (pt_cmpR (op_notInKD h_KIND_OF) (pe_ix ix_str (pv 1) pe_int (fun _ _ => rfl)) (pe_glob (v := .ref d_KIND_OF) (by rfl) g_KIND_OF rfl) (by rfl)) (pw_or1 (pt_cmpR op_notIn_sign (pe_ix ix_str (pv 1) pe_int (fun _ _ => rfl)) (k_DIGITS.pe (by rfl)) (by rfl))))))
  (pss_one (ps_ret pe_non))
  pss_nil)
  (pss_cons (ps_set (i := 2) sc__place_of.nd rfl (.inl rfl) (pe_tup (pa_cons (pe_ix ix_kdict (pe_glob (v := .ref d_KIND_OF) (by rfl) g_KIND_OF rfl) (pe_ix ix_str (pv 1) pe_int (fun _ _ => rfl)) (fun _ _ => rfl)) (pa_cons (pe_callTy call_int_str (by rfl) B.int (by decide +kernel) (pa_cons (pe_ix ix_str (pv 1) pe_int (fun _ _ => rfl)) pa_nil)) pa_nil))))
  (pss_one (ps_ret (pe_ifExp (pt_val (pe_cal chas_label (hr.mono (by decide)) (by rfl) (pa_cons (pv 0) (pa_cons (pv 2) pa_nil)))) (pv 2) pe_non))))), ?_⟩
    have hd := hP.dig hL
    have hk : KDct K w d_KIND_OF (sgn p) (.str p.kind) := by
      cases p with
      | let_ i => rw [← sgn_let i]; exact h_KIND_OF.at_ (by simp [Pl.kind])
      | cal i => rw [← sgn_cal i]; exact h_KIND_OF.at_ (by simp [Pl.kind])
      | ret i => rw [← sgn_ret i]; exact h_KIND_OF.at_ (by simp [Pl.kind])
    have hk2 := hk
    obtain ⟨es, n, u, _, _, hn, _⟩ := hk2
    have w0 : atI (wd p).cps.toList 0 = some (sc p) := atI_nat (j := 0) rfl
    have w1 : atI (wd p).cps.toList 1 = some (48 + p.lab.toNat) := atI_nat (j := 1) rfl
    have wl : (wd p).length ≤ sizeLine := by show 2 ≤ sizeLine; decide
    have wi := wd_int hd
    have wi2 : (⟨#[48 + p.lab.toNat]⟩ : Str).length ≤ 640 := by show 1 ≤ 640; decide
    have hn' : PySem.W.nsIn K d_KIND_OF (⟨#[sc p]⟩ : Str) = some (some u) := hn
    have hk' : KDct K w d_KIND_OF (⟨#[sc p]⟩ : Str) (.str p.kind) := hk
    walk_at "st"
    refine iteN (by have e := wd_digit hd; simp [wd_len] at e ⊢; exact e) ?_
    walk_at "st"
    intro a na
    walk_at "st"
    refine iteY hP.has ?_
    walk_at "st"
    exact q a _ upd_same (by walk_at "kp")
end
abbrev s__law_draws : Stmt := topS 23
theorem sc__law_draws : FnScope ["cell", "modulus", "count", "number", "row", "k", "mixed"] ["cell", "modulus", "count"] (defScope s__law_draws) := ⟨rfl, rfl, rfl, by decide +kernel, rfl, by decide +kernel, by decide +kernel⟩
section
variable {P : Program} {w : World} {K : PySem.W.Frag} {mg : Str → Option Value} {base : Heap}
theorem ok__law_draws {f : Addr} {fd : FuncData} (F : Fun K "_law_draws" "_law_draws" s__law_draws f fd) (B : Glb mg) : FnOk P w K mg base CX0 1 f fd ["cell", "modulus", "count"] sp__law_draws := by
  refine F.ok sc__law_draws (fun vs H Q E h => ?_) (fun cdv A outer s H vs Q E hr h => ?_)
  · obtain ⟨c, m, k, rfl, _⟩ := h
    rfl
  · obtain ⟨c, m, k, rfl, hm, hm2, hk, hk2, q⟩ := h
    have hu := hu_of hr
    refine ⟨_, (pss_cons (ps_set (i := 3) sc__law_draws.nd rfl (.inl rfl) (pv 0))
  (pss_cut (ps_if (pt_cmpR op_lt (pv 3) pe_int (nomark _))
  (pss_one (ps_set (i := 3) sc__law_draws.nd rfl (.inl rfl) (pe_op op_sub pe_int (pv 3))))
  pss_nil)
  (pss_cons (ps_set (i := 4) sc__law_draws.nd rfl (.inl rfl) (pe_lst pa_nil))
  (pss_cons (ps_if (pt_cmpR op_ge (pv 3) (pe_op op_pow pe_int pe_int) (nomark _))
  (pss_cons (ps_for PassesOwn.never rfl (pi_rn1 (by rfl) B.range (pa_cons (pv 2) pa_nil)) (pg_name (i := 5) sc__law_draws.nd rfl (.inl rfl))
  (pss_cons (ps_expr (pe_bm PySem.F.plainAttrs_list PySem.F.slot_list_append PySem.F.type_list_append mt_append (pv 4) (pa_cons (pe_op op_mod (pe_callTy call_intI (by rfl) B.int (by decide +kernel) (pa_cons (pv 3) pa_nil)) (pv 1)) pa_nil)))
  (pss_one (ps_set (i := 3) sc__law_draws.nd rfl (.inl rfl) (pe_op op_fdiv (pv 3) (pv 1))))))
  (pss_one (ps_ret (pv 4))))
  pss_nil)
  (pss_cons (ps_for PassesOwn.never rfl (pi_rn1 (by rfl) B.range (pa_cons (pv 2) pa_nil)) (pg_name (i := 5) sc__law_draws.nd rfl (.inl rfl))
  (pss_cons (ps_set (i := 6) sc__law_draws.nd rfl (.inl rfl) (pe_op op_mod (pe_callTy call_intI (by rfl) B.int (by decide +kernel) (pa_cons (pe_op op_mul (pe_op op_add (pe_op op_add (pv 3) (pe_op op_mul pe_int (pv 5))) pe_int) pe_int) pa_nil)) pe_int))
  (pss_cons (ps_set (i := 6) sc__law_draws.nd rfl (.inl rfl) (pe_op op_mod (pe_callTy call_intI (by rfl) B.int (by decide +kernel) (pa_cons (pe_op op_add (pe_op op_mul (pv 6) pe_int) (pe_op op_mul pe_int (pv 5))) pa_nil)) pe_int))
  (pss_one (ps_expr (pe_bm PySem.F.plainAttrs_list PySem.F.slot_list_append PySem.F.type_list_append mt_append (pv 4) (pa_cons (pe_op op_mod (pe_callTy call_intI (by rfl) B.int (by decide +kernel) (pa_cons (pe_op op_fdiv (pv 6) pe_int) pa_nil)) (pv 1)) pa_nil)))))))
  (pss_one (ps_ret (pv 4)))))))), ?_⟩
    have cp : CPow 10 18 := ⟨by decide, by decide, by decide⟩
    have cd : ∀ z, CDiv z m := fun z => ⟨by omega, by omega⟩
    have grow : ∀ (rs : List Int) (x : Int), rs.map V.int ++ [V.int x] = (rs ++ [x]).map V.int := fun rs x => by simp
    walk_at "st"
    refine ⟨fun σ' H' => Wd (H' = H ∧ ∃ n : Int, σ' = [some (.int c), some (.int m), some (.int k), some (.int n), none, none, none]), ?_, ?_⟩
    · walk_at "st"
      refine iteD (fun e => ?_) (fun e => ?_)
      · walk_at "st"
        exact ⟨⟨rfl, _, rfl⟩⟩
      · exact ⟨⟨rfl, _, rfl⟩⟩
    rintro σ1 H1 ⟨⟨rfl, n, rfl⟩⟩
    walk_at "st"
    intro o ho
    walk_at "st"
    refine iteD (fun e => ?_) (fun e => ?_)
    · walk_at "st"
      refine for_range (lo := 0) (fun i σ H2 => Wd <| ∃ (z : Int) (rs : List Int) (y5 : Option V), σ = [some (.int c), some (.int m), some (.int k), some (.int z), some (.ref o), y5, none] ∧ rs.length = i ∧ H2 o = some (.lst (rs.map V.int)) ∧ Kp [] H1 H2) ⟨⟨n, [], none, rfl, rfl, upd_same, by walk_at "kp"⟩⟩ ?_ ?_
      · rintro i σ H2 hi ⟨⟨z, rs, y5, rfl, hl, h2, k2⟩⟩
        have hl2 : (rs.map V.int).length = i := by simp [hl]
        walk_at "st"
        refine ⟨⟨_, rs ++ [z % m], _, rfl, by simp [hl], upd_int, by walk_at "kp"⟩⟩
      · rintro σ H2 ⟨⟨z, rs, y5, rfl, hl, h2, k2⟩⟩
        walk_at "st"
        exact q _ _ rs (by omega) ho h2 k2
    · walk_at "st"
      refine for_range (lo := 0) (fun i σ H2 => Wd <| ∃ (rs : List Int) (y5 y6 : Option V), σ = [some (.int c), some (.int m), some (.int k), some (.int n), some (.ref o), y5, y6] ∧ rs.length = i ∧ H2 o = some (.lst (rs.map V.int)) ∧ Kp [] H1 H2) ⟨⟨[], none, none, rfl, rfl, upd_same, by walk_at "kp"⟩⟩ ?_ ?_
      · rintro i σ H2 hi ⟨⟨rs, y5, y6, rfl, hl, h2, k2⟩⟩
        have hl2 : (rs.map V.int).length = i := by simp [hl]
        walk_at "st"
        refine ⟨⟨rs ++ [_], _, _, rfl, by simp [hl], upd_int, by walk_at "kp"⟩⟩
      · rintro σ H2 ⟨⟨rs, y5, y6, rfl, hl, h2, k2⟩⟩
        walk_at "st"
        exact q _ _ rs (by omega) ho h2 k2
end
abbrev s__law_box : Stmt := topS 24
theorem sc__law_box : FnScope ["script", "row", "cell"] ["script"] (defScope s__law_box) := ⟨rfl, rfl, rfl, by decide +kernel, rfl, by decide +kernel, by decide +kernel⟩
section
variable {P : Program} {w : World} {K : PySem.W.Frag} {mg : Str → Option Value} {base : Heap}
theorem ok__law_box {f : Addr} {fd : FuncData} (F : Fun K "_law_box" "_law_box" s__law_box f fd) (B : Glb mg) (c_law_draws : Cal P w K mg base 1 "_law_draws" ["cell", "modulus", "count"] sp__law_draws) : FnOk P w K mg base CX0 2 f fd ["script"] (sp__law_box K) := by
  refine F.ok sc__law_box (fun vs H Q E h => ?_) (fun cdv A outer s H vs Q E hr h => ?_)
  · obtain ⟨a, ns, rfl, _⟩ := h
    rfl
  · obtain ⟨a, ns, rfl, hS, hn, q⟩ := h
    have hu := hu_of hr
    refine ⟨_, (pss_cons (ps_set (i := 1) sc__law_box.nd rfl (.inl rfl) (pe_lst pa_nil))
  (pss_cons (ps_for PassesOwn.never rfl (pi_list (pv 0)) (pg_name (i := 2) sc__law_box.nd rfl (.inl rfl))
  (pss_one (ps_set (i := 1) sc__law_box.nd rfl (.inl rfl) (pe_op op_cat (pv 1) (pe_cal c_law_draws (hr.mono (by decide)) (by rfl) (pa_cons (pv 2) (pa_cons pe_int (pa_cons pe_int pa_nil))))))))
  (pss_cut (ps_if (pt_cmpR op_eq (pe_callB (call_lenL) (by rfl) B.len PySem.boot_len (pa_cons (pv 1) pa_nil)) pe_int (nomark _))
  (pss_one (ps_set (i := 1) sc__law_box.nd rfl (.inl rfl) (pe_lst (pa_cons pe_int (pa_cons pe_int (pa_cons pe_int (pa_cons pe_int (pa_cons pe_int (pa_cons pe_int (pa_cons pe_int pa_nil))))))))))
  pss_nil)
  (pss_one (ps_ret (pe_disp (pps_cons pe_str (pv 1) (pps_cons pe_str pe_int pps_nil)) (by rfl) (by rfl) (fun z => by cases z) (by decide))))))), ?_⟩
    walk_at "st"
    intro o ho
    walk_at "st"
    refine for_list (K := K) (a := a) (xs := ns.map V.int) (fun i σ H2 => Wd <| ∃ (o2 : Addr) (rs : List Int) (y : Option V), σ = [some (.ref a), some (.ref o2), y] ∧ rs.length = 6 * i ∧ H2 o2 = some (.lst (rs.map V.int)) ∧ H o2 = none ∧ Kp [] H H2) ⟨⟨o, [], none, rfl, rfl, upd_same, ho, by walk_at "kp"⟩⟩ ?_ ?_ ?_
    · rintro i σ H2 _ ⟨⟨o2, rs, y, rfl, hl, h2, ho2, k2⟩⟩
      exact k2.seq hS
    · rintro i x σ H2 hx ⟨⟨o2, rs, y, rfl, hl, h2, ho2, k2⟩⟩
      obtain ⟨z, hz, rfl⟩ : ∃ z, ns[i]? = some z ∧ V.int z = x := by
        rw [List.getElem?_map] at hx
        cases e : ns[i]? with
        | none => rw [e] at hx; cases hx
        | some z => rw [e] at hx; exact ⟨z, rfl, Option.some.inj hx⟩
      have hi : i < ns.length := (List.getElem?_eq_some_iff.mp hz).1
      walk_at "st"
      intro p H3 ts hts hp h3 k3
      have h23 : H3 o2 = some (.lst (rs.map V.int)) := k3.at0 h2
      walk_at "st"
      intro p2 hp2
      exact ⟨⟨p2, rs ++ ts, _, rfl, by rw [List.length_append]; omega, by rw [upd_same, List.map_append], k2.fresh (k3.fresh hp2), (k2.trans k3).new hp2⟩⟩
    · rintro σ H2 ⟨⟨o2, rs, y, rfl, hl, h2, ho2, k2⟩⟩
      rw [List.length_map] at hl
      walk_at "st"
      refine ⟨fun σ' H' => Wd <| ∃ (o2 : Addr) (rs : List Int), σ' = [some (.ref a), some (.ref o2), y] ∧ 0 < rs.length ∧ rs.length ≤ 400 ∧ H' o2 = some (.lst (rs.map V.int)) ∧ Kp [] H H', ?_, ?_⟩
      · walk_at "st"
        refine iteD (fun e => ?_) (fun e => ?_)
        · walk_at "st"
          intro p hp
          exact ⟨⟨p, [11, 5, 2, 7, 31, 101, 997], rfl, by decide, by decide, upd_same, k2.new hp⟩⟩
        · refine ⟨⟨o2, rs, rfl, ?_, by omega, h2, k2⟩⟩
          have e' : ¬ (((rs.map V.int).length : Nat) : Int) = 0 := fun z => e (congrArg V.int z)
          rw [List.length_map] at e'
          omega
      rintro σ' H' ⟨⟨o3, rs3, rfl, l1, l2, h3, k3⟩⟩
      walk_at "st"
      intro p hp
      have hk : [(V.str "row", V.ref o3), (V.str "at", V.int 0)] = (boxD o3 0).map (fun kv => (kV kv.1, kv.2)) := rfl
      have hk15 : (boxD o3 0).length ≤ 15 := by show 2 ≤ 15; decide
      walk_at "st"
      have em : mergeK [] (boxD o3 0) = boxD o3 0 := by
        unfold mergeK boxD
        simp [putK, kRA]
      show Q _ (upd (upd H' p (.dK [])) p (.dK (mergeK [] (boxD o3 0))))
      rw [em, upd_upd]
      have h4 : (upd H' p (.dK (boxD o3 0))) o3 = some (.lst (rs3.map V.int)) := by walk_at "hs"
      exact q p o3 _ ⟨rs3, 0, upd_same, h4, l1, by omega, by decide⟩ (k3.fresh hp) (k3.new hp)
end
abbrev s__law_next : Stmt := topS 25
theorem sc__law_next : FnScope ["box", "modulus", "at", "number"] ["box", "modulus"] (defScope s__law_next) := ⟨rfl, rfl, rfl, by decide +kernel, rfl, by decide +kernel, by decide +kernel⟩
section
variable {P : Program} {w : World} {K : PySem.W.Frag} {mg : Str → Option Value} {base : Heap}
theorem ok__law_next {f : Addr} {fd : FuncData} (F : Fun K "_law_next" "_law_next" s__law_next f fd) (B : Glb mg) : FnOk P w K mg base CX0 1 f fd ["box", "modulus"] sp__law_next := by
  refine F.ok sc__law_next (fun vs H Q E h => ?_) (fun cdv A outer s H vs Q E hr h => ?_)
  · obtain ⟨b, r, m, rfl, _⟩ := h
    rfl
  · obtain ⟨b, r, m, rfl, hm, hm2, hb, q⟩ := h
    have hu := hu_of hr
    obtain ⟨rs, n, h1, h2, h3, h4, h5⟩ := hb.ex
    refine ⟨_, (pss_cons (ps_set (i := 2) sc__law_next.nd rfl (.inl rfl) (pe_dget hu (pv 0) pe_str (fun _ _ => rfl)))
  (pss_cons (ps_dput hu (pv 0) pe_str (pe_op op_add (pv 2) pe_int) rfl)
  (pss_cons (ps_set (i := 3) sc__law_next.nd rfl (.inl rfl) (pe_ix ix_list (pe_dget hu (pv 0) pe_str (fun _ _ => rfl)) (pe_op op_mod (pv 2) (pe_callB (call_lenL) (by rfl) B.len PySem.boot_len (pa_cons (pe_dget hu (pv 0) pe_str (fun _ _ => rfl)) pa_nil))) (fun _ _ => rfl)))
  (pss_one (ps_ret (pe_op op_mod (pe_callTy call_intI (by rfl) B.int (by decide +kernel) (pa_cons (pe_op op_add (pv 3) (pe_op op_mul pe_int (pe_op op_fdiv (pv 2) (pe_callB (call_lenL) (by rfl) B.len PySem.boot_len (pa_cons (pe_dget hu (pv 0) pe_str (fun _ _ => rfl)) pa_nil))))) pa_nil)) (pv 1))))))), ?_⟩
    have nrb : r ≠ b := ne_of h2 h1 (by intro z; cases z)
    have g1 : DGet H b (.str "at") (some (.int n)) := by have g := DGet.k (k := kAt) h1; rw [box_at] at g; exact g
    have p1 : DPut H b (.str "at") (.int (n + 1)) (upd H b (.dK (boxD r (n + 1)))) := by have g := DPut.k (k := kAt) (v := .int (n + 1)) h1 (by show 2 < sizeLine; decide); rw [box_put] at g; exact g
    have e1 : (upd H b (.dK (boxD r (n + 1)))) r = some (.lst (rs.map V.int)) := by walk_at "hs"
    have g2 : DGet (upd H b (.dK (boxD r (n + 1)))) b (.str "row") (some (.ref r)) := by have g := DGet.k (k := kRow) (H := upd H b (.dK (boxD r (n + 1)))) upd_same; rw [box_row] at g; exact g
    have hl : (rs.map V.int).length = rs.length := List.length_map ..
    have hi : ∃ x, rs[(n % (rs.length : Int)).toNat]? = some x := by
      have a1 : n % (rs.length : Int) < rs.length := Int.emod_lt_of_pos _ (by omega)
      have a2 : 0 ≤ n % (rs.length : Int) := Int.emod_nonneg _ (by omega)
      exact ⟨_, List.getElem?_eq_getElem (by omega)⟩
    obtain ⟨x, hx⟩ := hi
    have ax : atI (rs.map V.int) (n % ((rs.map V.int).length : Int)) = some (.int x) := by
      rw [hl]
      refine at_of (j := (n % (rs.length : Int)).toNat) ?_ ?_
      · have a2 : 0 ≤ n % (rs.length : Int) := Int.emod_nonneg _ (by omega)
        omega
      · rw [List.getElem?_map, hx]; rfl
    have hc : CDiv n (((rs.map V.int).length : Nat) : Int) := by rw [hl]; exact ⟨by omega, by omega⟩
    have hp : (0 : Int) < (((rs.map V.int).length : Nat) : Int) := by rw [hl]; omega
    have hM : ∀ z : Int, CMul 7919 z := fun z => .inl ⟨by decide, by decide⟩
    walk_at "st"
    exact q _ _ (Int.emod_nonneg _ (by omega)) (Int.emod_lt_of_pos _ hm) ⟨rs, n + 1, upd_same, e1, h3, h4, by omega⟩ (by walk_at "kp")
end
abbrev s__law_labels : Stmt := topS 26
theorem sc__law_labels : FnScope ["box"] ["box"] (defScope s__law_labels) := ⟨rfl, rfl, rfl, by decide +kernel, rfl, by decide +kernel, by decide +kernel⟩
section
variable {P : Program} {w : World} {K : PySem.W.Frag} {mg : Str → Option Value} {base : Heap}
theorem ok__law_labels {f : Addr} {fd : FuncData} (F : Fun K "_law_labels" "_law_labels" s__law_labels f fd) (B : Glb mg) (c_law_next : Cal P w K mg base 1 "_law_next" ["box", "modulus"] sp__law_next) : FnOk P w K mg base CX0 2 f fd ["box"] sp__law_labels := by
  refine F.ok sc__law_labels (fun vs H Q E h => ?_) (fun cdv A outer s H vs Q E hr h => ?_)
  · obtain ⟨b, r, rfl, _⟩ := h
    rfl
  · obtain ⟨b, r, rfl, hb, q⟩ := h
    have hu := hu_of hr
    refine ⟨_, (pss_one (ps_ret (pe_tup (pa_cons (pe_op op_add pe_int (pe_cal c_law_next (hr.mono (by decide)) (by rfl) (pa_cons (pv 0) (pa_cons pe_int pa_nil)))) (pa_cons (pe_op op_add pe_int (pe_cal c_law_next (hr.mono (by decide)) (by rfl) (pa_cons (pv 0) (pa_cons pe_int pa_nil)))) (pa_cons (pe_op op_add pe_int (pe_cal c_law_next (hr.mono (by decide)) (by rfl) (pa_cons (pv 0) (pa_cons pe_int pa_nil)))) pa_nil)))))), ?_⟩
    walk_at "st"
    intro v1 H1 a1 a2 b1 k1
    walk_at "st"
    intro v2 H2 a3 a4 b2 k2
    walk_at "st"
    intro v3 H3 a5 a6 b3 k3
    walk_at "st"
    intro p hp
    exact q p _ (1 + v1) (1 + v2) (1 + v3) ⟨by omega, by omega, by omega, by omega, by omega, by omega⟩ upd_same (((k1.trans k2).trans k3).fresh hp) (b3.kp ((Kp.refl _ _).new hp)) (((k1.trans k2).trans k3).new hp) 
end
abbrev s__law_text : Stmt := topS 27
theorem sc__law_text : FnScope ["box", "labels", "most", "row", "opened", "k", "choice"] ["box", "labels", "most"] (defScope s__law_text) := ⟨rfl, rfl, rfl, by decide +kernel, rfl, by decide +kernel, by decide +kernel⟩
section
variable {P : Program} {w : World} {K : PySem.W.Frag} {mg : Str → Option Value} {base : Heap}
theorem ok__law_text {f : Addr} {fd : FuncData} (F : Fun K "_law_text" "_law_text" s__law_text f fd) (B : Glb mg) (c_law_next : Cal P w K mg base 1 "_law_next" ["box", "modulus"] sp__law_next) : FnOk P w K mg base CX0 2 f fd ["box", "labels", "most"] (sp__law_text K) := by
  refine F.ok sc__law_text (fun vs H Q E h => ?_) (fun cdv A outer s H vs Q E hr h => ?_)
  · obtain ⟨b, r, l, x, y, z, m, rfl, _⟩ := h
    rfl
  · obtain ⟨b, r, l, x, y, z, m, rfl, hb, hl, hL, hm0, hm1, q⟩ := h
    have hu := hu_of hr
    refine ⟨_, (pss_cons (ps_set (i := 3) sc__law_text.nd rfl (.inl rfl) (pe_lst pa_nil))
  (pss_cons (ps_set (i := 4) sc__law_text.nd rfl (.inl rfl) pe_int)
  (pss_cons (ps_for PassesOwn.never rfl (pi_rn1 (by rfl) B.range (pa_cons (pv 2) pa_nil)) (pg_name (i := 5) sc__law_text.nd rfl (.inl rfl))
  (pss_cons (ps_set (i := 6) sc__law_text.nd rfl (.inl rfl) (pe_cal c_law_next (hr.mono (by decide)) (by rfl) (pa_cons (pv 0) (pa_cons pe_int pa_nil))))
  (pss_one (ps_if (PW.pt (pw_and2 (pt_cmpR op_lt (pv 6) pe_int (nomark _)) (pw_and1 (pt_cmpR op_le (pe_op op_add (pe_op op_add (pe_callB (call_lenL) (by rfl) B.len PySem.boot_len (pa_cons (pv 3) pa_nil)) (pv 4)) pe_int) (pv 2) (nomark _)))))
  (pss_cons (ps_expr (pe_bm PySem.F.plainAttrs_list PySem.F.slot_list_append PySem.F.type_list_append mt_append (pv 3) (pa_cons (pe_tup (pa_cons pe_str (pa_cons (pe_cal c_law_next (hr.mono (by decide)) (by rfl) (pa_cons (pv 0) (pa_cons (pe_ix ix_tup (pv 1) pe_int (fun _ _ => rfl)) pa_nil))) pa_nil))) pa_nil)))
  (pss_one (ps_set (i := 4) sc__law_text.nd rfl (.inl rfl) (pe_op op_add (pv 4) pe_int))))
  (pss_one (ps_if (PW.pt (pw_and2 (pt_cmpR op_lt (pv 6) pe_int (nomark _)) (pw_and1 (pt_cmpR op_gt (pv 4) pe_int (nomark _)))))
  (pss_cons (ps_expr (pe_bm PySem.F.plainAttrs_list PySem.F.slot_list_append PySem.F.type_list_append mt_append (pv 3) (pa_cons (pe_tup (pa_cons pe_str (pa_cons (pe_cal c_law_next (hr.mono (by decide)) (by rfl) (pa_cons (pv 0) (pa_cons (pe_ix ix_tup (pv 1) pe_int (fun _ _ => rfl)) pa_nil))) pa_nil))) pa_nil)))
  (pss_one (ps_set (i := 4) sc__law_text.nd rfl (.inl rfl) (pe_op op_sub (pv 4) pe_int))))
  (pss_one (ps_if (pt_cmpR op_lt (pe_op op_add (pe_callB (call_lenL) (by rfl) B.len PySem.boot_len (pa_cons (pv 3) pa_nil)) (pv 4)) (pv 2) (nomark _))
  (pss_one (ps_expr (pe_bm PySem.F.plainAttrs_list PySem.F.slot_list_append PySem.F.type_list_append mt_append (pv 3) (pa_cons (pe_tup (pa_cons pe_str (pa_cons (pe_cal c_law_next (hr.mono (by decide)) (by rfl) (pa_cons (pv 0) (pa_cons (pe_ix ix_tup (pv 1) pe_int (fun _ _ => rfl)) pa_nil))) pa_nil))) pa_nil))))
  pss_nil))))))))
  (pss_cons (ps_for PassesOwn.never rfl (pi_rn1 (by rfl) B.range (pa_cons (pv 4) pa_nil)) (pg_name (i := 5) sc__law_text.nd rfl (.inl rfl))
  (pss_one (ps_expr (pe_bm PySem.F.plainAttrs_list PySem.F.slot_list_append PySem.F.type_list_append mt_append (pv 3) (pa_cons (pe_tup (pa_cons pe_str (pa_cons (pe_cal c_law_next (hr.mono (by decide)) (by rfl) (pa_cons (pv 0) (pa_cons (pe_ix ix_tup (pv 1) pe_int (fun _ _ => rfl)) pa_nil))) pa_nil))) pa_nil)))))
  (pss_one (ps_ret (pv 3))))))), ?_⟩
    obtain ⟨L1, L2, L3, L4, L5, L6⟩ := id hL
    have a0 : atI [V.int x, V.int y, V.int z] 0 = some (.int x) := atI_nat (j := 0) rfl
    have a1 : atI [V.int x, V.int y, V.int z] 1 = some (.int y) := atI_nat (j := 1) rfl
    have a2 : atI [V.int x, V.int y, V.int z] 2 = some (.int z) := atI_nat (j := 2) rfl
    have nlb := hb.tupin hl
    walk_at "st"
    intro o ho
    have nob := hb.neb ho
    have nor := hb.ner ho
    have noq := hb.nin ho
    have hb0 : BoxAt (upd H o (.lst [])) b r := hb.upd nob nor
    -- a place put at the end of the row
    have put : ∀ (H2 H3 : Hp) (p : Addr) (vs' : List V) (t : List Pl) (c : Pl), H2 o = some (.lst vs') → Paired (PlV H2) vs' t → BoxAt H2 b r → Kp [b] H2 H3 → BoxAt H3 b r → H3 p = none → Kp [b] H H2 →
        H3 o = some (.lst vs') ∧ (upd H3 p (.tup c.vs)) o = some (.lst vs') ∧ Paired (PlV (upd (upd H3 p (.tup c.vs)) o (.lst (vs' ++ [.ref p])))) (vs' ++ [.ref p]) (t ++ [c]) ∧ BoxAt (upd (upd H3 p (.tup c.vs)) o (.lst (vs' ++ [.ref p]))) b r ∧ Kp [b] H (upd (upd H3 p (.tup c.vs)) o (.lst (vs' ++ [.ref p]))) := by
      intro H2 H3 p vs' t c h2 hp hb2 k3 hb3 np k2
      have h3o : H3 o = some (.lst vs') := k3.at_ h2 noq
      have npo : p ≠ o := (ne_of_none h3o np).symm
      have h3' : (upd H3 p (.tup c.vs)) o = some (.lst vs') := by walk_at "hs"
      have tk : TK H2 (upd (upd H3 p (.tup c.vs)) o (.lst (vs' ++ [.ref p]))) := ((TK.box hb2 k3).trans (.new np)).trans (.lst h3')
      exact ⟨h3o, h3', (Pd.tk hp tk).snoc ⟨p, rfl, by rw [upd_ne npo]; exact upd_same⟩, (hb3.upd (hb3.neb np) (hb3.ner np)).upd nob nor, ((k2.trans k3).new np).own ho⟩
    walk_at "st"
    refine for_range (lo := 0) (fun i σ H2 => Wd <| ∃ (n : Nat) (vs' : List V) (t : List Pl) (y5 y6 : Option V), σ = [some (.ref b), some (.ref l), some (.int m), some (.ref o), some (.int n), y5, y6] ∧
      H2 o = some (.lst vs') ∧ Paired (PlV H2) vs' t ∧ ht t 0 = some n ∧ LabT x y z t ∧ (t.length + n : Int) ≤ m ∧ BoxAt H2 b r ∧ Kp [b] H H2) ⟨⟨0, [], [], none, none, rfl, upd_same, .nil, rfl, fun _ h => (by cases h), by simpa using hm0, hb0, by walk_at "kp"⟩⟩ ?_ ?_
    · rintro i σ H2 hi ⟨⟨n, vs', t, y5, y6, rfl, h2, hp, hh, hlt, hlen, hb2, k2⟩⟩
      have hvl := hp.length
      walk_at "st"
      intro c H3 c1 c2 hb3 k3
      have h3 : H3 o = some (.lst vs') := k3.at_ h2 noq
      have hl3 : H3 l = some (.tup [.int x, .int y, .int z]) := (k2.trans k3).at_ hl nlb
      have stay : ∀ s, s = [some (V.ref b), some (V.ref l), some (V.int m), some (V.ref o), some (V.int n), some (V.int (0 + i)), some (V.int c)] → Wd (∃ (n : Nat) (vs' : List V) (t : List Pl) (y5 y6 : Option V), s = [some (.ref b), some (.ref l), some (.int m), some (.ref o), some (.int n), y5, y6] ∧
        H3 o = some (.lst vs') ∧ Paired (PlV H3) vs' t ∧ ht t 0 = some n ∧ LabT x y z t ∧ (t.length + n : Int) ≤ m ∧ BoxAt H3 b r ∧ Kp [b] H H3) := fun s e => ⟨⟨n, vs', t, _, _, e, h3, Pd.tk hp (.box hb2 k3), hh, hlt, hlen, hb3, k2.trans k3⟩⟩
      -- the ways of the choice
      have hvlt : vs'.length < sizeLine := smallLt (by omega)
      walk_at "st"
      apply iteAD
      · intro e1 e2
        -- a call
        walk_at "st"
        intro d H4 d1 d2 hb4 k4
        walk_at "st"
        intro p np
        obtain ⟨p1, p2, p3, p4, p5⟩ := put H2 H4 p vs' t (.cal d) h2 hp hb2 (k3.trans k4) hb4 np k2
        walk_at "st"
        refine ⟨⟨n + 1, vs' ++ [V.ref p], t ++ [Pl.cal d], _, _, rfl, upd_same, p3, ?_, hlt.snoc ⟨d1, d2⟩, ?_, p4, p5⟩⟩
        · rw [ht_app, hh]; rfl
        · rw [List.length_append]; simp; omega
      · intro e1
        walk_at "st"
        apply iteAD
        · intro e2 e3
          -- a return
          walk_at "st"
          intro d H4 d1 d2 hb4 k4
          walk_at "st"
          intro p np
          obtain ⟨p1, p2, p3, p4, p5⟩ := put H2 H4 p vs' t (.ret d) h2 hp hb2 (k3.trans k4) hb4 np k2
          walk_at "st"
          obtain ⟨j, rfl⟩ : ∃ j, n = j + 1 := ⟨n - 1, by omega⟩
          have ej : ((j + 1 : Nat) : Int) - 1 = (j : Int) := by omega
          refine ⟨⟨j, vs' ++ [V.ref p], t ++ [Pl.ret d], _, _, by rw [← ej]; rfl, upd_same, p3, ?_, hlt.snoc ⟨d1, d2⟩, ?_, p4, p5⟩⟩
          · rw [ht_app, hh]; rfl
          · rw [List.length_append]; simp; omega
        · intro e2
          walk_at "st"
          apply iteD
          · intro e3
            walk_at "st"
            intro d H4 d1 d2 hb4 k4
            walk_at "st"
            intro p np
            obtain ⟨p1, p2, p3, p4, p5⟩ := put H2 H4 p vs' t (.let_ d) h2 hp hb2 (k3.trans k4) hb4 np k2
            walk_at "st"
            refine ⟨⟨n, vs' ++ [V.ref p], t ++ [Pl.let_ d], _, _, rfl, upd_same, p3, ?_, hlt.snoc ⟨d1, d2⟩, ?_, p4, p5⟩⟩
            · rw [ht_app, hh]; rfl
            · rw [List.length_append]; simp; omega
          · intro e3
            exact stay _ rfl
    · rintro σ H2 ⟨⟨n, vs', t, y5, y6, rfl, h2, hp, hh, hlt, hlen, hb2, k2⟩⟩
      have hn62 : (n : Int) ≤ 1000 := by omega
      walk_at "st"
      refine for_range (lo := 0) (fun i σ H2 => Wd <| ∃ (vs' : List V) (t : List Pl) (y5 : Option V), σ = [some (.ref b), some (.ref l), some (.int m), some (.ref o), some (.int n), y5, y6] ∧
        H2 o = some (.lst vs') ∧ Paired (PlV H2) vs' t ∧ ht t 0 = some (n - i) ∧ i ≤ n ∧ LabT x y z t ∧ (t.length + (n - i : Nat) : Int) ≤ m ∧ BoxAt H2 b r ∧ Kp [b] H H2) ⟨⟨vs', t, y5, rfl, h2, hp, hh, Nat.zero_le _, hlt, hlen, hb2, k2⟩⟩ ?_ ?_
      · rintro i σ H2 hi ⟨⟨vs', t, y5, rfl, h2, hp, hh, hin, hlt, hlen, hb2, k2⟩⟩
        have hvl := hp.length
        have hl2 : H2 l = some (.tup [.int x, .int y, .int z]) := k2.at_ hl nlb
        walk_at "st"
        intro c H3 c1 c2 hb3 k3
        walk_at "st"
        intro p np
        obtain ⟨p1, p2, p3, p4, p5⟩ := put H2 H3 p vs' t (.ret c) h2 hp hb2 k3 hb3 np k2
        have hvlt : vs'.length < sizeLine := smallLt (by omega)
        walk_at "st"
        refine ⟨⟨vs' ++ [V.ref p], t ++ [Pl.ret c], _, rfl, upd_same, p3, ?_, by omega, hlt.snoc ⟨c1, c2⟩, ?_, p4, p5⟩⟩
        · rw [ht_app, hh]
          obtain ⟨j, hj⟩ : ∃ j, n - i = j + 1 := ⟨n - (i + 1), by omega⟩
          rw [hj]
          show some j = _
          congr 1
          omega
        · rw [List.length_append]; simp; omega
      · rintro σ H2 ⟨⟨vs', t, y5, rfl, h2, hp, hh, hin, hlt, hlen, hb2, k2⟩⟩
        walk_at "st"
        have e0 : n - (n : Int).toNat = 0 := by omega
        rw [e0] at hh hlen
        exact q o H2 vs' t h2 hp hh hlt (by omega) ho hb2 k2
end
abbrev s_law : Stmt := topS 28
theorem sc_law : FnScope ["script", "box", "labels", "text", "written", "marks", "due", "again", "place"] ["script"] (defScope s_law) := ⟨rfl, rfl, rfl, by decide +kernel, rfl, by decide +kernel, by decide +kernel⟩
section
variable {P : Program} {w : World} {K : PySem.W.Frag} {mg : Str → Option Value} {base : Heap}
theorem ok_law {f : Addr} {fd : FuncData} (F : Fun K "law" "law" s_law f fd) (B : Glb mg) (c_law_box : Cal P w K mg base 2 "_law_box" ["script"] (sp__law_box K)) (c_law_labels : Cal P w K mg base 2 "_law_labels" ["box"] sp__law_labels)
    (c_law_next : Cal P w K mg base 1 "_law_next" ["box", "modulus"] sp__law_next) (c_law_text : Cal P w K mg base 2 "_law_text" ["box", "labels", "most"] (sp__law_text K))
    (cformat_text : Cal P w K mg base 1 "format_text" ["text"] (sp_format_text K)) (cparse_text : Cal P w K mg base 4 "parse_text" ["labels", "written"] sp_parse_ok) : FnOk P w K mg base CX0 5 f fd ["script"] (sp_law K) := by
  refine F.ok sc_law (fun vs H Q E h => ?_) (fun cdv A outer s H vs Q E hr h => ?_)
  · obtain ⟨a, ns, rfl, _⟩ := h
    rfl
  · obtain ⟨a, ns, rfl, hS, hn, q⟩ := h
    have hu := hu_of hr
    refine ⟨_, (pss_cons (ps_set (i := 1) sc_law.nd rfl (.inl rfl) (pe_cal c_law_box (hr.mono (by decide)) (by rfl) (pa_cons (pv 0) pa_nil)))
  (pss_cons (ps_set (i := 2) sc_law.nd rfl (.inl rfl) (pe_cal c_law_labels (hr.mono (by decide)) (by rfl) (pa_cons (pv 1) pa_nil)))
  (pss_cons (ps_set (i := 3) sc_law.nd rfl (.inl rfl) (pe_cal c_law_text (hr.mono (by decide)) (by rfl) (pa_cons (pv 1) (pa_cons (pv 2) (pa_cons (pe_cal c_law_next (hr.mono (by decide)) (by rfl) (pa_cons (pv 1) (pa_cons pe_int pa_nil))) pa_nil)))))
  (pss_cons (ps_set (i := 4) sc_law.nd rfl (.inl rfl) (pe_cal cformat_text (hr.mono (by decide)) (by rfl) (pa_cons (pe_callTy (call_listL) (by rfl) B.list (by decide +kernel) (pa_cons (pv 3) pa_nil)) pa_nil)))
  (pss_cons (ps_set (i := 5) sc_law.nd rfl (.inr rfl) (pe_disp (pps_cons pe_str pe_str (pps_cons pe_str pe_str (pps_cons pe_str pe_str pps_nil))) (by rfl) (by rfl) (fun z => by cases z) (by decide)))
  (pss_cons (ps_set (i := 6) sc_law.nd rfl (.inl rfl) (pe_join pe_str (pe_lc (own := [("place", 8)]) (g := (gName 8)) (by rfl) sc_law.nd (pi_list (pv 3)) (blkOk_by (own := [("place", 8)]) (N := ["script", "box", "labels", "text", "written", "marks", "due", "again", "place"]) (sc := defScope s_law) (by decide +kernel)) (fun _ _ _ _ _ => (pg_name (i := 8) sc_law.nd rfl (.inl rfl))) (fun _ _ _ _ _ => pts_nil) (fun _ _ _ _ _ => (pe_op op_add_str (pe_dget hu (pv 5) (pe_ix (r := rIxT K) ix_tup (pv 8) pe_int (fun _ _ => rfl)) (fun _ _ => rfl)) (pe_callTy call_str_int (by rfl) B.str (by decide +kernel) (pa_cons (pe_ix (r := rIxT K) ix_tup (pv 8) pe_int (fun _ _ => rfl)) pa_nil)))))))
  (pss_cons (ps_if (PW.pt (pw_or2 (pt_not (pt_val (pe_callB call_is (by rfl) B.isinstance (by decide +kernel) (pa_cons (pv 4) (pa_cons (pe_bltn (v := .ty "str") (by rfl) B.str (by decide +kernel) rfl) pa_nil))))) (pw_or1 (pt_cmpR op_ne (pv 4) (pv 6) (nomark _)))))
  (pss_one (ps_ret pe_bl))
  pss_nil)
  (pss_cons (ps_set (i := 7) sc_law.nd rfl (.inl rfl) (pe_cal cparse_text (hr.mono (by decide)) (by rfl) (pa_cons (pv 2) (pa_cons (pv 4) pa_nil))))
  (pss_one (ps_ret (pe_and2 (pe_callB call_is (by rfl) B.isinstance (by decide +kernel) (pa_cons (pv 7) (pa_cons (pe_bltn (v := .ty "list") (by rfl) B.list (by decide +kernel) rfl) pa_nil))) (pe_one (pe_cmpR (op_eqD hr.units) (pv 7) (pv 3) (nomark _)))))))))))))), ?_⟩
    walk_at "st"
    intro b r H1 hb1 _ k1
    walk_at "st"
    intro l H2 x y z hL hl _ hb2 k2
    walk_at "st"
    intro m H3 m0 m1 hb3 k3
    have hl3 : H3 l = some (.tup [.int x, .int y, .int z]) := k3.at_ hl (hb2.tupin hl)
    walk_at "st"
    intro p H4 vs t h4 hp hbal hlt hlen _ hb4 k4
    have hvl := hp.length
    have hR4 : RowAt H4 p t := ⟨vs, h4, hp⟩
    have hl4 := k4.at_ hl3 (hb3.tupin hl3)
    have hlen2 : t.length ≤ 60 := by omega
    have hl1k : t.length ≤ 1000 := by omega
    have hds : ∀ c ∈ t, Dig c := fun c hc => (hlt c hc).dig hL
    walk_at "st"
    intro u nu
    have kU : Kp [] H4 (upd H4 u (.lst vs)) := (Kp.refl _ _).new nu
    have gU : TxtAt K (upd H4 u (.lst vs)) u t := ⟨vs, SqL.of upd_same, Pd.tk hp (.new nu)⟩
    walk_at "st"
    intro H5 k5
    have kk := kU.trans k5
    have hR5 := hR4.kp kk
    have hl5 := kk.at0 hl4
    walk_at "st"
    intro dm ndm
    have hk : [(V.str "letter", V.str "l"), (V.str "call", V.str "c"), (V.str "return", V.str "r")] = marksD.map (fun kv => (kV kv.1, kv.2)) := rfl
    have hk15 : marksD.length ≤ 15 := by decide
    walk_at "st"
    rw [marks_merge, upd_upd]
    have kD : Kp [] H5 (upd H5 dm (.dK marksD)) := (Kp.refl _ _).new ndm
    have hR6 := hR5.kp kD
    have hl6 := kD.at0 hl5
    have hdm : (upd H5 dm (.dK marksD)) dm = some (.dK marksD) := upd_same
    obtain ⟨vs6, e6, hp6⟩ := hR6.ex
    have hv6 := hp6.length
    walk_at "st"
    refine ⟨⟨_, rfl⟩, ?_⟩
    walk_at "st"
    intro D nD
    refine lc_list (K := K) (a := p) (xs := vs6) (fun i H' => Wd (H' D = some (.lst (((t.take i).map wd).map V.str)) ∧ Kp [] (upd H5 dm (.dK marksD)) H')) ⟨⟨upd_same, by walk_at "kp"⟩⟩ ?_ ?_ ?_
    · rintro i H' _ ⟨⟨_, k⟩⟩
      exact SqL.of (k.at0 e6)
    · rintro i v H' hv ⟨⟨hD, k⟩⟩
      obtain ⟨c, hc, tp, rfl, htp⟩ := Pd.get hp6 hv
      have hi : i < vs6.length := (List.getElem?_eq_some_iff.mp hv).1
      have htp2 := k.at0 htp
      have hdc := hds c (List.mem_of_getElem? hc)
      have hml : (((t.take i).map wd).map V.str).length < sizeLine := smallLt (by simp; omega)
      have b0 := vs0 c
      have b1 := vs1 c
      have g1 : DGet H' dm (.str c.kind) (some (.str (sgn c))) := by
        have g := DGet.k (k := (.inr c.kind : Key)) (k.at0 hdm)
        rw [marks_get] at g
        exact g
      have hs2 := lab_log hdc
      have hs4 : (sgn c).length + ((toString c.lab : String) : Str).length ≤ sizeLine := add_len hdc
      walk_at "st"
      refine ⟨⟨?_, by walk_at "kp"⟩⟩
      rw [upd_same, tk_snoc hc, List.map_append, List.map_append]
      exact congrArg (fun s => some (HO.lst (((t.take i).map wd).map V.str ++ [V.str s]))) (wd_add hdc)
    · rintro H' ⟨⟨hD, k⟩⟩
      have e0 : t.take vs6.length = t := by rw [hv6]; exact List.take_length
      rw [e0] at hD
      have hR7 := hR6.kp k
      have hl7 := k.at0 hl6
      have hz : ((t.map wd).map (·.length)).sum + (t.map wd).length * (" " : Str).length ≤ 16777216 := by
        rw [wd_sum, List.length_map, show (" " : Str).length = 1 by decide +kernel]
        omega
      have hts : TyX K H' (.str (Txt.join " " (t.map wd))) (.type "str") := .base (.str _)
      walk_at "st"
      refine ⟨.inl (SqL.of hD), hz, ?_⟩
      walk_at "st"
      refine iteN (by simp) ?_
      walk_at "st"
      intro pa H8 hra k8
      have hR8 := hR7.kp k8
      have d1 := (hra.txt (K := K)).dp
      have d2 := (hR8.txt (K := K)).dp
      have d3 := shaped_t t
      obtain ⟨vsa, ea, _⟩ := hra.ex
      have hty : TyX K H8 (.ref pa) (.type "list") := .base (.lst ea)
      walk_at "st"
      rw [eqv_self d3]
      exact q H8
end
theorem all_mk {l : PySem.W.OpenLaw} {w : World} {K : PySem.W.Frag} {h : Heap} {mg : Str → Option Value} {fa : Addr} (X : K.In h) (G : h.Ns mainGlobals mg) (hfa : mg "law" = some (.ref fa))
    {f0 f1 f2 f3 f4 f5 f6 f7 f8 f9 f10 f11 f12 f13 : Addr} {od0 an0 od1 an1 od2 an2 od3 an3 od4 an4 od5 an5 od6 an6 od7 an7 od8 an8 od9 an9 od10 an10 od11 an11 od12 an12 od13 an13 : Option Addr} {sl0 sl1 sl2 sl3 sl4 sl5 sl6 sl7 sl8 sl9 sl10 sl11 sl12 sl13 : Array (Option Value)} {oc0 kV0 dc0 pm0 ct0 cd0 oc1 kV1 dc1 pm1 ct1 cd1 oc2 kV2 dc2 pm2 ct2 cd2 oc3 kV3 dc3 pm3 ct3 cd3 oc4 kV4 dc4 pm4 ct4 cd4 oc5 kV5 dc5 pm5 ct5 cd5 oc6 kV6 dc6 pm6 ct6 cd6 oc7 kV7 dc7 pm7 ct7 cd7 oc8 kV8 dc8 pm8 ct8 cd8 oc9 kV9 dc9 pm9 ct9 cd9 oc10 kV10 dc10 pm10 ct10 cd10 oc11 kV11 dc11 pm11 ct11 cd11 oc12 kV12 dc12 pm12 ct12 cd12 oc13 kV13 dc13 pm13 ct13 cd13 : Value}
    (a0 : PySem.W.nsIn K mainGlobals "fault_of" = some (some (.ref f0))) (l0 : K.lookup f0 = some ⟨oc0, od0, .func (PySem.W.fnOf "fault_of" "fault_of" (defArgs s_fault_of) (defBody s_fault_of) (defScope s_fault_of) .none kV0 dc0 pm0 an0 cd0 ct0), sl0⟩) (c0 : PySem.W.codeIn K cd0 "fault_of" = true) (k0 : PySem.W.keepIn K (.ref f0) = true)
    (a1 : PySem.W.nsIn K mainGlobals "has_label" = some (some (.ref f1))) (l1 : K.lookup f1 = some ⟨oc1, od1, .func (PySem.W.fnOf "has_label" "has_label" (defArgs s_has_label) (defBody s_has_label) (defScope s_has_label) .none kV1 dc1 pm1 an1 cd1 ct1), sl1⟩) (c1 : PySem.W.codeIn K cd1 "has_label" = true) (k1 : PySem.W.keepIn K (.ref f1) = true)
    (a2 : PySem.W.nsIn K mainGlobals "check_labels" = some (some (.ref f2))) (l2 : K.lookup f2 = some ⟨oc2, od2, .func (PySem.W.fnOf "check_labels" "check_labels" (defArgs s_check_labels) (defBody s_check_labels) (defScope s_check_labels) .none kV2 dc2 pm2 an2 cd2 ct2), sl2⟩) (c2 : PySem.W.codeIn K cd2 "check_labels" = true) (k2 : PySem.W.keepIn K (.ref f2) = true)
    (a3 : PySem.W.nsIn K mainGlobals "check_text" = some (some (.ref f3))) (l3 : K.lookup f3 = some ⟨oc3, od3, .func (PySem.W.fnOf "check_text" "check_text" (defArgs s_check_text) (defBody s_check_text) (defScope s_check_text) .none kV3 dc3 pm3 an3 cd3 ct3), sl3⟩) (c3 : PySem.W.codeIn K cd3 "check_text" = true) (k3 : PySem.W.keepIn K (.ref f3) = true)
    (a4 : PySem.W.nsIn K mainGlobals "format_text" = some (some (.ref f4))) (l4 : K.lookup f4 = some ⟨oc4, od4, .func (PySem.W.fnOf "format_text" "format_text" (defArgs s_format_text) (defBody s_format_text) (defScope s_format_text) .none kV4 dc4 pm4 an4 cd4 ct4), sl4⟩) (c4 : PySem.W.codeIn K cd4 "format_text" = true) (k4 : PySem.W.keepIn K (.ref f4) = true)
    (a5 : PySem.W.nsIn K mainGlobals "parse_text" = some (some (.ref f5))) (l5 : K.lookup f5 = some ⟨oc5, od5, .func (PySem.W.fnOf "parse_text" "parse_text" (defArgs s_parse_text) (defBody s_parse_text) (defScope s_parse_text) .none kV5 dc5 pm5 an5 cd5 ct5), sl5⟩) (c5 : PySem.W.codeIn K cd5 "parse_text" = true) (k5 : PySem.W.keepIn K (.ref f5) = true)
    (a6 : PySem.W.nsIn K mainGlobals "_words_of" = some (some (.ref f6))) (l6 : K.lookup f6 = some ⟨oc6, od6, .func (PySem.W.fnOf "_words_of" "_words_of" (defArgs s__words_of) (defBody s__words_of) (defScope s__words_of) .none kV6 dc6 pm6 an6 cd6 ct6), sl6⟩) (c6 : PySem.W.codeIn K cd6 "_words_of" = true) (k6 : PySem.W.keepIn K (.ref f6) = true)
    (a7 : PySem.W.nsIn K mainGlobals "_place_of" = some (some (.ref f7))) (l7 : K.lookup f7 = some ⟨oc7, od7, .func (PySem.W.fnOf "_place_of" "_place_of" (defArgs s__place_of) (defBody s__place_of) (defScope s__place_of) .none kV7 dc7 pm7 an7 cd7 ct7), sl7⟩) (c7 : PySem.W.codeIn K cd7 "_place_of" = true) (k7 : PySem.W.keepIn K (.ref f7) = true)
    (a8 : PySem.W.nsIn K mainGlobals "_law_draws" = some (some (.ref f8))) (l8 : K.lookup f8 = some ⟨oc8, od8, .func (PySem.W.fnOf "_law_draws" "_law_draws" (defArgs s__law_draws) (defBody s__law_draws) (defScope s__law_draws) .none kV8 dc8 pm8 an8 cd8 ct8), sl8⟩) (c8 : PySem.W.codeIn K cd8 "_law_draws" = true) (k8 : PySem.W.keepIn K (.ref f8) = true)
    (a9 : PySem.W.nsIn K mainGlobals "_law_box" = some (some (.ref f9))) (l9 : K.lookup f9 = some ⟨oc9, od9, .func (PySem.W.fnOf "_law_box" "_law_box" (defArgs s__law_box) (defBody s__law_box) (defScope s__law_box) .none kV9 dc9 pm9 an9 cd9 ct9), sl9⟩) (c9 : PySem.W.codeIn K cd9 "_law_box" = true) (k9 : PySem.W.keepIn K (.ref f9) = true)
    (a10 : PySem.W.nsIn K mainGlobals "_law_next" = some (some (.ref f10))) (l10 : K.lookup f10 = some ⟨oc10, od10, .func (PySem.W.fnOf "_law_next" "_law_next" (defArgs s__law_next) (defBody s__law_next) (defScope s__law_next) .none kV10 dc10 pm10 an10 cd10 ct10), sl10⟩) (c10 : PySem.W.codeIn K cd10 "_law_next" = true) (k10 : PySem.W.keepIn K (.ref f10) = true)
    (a11 : PySem.W.nsIn K mainGlobals "_law_labels" = some (some (.ref f11))) (l11 : K.lookup f11 = some ⟨oc11, od11, .func (PySem.W.fnOf "_law_labels" "_law_labels" (defArgs s__law_labels) (defBody s__law_labels) (defScope s__law_labels) .none kV11 dc11 pm11 an11 cd11 ct11), sl11⟩) (c11 : PySem.W.codeIn K cd11 "_law_labels" = true) (k11 : PySem.W.keepIn K (.ref f11) = true)
    (a12 : PySem.W.nsIn K mainGlobals "_law_text" = some (some (.ref f12))) (l12 : K.lookup f12 = some ⟨oc12, od12, .func (PySem.W.fnOf "_law_text" "_law_text" (defArgs s__law_text) (defBody s__law_text) (defScope s__law_text) .none kV12 dc12 pm12 an12 cd12 ct12), sl12⟩) (c12 : PySem.W.codeIn K cd12 "_law_text" = true) (k12 : PySem.W.keepIn K (.ref f12) = true)
    (a13 : PySem.W.nsIn K mainGlobals "law" = some (some (.ref f13))) (l13 : K.lookup f13 = some ⟨oc13, od13, .func (PySem.W.fnOf "law" "law" (defArgs s_law) (defBody s_law) (defScope s_law) .none kV13 dc13 pm13 an13 cd13 ct13), sl13⟩) (c13 : PySem.W.codeIn K cd13 "law" = true) (k13 : PySem.W.keepIn K (.ref f13) = true)
    (z0 : PySem.W.nsIn K mainGlobals "len" = some none) (z1 : PySem.W.nsIn K mainGlobals "range" = some none) (z2 : PySem.W.nsIn K mainGlobals "int" = some none) (z3 : PySem.W.nsIn K mainGlobals "str" = some none) (z4 : PySem.W.nsIn K mainGlobals "list" = some none) (z5 : PySem.W.nsIn K mainGlobals "isinstance" = some none) (z6 : PySem.W.nsIn K mainGlobals "enumerate" = some none) (z7 : PySem.W.nsIn K mainGlobals "sorted" = some none) (z8 : PySem.W.nsIn K mainGlobals "tuple" = some none) (z9 : PySem.W.nsIn K mainGlobals "bool" = some none) (z10 : PySem.W.nsIn K mainGlobals "max" = some none) (z11 : PySem.W.nsIn K mainGlobals "min" = some none) (z12 : PySem.W.nsIn K mainGlobals "sum" = some none) (z13 : PySem.W.nsIn K mainGlobals "all" = some none) (z14 : PySem.W.nsIn K mainGlobals "any" = some none) (z15 : PySem.W.nsIn K mainGlobals "zip" = some none) (z16 : PySem.W.nsIn K mainGlobals "set" = some none) (z17 : PySem.W.nsIn K mainGlobals "reversed" = some none)
    {kt_DIGITS : Tok} (kn_DIGITS : PySem.W.nsIn K mainGlobals "DIGITS" = some (some (.str "0123456789" kt_DIGITS)))
    {kt_KINDS0 kt_KINDS1 kt_KINDS2 : Tok} {kd_KINDS : Addr} {km_KINDS : Nat} {ksl_KINDS : Array (Option Value)} (kn_KINDS : PySem.W.nsIn K mainGlobals "KINDS" = some (some (.ref kd_KINDS))) (kl_KINDS : K.lookup kd_KINDS = some ⟨.type "tuple", none, .seq #[.str "letter" kt_KINDS0, .str "call" kt_KINDS1, .str "return" kt_KINDS2] km_KINDS, ksl_KINDS⟩)
    {kt_KIND_OF0 kt_KIND_OF1 kt_KIND_OF2 : Tok} {kd_KIND_OF : Addr} {kes_KIND_OF : Array DictEntry} {km_KIND_OF : Nat} (kn_KIND_OF : PySem.W.nsIn K mainGlobals "KIND_OF" = some (some (.ref kd_KIND_OF))) (kl_KIND_OF : K.lookup kd_KIND_OF = some ⟨.type "dict", none, .dict kes_KIND_OF km_KIND_OF, #[]⟩) (kk_KIND_OF : PySem.W.KeysLit w.params kes_KIND_OF.toList) (ko_KIND_OF : (kd_KIND_OF == sysModules) = false)
    (ke_KIND_OF0 : PySem.W.nsIn K kd_KIND_OF "l" = some (some (.str "letter" kt_KIND_OF0)))
    (ke_KIND_OF1 : PySem.W.nsIn K kd_KIND_OF "c" = some (some (.str "call" kt_KIND_OF1)))
    (ke_KIND_OF2 : PySem.W.nsIn K kd_KIND_OF "r" = some (some (.str "return" kt_KIND_OF2)))
    {kt_MOST_PLACES : Tok} (kn_MOST_PLACES : PySem.W.nsIn K mainGlobals "MOST_PLACES" = some (some (.int 200 kt_MOST_PLACES)))
    {kt_SIGN_OF0 kt_SIGN_OF1 kt_SIGN_OF2 : Tok} {kd_SIGN_OF : Addr} {kes_SIGN_OF : Array DictEntry} {km_SIGN_OF : Nat} (kn_SIGN_OF : PySem.W.nsIn K mainGlobals "SIGN_OF" = some (some (.ref kd_SIGN_OF))) (kl_SIGN_OF : K.lookup kd_SIGN_OF = some ⟨.type "dict", none, .dict kes_SIGN_OF km_SIGN_OF, #[]⟩) (kk_SIGN_OF : PySem.W.KeysLit w.params kes_SIGN_OF.toList) (ko_SIGN_OF : (kd_SIGN_OF == sysModules) = false)
    (ke_SIGN_OF0 : PySem.W.nsIn K kd_SIGN_OF "letter" = some (some (.str "l" kt_SIGN_OF0)))
    (ke_SIGN_OF1 : PySem.W.nsIn K kd_SIGN_OF "call" = some (some (.str "c" kt_SIGN_OF1)))
    (ke_SIGN_OF2 : PySem.W.nsIn K kd_SIGN_OF "return" = some (some (.str "r" kt_SIGN_OF2)))
    : ∃ fd : FuncData, (∀ (s : Shared) (v : Value), BindsTo s fd ⟨[v], []⟩ [("script", v)]) ∧ ∀ base : Heap, K.In base → base.Ns mainGlobals mg → FnOk l.prog w K mg base CX0 5 fa fd ["script"] (sp_law K) := by
  have e := hfa.symm.trans (PySem.W.mg_of X G a13)
  cases e
  have B : Glb mg := ⟨PySem.W.mg_none_of X G z0, PySem.W.mg_none_of X G z1, PySem.W.mg_none_of X G z2, PySem.W.mg_none_of X G z3, PySem.W.mg_none_of X G z4, PySem.W.mg_none_of X G z5, PySem.W.mg_none_of X G z6, PySem.W.mg_none_of X G z7, PySem.W.mg_none_of X G z8, PySem.W.mg_none_of X G z9, PySem.W.mg_none_of X G z10, PySem.W.mg_none_of X G z11, PySem.W.mg_none_of X G z12, PySem.W.mg_none_of X G z13, PySem.W.mg_none_of X G z14, PySem.W.mg_none_of X G z15, PySem.W.mg_none_of X G z16, PySem.W.mg_none_of X G z17⟩
  have k_DIGITS : StrC mg "DIGITS" "0123456789" := ⟨⟨_, PySem.W.mg_of X G kn_DIGITS⟩⟩
  have k_KINDS : TupC K mg "KINDS" ["letter", "call", "return"] := ⟨⟨kd_KINDS, PySem.W.mg_of X G kn_KINDS, ⟨_, _, _, kl_KINDS, rfl, rfl, rfl, by show 3 ≤ sizeLine; decide, .cons ⟨_, rfl⟩ (.cons ⟨_, rfl⟩ (.cons ⟨_, rfl⟩ (.nil)))⟩⟩⟩
  have k_KIND_OF : DicC K w mg "KIND_OF" [("l", "letter"), ("c", "call"), ("r", "return")] := ⟨⟨kd_KIND_OF, PySem.W.mg_of X G kn_KIND_OF, ⟨⟨_, _, kl_KIND_OF, kk_KIND_OF, ko_KIND_OF⟩, fun k v h => by
    simp only [List.mem_cons, List.not_mem_nil, or_false, Prod.mk.injEq] at h
    rcases h with ⟨rfl, rfl⟩ | ⟨rfl, rfl⟩ | ⟨rfl, rfl⟩
    · exact ⟨_, ke_KIND_OF0, ⟨_, rfl⟩⟩
    · exact ⟨_, ke_KIND_OF1, ⟨_, rfl⟩⟩
    · exact ⟨_, ke_KIND_OF2, ⟨_, rfl⟩⟩⟩⟩⟩
  have k_MOST_PLACES : IntC mg "MOST_PLACES" 200 := ⟨⟨_, PySem.W.mg_of X G kn_MOST_PLACES⟩⟩
  have k_SIGN_OF : DicC K w mg "SIGN_OF" [("letter", "l"), ("call", "c"), ("return", "r")] := ⟨⟨kd_SIGN_OF, PySem.W.mg_of X G kn_SIGN_OF, ⟨⟨_, _, kl_SIGN_OF, kk_SIGN_OF, ko_SIGN_OF⟩, fun k v h => by
    simp only [List.mem_cons, List.not_mem_nil, or_false, Prod.mk.injEq] at h
    rcases h with ⟨rfl, rfl⟩ | ⟨rfl, rfl⟩ | ⟨rfl, rfl⟩
    · exact ⟨_, ke_SIGN_OF0, ⟨_, rfl⟩⟩
    · exact ⟨_, ke_SIGN_OF1, ⟨_, rfl⟩⟩
    · exact ⟨_, ke_SIGN_OF2, ⟨_, rfl⟩⟩⟩⟩⟩
  have F0 := fun_mk (st := s_fault_of) l0 c0 k0
  have b0 := F0.binds (ps := ["row"]) fun _ _ _ _ _ _ us hl => match us, hl with | [_], _ => rfl
  have cfault_of : ∀ base : Heap, Cal l.prog w K mg base 1 "fault_of" ["row"] (sp_fault_of K) := fun base => ⟨⟨_, _, ok_fault_of F0 B, PySem.W.mg_of X G a0, k0, b0⟩⟩
  have F1 := fun_mk (st := s_has_label) l1 c1 k1
  have b1 := F1.binds (ps := ["labels", "place"]) fun _ _ _ _ _ _ us hl => match us, hl with | [_, _], _ => rfl
  have chas_label : ∀ base : Heap, Cal l.prog w K mg base 1 "has_label" ["labels", "place"] sp_has_label := fun base => ⟨⟨_, _, ok_has_label F1 B k_KINDS, PySem.W.mg_of X G a1, k1, b1⟩⟩
  have F2 := fun_mk (st := s_check_labels) l2 c2 k2
  have b2 := F2.binds (ps := ["labels", "row"]) fun _ _ _ _ _ _ us hl => match us, hl with | [_, _], _ => rfl
  have ccheck_labels : ∀ base : Heap, Cal l.prog w K mg base 2 "check_labels" ["labels", "row"] (sp_check_labels_ok K) := fun base => ⟨⟨_, _, ok_check_labels F2 B (chas_label base), PySem.W.mg_of X G a2, k2, b2⟩⟩
  have F3 := fun_mk (st := s_check_text) l3 c3 k3
  have b3 := F3.binds (ps := ["labels", "row"]) fun _ _ _ _ _ _ us hl => match us, hl with | [_, _], _ => rfl
  have ccheck_text : ∀ base : Heap, Cal l.prog w K mg base 3 "check_text" ["labels", "row"] (sp_check_ok K) := fun base => ⟨⟨_, _, ok_check_text F3 B (ccheck_labels base) (cfault_of base) k_MOST_PLACES, PySem.W.mg_of X G a3, k3, b3⟩⟩
  have F4 := fun_mk (st := s_format_text) l4 c4 k4
  have b4 := F4.binds (ps := ["text"]) fun _ _ _ _ _ _ us hl => match us, hl with | [_], _ => rfl
  have cformat_text : ∀ base : Heap, Cal l.prog w K mg base 1 "format_text" ["text"] (sp_format_text K) := fun base => ⟨⟨_, _, ok_format_text F4 B k_SIGN_OF, PySem.W.mg_of X G a4, k4, b4⟩⟩
  have F6 := fun_mk (st := s__words_of) l6 c6 k6
  have b6 := F6.binds (ps := ["written"]) fun _ _ _ _ _ _ us hl => match us, hl with | [_], _ => rfl
  have c_words_of : ∀ base : Heap, Cal l.prog w K mg base 1 "_words_of" ["written"] sp__words_of := fun base => ⟨⟨_, _, ok__words_of F6 B, PySem.W.mg_of X G a6, k6, b6⟩⟩
  have F7 := fun_mk (st := s__place_of) l7 c7 k7
  have b7 := F7.binds (ps := ["labels", "word"]) fun _ _ _ _ _ _ us hl => match us, hl with | [_, _], _ => rfl
  have c_place_of : ∀ base : Heap, Cal l.prog w K mg base 2 "_place_of" ["labels", "word"] sp__place_ok := fun base => ⟨⟨_, _, ok__place_of F7 B (chas_label base) k_KIND_OF k_DIGITS, PySem.W.mg_of X G a7, k7, b7⟩⟩
  have F5 := fun_mk (st := s_parse_text) l5 c5 k5
  have b5 := F5.binds (ps := ["labels", "written"]) fun _ _ _ _ _ _ us hl => match us, hl with | [_, _], _ => rfl
  have cparse_text : ∀ base : Heap, Cal l.prog w K mg base 4 "parse_text" ["labels", "written"] sp_parse_ok := fun base => ⟨⟨_, _, ok_parse_text F5 B (c_words_of base) (c_place_of base) (ccheck_text base), PySem.W.mg_of X G a5, k5, b5⟩⟩
  have F8 := fun_mk (st := s__law_draws) l8 c8 k8
  have b8 := F8.binds (ps := ["cell", "modulus", "count"]) fun _ _ _ _ _ _ us hl => match us, hl with | [_, _, _], _ => rfl
  have c_law_draws : ∀ base : Heap, Cal l.prog w K mg base 1 "_law_draws" ["cell", "modulus", "count"] sp__law_draws := fun base => ⟨⟨_, _, ok__law_draws F8 B, PySem.W.mg_of X G a8, k8, b8⟩⟩
  have F9 := fun_mk (st := s__law_box) l9 c9 k9
  have b9 := F9.binds (ps := ["script"]) fun _ _ _ _ _ _ us hl => match us, hl with | [_], _ => rfl
  have c_law_box : ∀ base : Heap, Cal l.prog w K mg base 2 "_law_box" ["script"] (sp__law_box K) := fun base => ⟨⟨_, _, ok__law_box F9 B (c_law_draws base), PySem.W.mg_of X G a9, k9, b9⟩⟩
  have F10 := fun_mk (st := s__law_next) l10 c10 k10
  have b10 := F10.binds (ps := ["box", "modulus"]) fun _ _ _ _ _ _ us hl => match us, hl with | [_, _], _ => rfl
  have c_law_next : ∀ base : Heap, Cal l.prog w K mg base 1 "_law_next" ["box", "modulus"] sp__law_next := fun base => ⟨⟨_, _, ok__law_next F10 B, PySem.W.mg_of X G a10, k10, b10⟩⟩
  have F11 := fun_mk (st := s__law_labels) l11 c11 k11
  have b11 := F11.binds (ps := ["box"]) fun _ _ _ _ _ _ us hl => match us, hl with | [_], _ => rfl
  have c_law_labels : ∀ base : Heap, Cal l.prog w K mg base 2 "_law_labels" ["box"] sp__law_labels := fun base => ⟨⟨_, _, ok__law_labels F11 B (c_law_next base), PySem.W.mg_of X G a11, k11, b11⟩⟩
  have F12 := fun_mk (st := s__law_text) l12 c12 k12
  have b12 := F12.binds (ps := ["box", "labels", "most"]) fun _ _ _ _ _ _ us hl => match us, hl with | [_, _, _], _ => rfl
  have c_law_text : ∀ base : Heap, Cal l.prog w K mg base 2 "_law_text" ["box", "labels", "most"] (sp__law_text K) := fun base => ⟨⟨_, _, ok__law_text F12 B (c_law_next base), PySem.W.mg_of X G a12, k12, b12⟩⟩
  have F13 := fun_mk (st := s_law) l13 c13 k13
  exact ⟨_, fun s v => .of_eq rfl, fun base _ _ => ok_law F13 B (c_law_box base) (c_law_labels base) (c_law_next base) (c_law_text base) (cformat_text base) (cparse_text base)⟩
end A
open PySem PySem.W PyProof.Rows
set_option maxHeartbeats 0 in
theorem PySem.Challenge.cw_archway_k05_written_texts_holds : PySem.Challenge.rw_archway_k05_written_texts.Holds := by
  w_on; o_law; k_head; (case hw => w_witness2)
  k_fill
  refine L2.walk_of (l := PySem.Challenge.rw_archway_k05_written_texts) (n := 63) (k := 5) (x := "script") (CX := fun _ => L2.CX0) (sp := fun w => A.sp_law _) rfl (by decide) rfl ⟨rfl, by decide, by decide⟩ (fun w h Y => PySem.W.kIn_of Y) ?F (fun _ _ a ns hl _ hS => ⟨a, ns, rfl, hS, hl, fun _ => rfl⟩) (fun _ _ _ _ _ h => h)
  case F =>
    intro w mg fa h KX G hmg
    refine' A.all_mk KX G hmg ?a0 ?l0 ?c0 ?k0 ?a1 ?l1 ?c1 ?k1 ?a2 ?l2 ?c2 ?k2 ?a3 ?l3 ?c3 ?k3 ?a4 ?l4 ?c4 ?k4 ?a5 ?l5 ?c5 ?k5 ?a6 ?l6 ?c6 ?k6 ?a7 ?l7 ?c7 ?k7 ?a8 ?l8 ?c8 ?k8 ?a9 ?l9 ?c9 ?k9 ?a10 ?l10 ?c10 ?k10 ?a11 ?l11 ?c11 ?k11 ?a12 ?l12 ?c12 ?k12 ?a13 ?l13 ?c13 ?k13 ?z0 ?z1 ?z2 ?z3 ?z4 ?z5 ?z6 ?z7 ?z8 ?z9 ?z10 ?z11 ?z12 ?z13 ?z14 ?z15 ?z16 ?z17 ?kn_DIGITS ?kn_KINDS ?kl_KINDS ?kn_KIND_OF ?kl_KIND_OF ?kk_KIND_OF ?ko_KIND_OF ?ke_KIND_OF0 ?ke_KIND_OF1 ?ke_KIND_OF2 ?kn_MOST_PLACES ?kn_SIGN_OF ?kl_SIGN_OF ?kk_SIGN_OF ?ko_SIGN_OF ?ke_SIGN_OF0 ?ke_SIGN_OF1 ?ke_SIGN_OF2
    (case a0 => k_is)
    (case l0 => k_is)
    (case c0 => k_is)
    (case k0 => k_is)
    (case a1 => k_is)
    (case l1 => k_is)
    (case c1 => k_is)
    (case k1 => k_is)
    (case a2 => k_is)
    (case l2 => k_is)
    (case c2 => k_is)
    (case k2 => k_is)
    (case a3 => k_is)
    (case l3 => k_is)
    (case c3 => k_is)
    (case k3 => k_is)
    (case a4 => k_is)
    (case l4 => k_is)
    (case c4 => k_is)
    (case k4 => k_is)
    (case a5 => k_is)
    (case l5 => k_is)
    (case c5 => k_is)
    (case k5 => k_is)
    (case a6 => k_is)
    (case l6 => k_is)
    (case c6 => k_is)
    (case k6 => k_is)
    (case a7 => k_is)
    (case l7 => k_is)
    (case c7 => k_is)
    (case k7 => k_is)
    (case a8 => k_is)
    (case l8 => k_is)
    (case c8 => k_is)
    (case k8 => k_is)
    (case a9 => k_is)
    (case l9 => k_is)
    (case c9 => k_is)
    (case k9 => k_is)
    (case a10 => k_is)
    (case l10 => k_is)
    (case c10 => k_is)
    (case k10 => k_is)
    (case a11 => k_is)
    (case l11 => k_is)
    (case c11 => k_is)
    (case k11 => k_is)
    (case a12 => k_is)
    (case l12 => k_is)
    (case c12 => k_is)
    (case k12 => k_is)
    (case a13 => k_is)
    (case l13 => k_is)
    (case c13 => k_is)
    (case k13 => k_is)
    (case z0 => k_is)
    (case z1 => k_is)
    (case z2 => k_is)
    (case z3 => k_is)
    (case z4 => k_is)
    (case z5 => k_is)
    (case z6 => k_is)
    (case z7 => k_is)
    (case z8 => k_is)
    (case z9 => k_is)
    (case z10 => k_is)
    (case z11 => k_is)
    (case z12 => k_is)
    (case z13 => k_is)
    (case z14 => k_is)
    (case z15 => k_is)
    (case z16 => k_is)
    (case z17 => k_is)
    (case kn_DIGITS => k_is)
    (case kn_KINDS => k_is)
    (case kl_KINDS => k_is)
    (case kn_KIND_OF => k_is)
    (case kl_KIND_OF => k_is)
    (case kk_KIND_OF => first | k_is | (simp [PySem.W.KeysLit]; done))
    (case ko_KIND_OF => first | k_is | decide +kernel)
    (case ke_KIND_OF0 => k_is)
    (case ke_KIND_OF1 => k_is)
    (case ke_KIND_OF2 => k_is)
    (case kn_MOST_PLACES => k_is)
    (case kn_SIGN_OF => k_is)
    (case kl_SIGN_OF => k_is)
    (case kk_SIGN_OF => first | k_is | (simp [PySem.W.KeysLit]; done))
    (case ko_SIGN_OF => first | k_is | decide +kernel)
    (case ke_SIGN_OF0 => k_is)
    (case ke_SIGN_OF1 => k_is)
    (case ke_SIGN_OF2 => k_is)
