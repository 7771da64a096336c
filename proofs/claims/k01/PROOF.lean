import PyProof.Rows.All
import Wide.All
import OpenK.AllK
import Wide.FinOn
import HandS.ForMost
import HandS.Wide
import HandS.IsInst
import HandS.Walk
import HandS.Defaults
import HandS.Head0
import HandS.Head1
import HandS.Head2
import HandS.HeadEnd
import HandS.HeadHook1
import HandS.HeadHook2
import PySem.Challenge.RW_wonbyturns_k01_words_judged
set_option Elab.async false
set_option linter.all false
set_option maxRecDepth 100000
set_option maxHeartbeats 4000000
/-! k01: words judged -/
/-! My own rules beside the layer, and the reading's steps by name. -/
namespace Ow
open PySem PySem.Spec PyProof.Rows L2

/-! ### operations that the layer's rules do not reach -/
section
variable {X : Cx}
/-- a power of a great base -/
def CPowW (i j : Int) : Prop := 0 ≤ j ∧ (Builtin.Int.intBits i : Int) * j ≤ 2 ^ 27
theorem op_powW : OpR X (binaryOp .Pow) (rI CPowW fun i j => .int (i ^ j.toNat)) := opI fun _ _ _ _ _ _ _ hc q => pow_int hc.1 hc.2 q
/-- repr of a truth value -/
def rReprB : List V → Hp → VK → Prop := fun xs H Q => ∃ k : Bool, xs = [.bl k] ∧ Q (.str (if k then "True" else "False")) H
theorem c_reprB : CallR X (.builtin "repr") rReprB := by
  intro pins s σ H xs us Q I r h
  obtain ⟨k, rfl, q⟩ := h
  obtain ⟨u, rfl, rx⟩ := vals1 r
  cases (show u = Value.bool k from rx)
  exact PySem.P.repr_of_bool ⟨.str _, H, I.tok _, ⟨_, rfl⟩, q⟩
/-- the chrs of a text, one by one -/
def chrs (z : Str) : List V := z.cps.toList.map fun c => V.str ⟨#[c]⟩
/-- list(text) -/
def rListS : List V → Hp → VK → Prop := fun xs H Q => ∃ z : Str, xs = [.str z] ∧ z.cps.size ≤ 100000 ∧ ∀ p, H p = none → Q (.ref p) (upd H p (.lst (chrs z)))
theorem vals_chrs : ∀ (l : List Nat) (us : List Value), us.length = l.length → (∀ i, (h : i < l.length) → ∃ c t, l[i]? = some c ∧ us[i]? = some (Value.str ⟨#[c]⟩ t)) → Vals (l.map fun c => V.str ⟨#[c]⟩) us
  | [], [], _, _ => .nil
  | [], _ :: _, h, _ => by simp at h
  | _ :: _, [], h, _ => by simp at h
  | c :: l, u :: us, h, k => by
    obtain ⟨c', t, e1, e2⟩ := k 0 (by simp)
    simp at e1 e2
    subst e1
    subst e2
    refine .cons ⟨t, rfl⟩ (vals_chrs l us (by simpa using h) fun i hi => ?_)
    obtain ⟨c2, t2, e3, e4⟩ := k (i + 1) (by simpa using hi)
    exact ⟨c2, t2, by simpa using e3, by simpa using e4⟩
theorem c_listS (hc : X.calm = true) : CallR X (.type "list") rListS := by
  intro pins s σ H xs us Q I r h
  obtain ⟨z, rfl, hz, q⟩ := h
  obtain ⟨u, rfl, t, rfl⟩ := vals1 r
  have hh : X.A.handled = none := I.ok.hd hc
  refine call_list_str hh z t (fun h' tk acc' c' kp e it => ?_) (Nat.le_trans hz (by decide))
  refine ⟨.ref s.heap.objs.size, _, I.laid (t' := tk) kp (Nat.le_refl _) (show ObjOk X.prog X.w _ h' _ (.lst (chrs z)) from ?_), rfl, q _ (I.hok.fresh (Nat.le_refl _))⟩
  refine ⟨by unfold chrs; rw [List.length_map, Array.length_toList]; exact Nat.le_trans hz (by decide), acc'.toList, c', ?_, e⟩
  refine vals_chrs z.cps.toList acc'.toList (by rw [Array.length_toList, Array.length_toList, it.1]) fun i hi => ?_
  have hi2 : i < acc'.size := by
    rw [it.1]
    simpa using hi
  obtain ⟨c, u, e1, e2⟩ := it.2 i acc'[i] (by simp [hi2])
  exact ⟨c, u, by simpa using e1, by simp [hi2, e2]⟩
end

/-! ### readings by name: each is the reading's own sense, so that a step is found by its head -/
section
variable {σ : L2.St} {H : Hp} {Q : VK} {ta tb te : TE} {tr ts : TA} {n b c : L2.St → Hp → Prop} {rt : VK} {K : PySem.W.Frag}
theorem y_seq {t u : TS} (h : t ⟨u ⟨n, rt, b, c⟩, rt, b, c⟩ σ H) : tSeq t u ⟨n, rt, b, c⟩ σ H := h
theorem y_next (h : n σ H) : tNext ⟨n, rt, b, c⟩ σ H := h
theorem y_asg {g : TG} (h : te σ H fun x H1 => g x σ H1 n) : tAsg te g ⟨n, rt, b, c⟩ σ H := h
theorem y_name {i : Nat} {v : V} {R : L2.St → Hp → Prop} (h : R (σ.set i (some v)) H) : gName i v σ H R := h
theorem y_sub {to ti : TE} {t : TSet} {v : V} {R : L2.St → Hp → Prop} (h : to σ H fun o H1 => ti σ H1 fun i H2 => t o i v H2 fun H3 => R σ H3) : gSub to ti t v σ H R := h
theorem y_ret (h : te σ H rt) : tRet te ⟨n, rt, b, c⟩ σ H := h
theorem y_drop (h : te σ H fun _ H1 => n σ H1) : tDrop te ⟨n, rt, b, c⟩ σ H := h
theorem y_ifs {tc : TT} {t u : TS} (h : tc σ H fun k H1 => if k = true then t ⟨n, rt, b, c⟩ σ H1 else u ⟨n, rt, b, c⟩ σ H1) : tIfS tc t u ⟨n, rt, b, c⟩ σ H := h
theorem y_for {wi : TI} {g : TG} {t : TS} (h : wi σ H fun J H1 => ∃ W : Nat → Nat → L2.St → Hp → Prop, (∃ m, W 0 m σ H1) ∧ ∀ i m σ H, W i m σ H →
  (J.stop i H ∧ n σ H) ∨ (J.go i H ∧ ∃ N : L2.St → Hp → Prop, (∀ σ' H', N σ' H' → ∃ m', m' < m ∧ W (i + 1) m' σ' H') ∧ ∀ x H', J.yld i H x H' → g x σ H' fun σ2 H2 => t ⟨N, rt, n, N⟩ σ2 H2)) : tFor wi g t ⟨n, rt, b, c⟩ σ H := h
theorem y_var {i : Nat} {v : V} (e : σ[i]? = some (some v)) (h : Q v H) : tVar i σ H Q := ⟨v, e, h⟩
theorem y_var2 {i : Nat} (h : ∃ v, σ[i]? = some (some v) ∧ Q v H) : tVar i σ H Q := h
theorem y_con {v : V} (h : Q v H) : tC v σ H Q := h
theorem y_op {r : R2} (h : ta σ H fun x H1 => tb σ H1 fun y H2 => r x y H2 Q) : tOp r ta tb σ H Q := h
theorem y_un {r : V → Hp → VK → Prop} (h : ta σ H fun x H1 => r x H1 Q) : tUn r ta σ H Q := h
theorem y_nil {R : List V → Hp → Prop} (h : R [] H) : tNil σ H R := h
theorem y_cons {R : List V → Hp → Prop} (h : ta σ H fun x H1 => tr σ H1 fun xs H2 => R (x :: xs) H2) : tCons ta tr σ H R := h
theorem y_cb {r : List V → Hp → VK → Prop} (h : tr σ H fun vs H1 => r vs H1 Q) : tCB r tr σ H Q := h
theorem y_I0 {g : Int → Int → V} {i j : Int} (h : Q (g i j) H) : rI0 g (.int i) (.int j) H Q := ⟨i, j, rfl, rfl, h⟩
theorem y_I {C : Int → Int → Prop} {g : Int → Int → V} {i j : Int} (e : C i j) (h : Q (g i j) H) : rI C g (.int i) (.int j) H Q := ⟨i, j, rfl, rfl, e, h⟩
theorem y_test {R : Bool → Hp → Prop} (h : te σ H fun x H' => ∃ k, x = .bl k ∧ R k H') : tTest te σ H R := h
theorem y_B {R : Bool → Hp → Prop} (h : te σ H fun x H' => ∃ k, x = .bl k ∧ R k H') : tB te σ H R := h
theorem y_bl {k : Bool} {R : Bool → Prop} (h : R k) : ∃ k', V.bl k = .bl k' ∧ R k' := ⟨k, rfl, h⟩
theorem y_not {t : TT} {R : Bool → Hp → Prop} (h : t σ H fun k H1 => R (!k) H1) : tNot t σ H R := h
theorem y_and {t u : TT} {R : Bool → Hp → Prop} (h : t σ H fun k H1 => if k = true then u σ H1 R else R false H1) : tAnd t u σ H R := h
theorem y_or {t u : TT} {R : Bool → Hp → Prop} (h : t σ H fun k H1 => if k = true then R true H1 else u σ H1 R) : tOr t u σ H R := h
theorem y_if {t : TT} (h : t σ H fun k H1 => if k = true then ta σ H1 Q else tb σ H1 Q) : tIf t ta tb σ H Q := h
theorem y_chain {r r' : R2} (h : ta σ H fun x H1 => tb σ H1 fun y H2 => r x y H2 fun z H3 => ∃ k, z = .bl k ∧ (if k = true then te σ H3 fun w' H4 => r' y w' H4 Q else Q (.bl false) H3)) : tChain r r' ta tb te σ H Q := h
theorem y_andV (h : ta σ H fun x H1 => ∃ k, x = .bl k ∧ if k = true then tb σ H1 Q else Q (.bl false) H1) : tAndV ta tb σ H Q := h
theorem y_orV (h : ta σ H fun x H1 => ∃ k, x = .bl k ∧ if k = true then Q (.bl true) H1 else tb σ H1 Q) : tOrV ta tb σ H Q := h
theorem y_yes {R : Bool → Hp → Prop} (h : R true H) : tYes σ H R := h
theorem y_lst {t : TA} (h : t σ H fun xs H1 => xs.length ≤ sizeLine ∧ ∀ p, H1 p = none → Q (.ref p) (upd H1 p (.lst xs))) : tLst t σ H Q := h
theorem y_tup {t : TA} (h : t σ H fun xs H1 => xs.length ≤ sizeLine ∧ ∀ p, H1 p = none → Q (.ref p) (upd H1 p (.tup xs))) : tTup t σ H Q := h
theorem y_eqI {i j : Int} (h : Q (.bl (decide (i = j))) H) : rEq (.int i) (.int j) H Q := ⟨rfl, by
  have e : decide (V.int i = V.int j) = decide (i = j) := by
    rw [decide_eq_decide]
    exact ⟨fun z => V.int.inj z, fun z => by rw [z]⟩
  rw [e]
  exact h⟩
theorem y_neI {i j : Int} (h : Q (.bl (!decide (i = j))) H) : rNe (.int i) (.int j) H Q := ⟨rfl, by
  have e : decide (V.int i = V.int j) = decide (i = j) := by
    rw [decide_eq_decide]
    exact ⟨fun z => V.int.inj z, fun z => by rw [z]⟩
  rw [e]
  exact h⟩
theorem y_eqS {i j : Str} (h : Q (.bl (decide (i = j))) H) : rEq (.str i) (.str j) H Q := ⟨rfl, by
  have e : decide (V.str i = V.str j) = decide (i = j) := by
    rw [decide_eq_decide]
    exact ⟨fun z => V.str.inj z, fun z => by rw [z]⟩
  rw [e]
  exact h⟩
theorem y_neS {i j : Str} (h : Q (.bl (!decide (i = j))) H) : rNe (.str i) (.str j) H Q := ⟨rfl, by
  have e : decide (V.str i = V.str j) = decide (i = j) := by
    rw [decide_eq_decide]
    exact ⟨fun z => V.str.inj z, fun z => by rw [z]⟩
  rw [e]
  exact h⟩
/-- calls, by values -/
def rIntI : List V → Hp → VK → Prop := fun xs H Q => (∃ i, xs = [.int i] ∧ Q (.int i) H) ∨ ∃ k, xs = [.bl k] ∧ Q (.int (if k then 1 else 0)) H
theorem c_int {X : Cx} : CallR X (.type "int") rIntI := call_int1
theorem y_intI {i : Int} (h : Q (.int i) H) : rIntI [.int i] H Q := .inl ⟨i, rfl, h⟩
theorem y_intB {k : Bool} (h : Q (.int (if k then 1 else 0)) H) : rIntI [.bl k] H Q := .inr ⟨k, rfl, h⟩
def rAbs : List V → Hp → VK → Prop := fun xs H Q => ∃ i, xs = [.int i] ∧ Q (.int (if i < 0 then -i else i)) H
theorem c_abs {X : Cx} : CallR X (.builtin "abs") rAbs := call_abs
theorem y_abs {i : Int} (h : Q (.int (i.natAbs : Int)) H) : rAbs [.int i] H Q := ⟨i, rfl, by
  have e : (if i < 0 then -i else i) = (i.natAbs : Int) := by split <;> omega
  rw [e]
  exact h⟩
def rMax2 : List V → Hp → VK → Prop := fun xs H Q => ∃ i j, xs = [.int i, .int j] ∧ Q (.int (if j > i then j else i)) H
theorem c_max2 {X : Cx} (hc : X.calm = true) : CallR X (.builtin "max") rMax2 := call_max2 hc
theorem y_max2 {i j : Int} (h : Q (.int (max i j)) H) : rMax2 [.int i, .int j] H Q := ⟨i, j, rfl, by
  have e : (if j > i then j else i) = max i j := by split <;> omega
  rw [e]
  exact h⟩
def rMin2 : List V → Hp → VK → Prop := fun xs H Q => ∃ i j, xs = [.int i, .int j] ∧ Q (.int (if j < i then j else i)) H
theorem c_min2 {X : Cx} (hc : X.calm = true) : CallR X (.builtin "min") rMin2 := call_min2 hc
theorem y_min2 {i j : Int} (h : Q (.int (min i j)) H) : rMin2 [.int i, .int j] H Q := ⟨i, j, rfl, by
  have e : (if j < i then j else i) = min i j := by split <;> omega
  rw [e]
  exact h⟩
def rLenQ (K : PySem.W.Frag) : List V → Hp → VK → Prop := fun xs H Q => ∃ p ys, xs = [.ref p] ∧ (SqL K H p ys ∨ SqT K H p ys) ∧ Q (.int ys.length) H
theorem c_lenQ {X : Cx} {K : PySem.W.Frag} (h : X.K = K := by rfl) : CallR X (.builtin "len") (rLenQ K) := h ▸ call_len_seq
theorem y_lenL {p : Addr} {ys : List V} (e : SqL K H p ys) (h : Q (.int ys.length) H) : rLenQ K [.ref p] H Q := ⟨p, ys, rfl, .inl e, h⟩
theorem y_lenT {p : Addr} {ys : List V} (e : SqT K H p ys) (h : Q (.int ys.length) H) : rLenQ K [.ref p] H Q := ⟨p, ys, rfl, .inr e, h⟩
def rLenS : List V → Hp → VK → Prop := fun xs H Q => ∃ z, xs = [.str z] ∧ z.length ≤ sizeLine ∧ Q (.int z.length) H
theorem c_lenS {X : Cx} : CallR X (.builtin "len") rLenS := call_len_str
theorem y_lenS {z : Str} (e : z.length ≤ 100000) (h : Q (.int z.length) H) : rLenS [.str z] H Q := ⟨z, rfl, Nat.le_trans e (by decide), h⟩
theorem y_reprB {k : Bool} (h : Q (.str (if k then "True" else "False")) H) : rReprB [.bl k] H Q := ⟨k, rfl, h⟩
theorem y_listS {z : Str} (e : z.cps.size ≤ 100000) (h : ∀ p, H p = none → Q (.ref p) (upd H p (.lst (chrs z)))) : rListS [.str z] H Q := ⟨z, rfl, e, h⟩
def rListQ (K : PySem.W.Frag) : List V → Hp → VK → Prop := fun xs H Q => ∃ p ys, xs = [.ref p] ∧ (SqL K H p ys ∨ SqT K H p ys) ∧ ∀ l, H l = none → Q (.ref l) (upd H l (.lst ys))
theorem c_listQ {X : Cx} {K : PySem.W.Frag} (h : X.K = K := by rfl) : CallR X (.type "list") (rListQ K) := h ▸ call_list_of
theorem y_listL {p : Addr} {ys : List V} (e : SqL K H p ys) (h : ∀ l, H l = none → Q (.ref l) (upd H l (.lst ys))) : rListQ K [.ref p] H Q := ⟨p, ys, rfl, .inl e, h⟩
theorem y_listT {p : Addr} {ys : List V} (e : SqT K H p ys) (h : ∀ l, H l = none → Q (.ref l) (upd H l (.lst ys))) : rListQ K [.ref p] H Q := ⟨p, ys, rfl, .inr e, h⟩
theorem y_ixL {p : Addr} {xs : List V} {i : Int} {v : V} (e : SqL K H p xs) (a : atI xs i = some v) (h : Q v H) : rIxL K (.ref p) (.int i) H Q := ⟨p, xs, i, v, rfl, rfl, e, a, h⟩
theorem y_setL {p : Addr} {xs : List V} {k : Int} {j : Nat} {v : V} {R : Hp → Prop} (e : H p = some (.lst xs)) (a : ixN xs.length k = some j) (h : R (upd H p (.lst (xs.set j v)))) : rSetL (.ref p) (.int k) v H R := ⟨p, xs, k, j, rfl, rfl, e, a, h⟩
theorem y_rng1 {t : TA} {R : It → Hp → Prop} (h : t σ H fun vs H1 => ∃ j : Int, vs = [.int j] ∧ -(2 ^ 62) ≤ j ∧ j < 2 ^ 62 ∧ R (Itr 0 j.toNat) H1) : iRng1 t σ H R := h
theorem y_iStr {R : It → Hp → Prop} (h : te σ H fun v H1 => ∃ x, v = .str x ∧ R (Its x) H1) : iStr te σ H R := h
theorem y_iList {R : It → Hp → Prop} (h : te σ H fun x H1 => ∃ a, x = .ref a ∧ (∃ xs, SqL K H1 a xs) ∧ R (Itl K a) H1) : iList K te σ H R := h
end

/-! ### a def that is called: where it stands, how its arguments bind, what it promises -/
structure Cal (P : Program) (w : World) (K : PySem.W.Frag) (mg : Str → Option Value) (base : Heap) (k : Nat) (x : Str) (ps : List Str) (sp : Sp) : Prop where
  ex : ∃ (f : Addr) (fd : FuncData), FnOk P w K mg base CX0 k f fd ps sp ∧ mg x = some (.ref f) ∧ PySem.W.keepIn K (.ref f) = true ∧ Binds K fd ps []
/-- its call: the arguments, then its promise -/
def tFn (sp : Sp) (t : TA) : TE := fun σ H Q => t σ H fun vs H1 => sp vs H1 Q E0
theorem y_fn {σ : L2.St} {H : Hp} {Q : VK} {sp : Sp} {t : TA} (h : t σ H fun vs H1 => sp vs H1 Q E0) : tFn sp t σ H Q := h
theorem pe_fn {X : Cx} {k : Nat} {x : Str} {ps : List Str} {sp : Sp} {p pos : Pos} {e : Expr} {es : List Expr} {t : TA} (c : Cal X.prog X.w X.K X.mg X.base k x ps sp) (hr : Room k X.A) (hg : Gl X x) (ha : PA X (e :: es) t) (hdb : (x == ("__debug__" : Str)) = false := by decide)
    (he : starEach (e :: es) X.env = (false, eval e X.env) :: starEach es X.env := by rfl) (hpl : (backTo pos (starEach es X.env)).any (·.1) = false := by rfl) : PE X (.Call (.Name x p) (e :: es) [] pos) (tFn sp t) := by
  obtain ⟨f, fd, F, hm, hk, hb⟩ := c.ex
  have h := pe_call (p := p) (pos := pos) F hr hg hm hk hb .nil pass0 ha hdb he hpl
  have e : tCall sp [] E0 t = tFn sp t := by
    funext σ H Q
    show t σ H (fun vs H1 => sp (vs ++ []) H1 Q E0) = t σ H fun vs H1 => sp vs H1 Q E0
    congr 1
    funext vs H1
    rw [List.append_nil]
  rw [← e]
  exact h
theorem pe_globI {X : Cx} {x : Str} {i : Int} {pos : Pos} (hg : Gl X x) (hm : ∃ t, X.mg x = some (.int i t)) (hd : (x == ("__debug__" : Str)) = false := by decide) : PE X (.Name x pos) (tC (.int i)) := by
  obtain ⟨t, e⟩ := hm
  exact pe_glob hg e ⟨t, rfl⟩ hd

/-! ### heaps: all that stands but d stands as before -/
def Fr (d : Addr) (H H' : Hp) : Prop := ∀ b o, H b = some o → b ≠ d → H' b = some o
theorem Fr.refl (d : Addr) (H : Hp) : Fr d H H := fun _ _ h _ => h
theorem Fr.trans {d : Addr} {H H1 H2 : Hp} (a : Fr d H H1) (b : Fr d H1 H2) : Fr d H H2 := fun x o h n => b x o (a x o h n) n
theorem Fr.self {d : Addr} {H : Hp} {o : HO} : Fr d H (upd H d o) := fun b u h n => by
  rw [upd_ne n]
  exact h
theorem Fr.new {d p : Addr} {H : Hp} {o : HO} (e : H p = none) : Fr d H (upd H p o) := fun b u h n => by
  rw [upd_ne (ne_of_none h e)]
  exact h
/-- an object that the first heap does not know may change -/
theorem Fr.mut {d p : Addr} {H H1 : Hp} {o : HO} (a : Fr d H H1) (e : H p = none) : Fr d H (upd H1 p o) := fun b u h n => by
  rw [upd_ne (ne_of_none h e)]
  exact a b u h n
theorem Fr.of_same {d : Addr} {H H' : Hp} (a : Same H H') : Fr d H H' := fun b o h _ => a b o h
theorem Fr.lst {d a : Addr} {H H' : Hp} {K : PySem.W.Frag} {xs : List V} (f : Fr d H H') (n : a ≠ d) (h : SqL K H a xs) : SqL K H' a xs := by
  rcases h with (h | ⟨o, h⟩) | h
  · exact .inl (.inl (f _ _ h n))
  · exact .inl (.inr ⟨o, f _ _ h n⟩)
  · exact .inr h
theorem Fr.tup {d a : Addr} {H H' : Hp} {K : PySem.W.Frag} {xs : List V} (f : Fr d H H') (n : a ≠ d) (h : SqT K H a xs) : SqT K H' a xs := by
  rcases h with (h | ⟨o, h⟩) | h
  · exact .inl (.inl (f _ _ h n))
  · exact .inl (.inr ⟨o, f _ _ h n⟩)
  · exact .inr h
/-- what was there ahead of d is there behind -/
theorem same_fr {H0 H H' : Hp} {d : Addr} (s : Same H0 H) (f : Fr d H H') (e : H0 d = none) : Same H0 H' := fun b o h => f b o (s b o h) (ne_of_none h e)
theorem same_new {H : Hp} {p : Addr} {o : HO} (h : H p = none) : Same H (upd H p o) := fun b x e => by
  rw [upd_ne (ne_of_none e h)]
  exact e
theorem same_mut {H H1 : Hp} {p : Addr} {o : HO} (a : Same H H1) (h : H p = none) : Same H (upd H1 p o) := fun b x e => by
  rw [upd_ne (ne_of_none e h)]
  exact a b x e
theorem free_fr {d p : Addr} {H H' : Hp} (f : Fr d H H') (e : H' p = none) (n : p ≠ d) : H p = none := by
  cases q : H p with
  | none => rfl
  | some o =>
    rw [f p o q n] at e
    cases e
theorem sql {K : PySem.W.Frag} {H : Hp} {a : Addr} {xs : List V} (h : H a = some (.lst xs)) : SqL K H a xs := .inl (.inl h)
theorem sqt {K : PySem.W.Frag} {H : Hp} {a : Addr} {xs : List V} (h : H a = some (.tup xs)) : SqT K H a xs := .inl (.inl h)
/-! ### the dice: a list of three numbers that stands at d -/
def DiceAt (H : Hp) (d : Addr) : Prop := ∃ g e c : Int, H d = some (.lst [.int g, .int e, .int c])
theorem DiceAt.new {H : Hp} {d p : Addr} {o : HO} (h : DiceAt H d) (e : H p = none) : DiceAt (upd H p o) d := by
  obtain ⟨g, x, c, h⟩ := h
  exact ⟨g, x, c, by rw [upd_ne (ne_of_none h e)]; exact h⟩
theorem DiceAt.mut {H : Hp} {d p : Addr} {o : HO} (h : DiceAt H d) (e : p ≠ d) : DiceAt (upd H p o) d := by
  obtain ⟨g, x, c, h⟩ := h
  exact ⟨g, x, c, by rw [upd_ne e.symm]; exact h⟩
theorem DiceAt.same {H H' : Hp} {d : Addr} (h : DiceAt H d) (s : Same H H') : DiceAt H' d := by
  obtain ⟨g, x, c, h⟩ := h
  exact ⟨g, x, c, s _ _ h⟩
theorem DiceAt.ne {H : Hp} {d p : Addr} (h : DiceAt H d) (e : H p = none) : p ≠ d := by
  obtain ⟨g, x, c, h⟩ := h
  exact fun z => by
    rw [z, h] at e
    cases e
def spDice (K : PySem.W.Frag) : Sp := fun vs H Q _ => ∃ (a : Addr) (i : Int) (ns : List Int), vs = [.ref a, .int i] ∧ SqL K H a (ns.map V.int) ∧ 0 ≤ i ∧ i ≤ 1000 ∧ ∀ d H', H d = none → DiceAt H' d → Same H H' → Q (.ref d) H'
def spRoll : Sp := fun vs H Q _ => ∃ (d : Addr) (t : Int), vs = [.ref d, .int t] ∧ DiceAt H d ∧ 0 < t ∧ t.natAbs < 2 ^ 4000 ∧ ∀ n H', 0 ≤ n → n < t → DiceAt H' d → Fr d H H' → Q (.int n) H'
def spPick (K : PySem.W.Frag) : Sp := fun vs H Q _ => ∃ (d l : Addr) (ys : List V), vs = [.ref d, .ref l] ∧ DiceAt H d ∧ SqL K H l ys ∧ l ≠ d ∧ 0 < ys.length ∧ ys.length ≤ 100000 ∧ ∀ v H', v ∈ ys → DiceAt H' d → Fr d H H' → Q v H'
theorem big_div {t : Int} (h : 0 < t) (b : t.natAbs < 2 ^ 4000) {i : Int} : CDivW i t := wide_div h b (by decide) (by decide)
theorem getD_at {α : Type} {l : List α} {n : Int} (h0 : 0 ≤ n) (h1 : n < l.length) : ∃ x, l[n.toNat]? = some x ∧ x ∈ l := by
  have hn : n.toNat < l.length := by omega
  exact ⟨l[n.toNat], by simp [hn], List.getElem_mem hn⟩
theorem at_nat {xs : List V} {n : Int} {v : V} (h0 : 0 ≤ n) (h : xs[n.toNat]? = some v) : atI xs n = some v := at_of (j := n.toNat) (by omega) h
/-- both ways of an if without else come together: J is what follows, for any state of the form F x -/
theorem y_join {α : Type} {σ : L2.St} {H : Hp} {k : Bool} {t : TS} {n b c : L2.St → Hp → Prop} {rt : VK} (F : α → L2.St) (x : α) (e : σ = F x) (hJ : ∀ x, n (F x) H) (h : k = true → (∀ x, n (F x) H) → t ⟨n, rt, b, c⟩ σ H) :
    if k = true then t ⟨n, rt, b, c⟩ σ H else tNext ⟨n, rt, b, c⟩ σ H := by
  cases k with
  | true => exact iteT (h rfl hJ)
  | false => exact iteF (show n σ H by rw [e]; exact hJ x)
theorem y_ite {k : Bool} {A B : Prop} (h1 : k = true → A) (h2 : k = false → B) : if k = true then A else B := by
  cases k with
  | true => exact iteT (h1 rfl)
  | false => exact iteF (h2 rfl)
/-! ### rules with the written part by its own name (a comprehension's block has it by another) -/
section
variable {X : Cx} {K : PySem.W.Frag}
theorem x_list (h : X.K = K := by rfl) : IxR X (rIxL K) := h ▸ ix_list
theorem x_tup (h : X.K = K := by rfl) : IxR X (rIxT K) := h ▸ ix_tup
theorem w_list {tg l : Expr} {tl : TE} (hl : PE X l tl) (h : X.K = K := by rfl) : PI X tg l (iList K tl) := h ▸ pi_list hl
theorem w_tup {tg l : Expr} {tl : TE} (hl : PE X l tl) (h : X.K = K := by rfl) : PI X tg l (iTup K tl) := h ▸ pi_tup hl
theorem c_isi (h : X.K = K := by rfl) : CallR X (.builtin "isinstance") (rIsi K) := h ▸ call_isi
theorem c_all (hc : X.calm = true) (h : X.K = K := by rfl) : CallR X (.builtin "all") (rAll K) := h ▸ cr_all hc
theorem o_eqD (hu : X.A.units + 64 < cLine) (h : X.K = K := by rfl) : OpR X (compareOp .Eq) (rEqD K) := h ▸ op_eqD hu
theorem o_neD (hu : X.A.units + 64 < cLine) (h : X.K = K := by rfl) : OpR X (compareOp .NotEq) (rNeD K) := h ▸ op_neD hu
theorem e_bm {o e : Expr} {es : List Expr} {to : TE} {t : TA} {name : Str} {apos cpos : Pos} {T id : String} {r : V → List V → Hp → VK → Prop} (pa : PlainAttrs T) (slot : Slot T name id) (hty : typeOf (.builtin id) = pure (.type "method_descriptor")) (hm : MtR X id r) (ho : PE X o to) (ha : PA X (e :: es) t) (h : X.K = K := by rfl)
    (hbase : attributeBase o name X.env (eval o X.env) = eval o X.env := by rfl)
    (hfew : ((backTo cpos (starEach (e :: es) X.env)).all (fun x => !x.1) && (backToKw cpos (keywordEach [] X.env)).all (fun x => x.1.isSome)
      && decide ((e :: es).length + ([] : List Keyword).length + (if ([] : List Keyword).isEmpty then 0 else 1) < 30)) = true := by rfl)
    (hline : (apos.endLine == cpos.line) = true := by rfl) (hs : starEach (e :: es) X.env = (false, eval e X.env) :: starEach es X.env := by rfl) (hplain : (backTo cpos (starEach es X.env)).any (·.1) = false := by rfl) :
    PE X (.Call (.Attribute o name apos) (e :: es) [] cpos) (tBM K T r to t) := h ▸ pe_bm pa slot hty hm ho ha hbase hfew hline hs hplain
theorem y_bm {σ : L2.St} {H : Hp} {Q : VK} {T : String} {r : V → List V → Hp → VK → Prop} {to : TE} {t : TA} (h : to σ H fun x H1 => tyV K T x H1 ∧ t σ H1 fun xs H2 => r x xs H2 Q) : tBM K T r to t σ H Q := h
theorem y_m1 {σ : L2.St} {H : Hp} {Q : VK} {r : V → List V → Hp → VK → Prop} {to te : TE} (h : to σ H fun x H1 => (∃ a, x = .str a) ∧ te σ H1 fun y H2 => r x [y] H2 Q) : tM1 r to te σ H Q := h
theorem ty_l {H : Hp} {p : Addr} {xs : List V} (h : H p = some (.lst xs)) : tyV K "list" (.ref p) H := .inl ⟨rfl, _, .inl (.inl h)⟩
end
theorem y_lc {σ : L2.St} {H : Hp} {Q : VK} {wi : TI} {g : TG} {tt : TT} {te : TE} {vs : List Nat} (h : wi σ H fun J H1 => ∀ D, H1 D = none → ∃ W : Nat → Nat → Hp → Prop, (∃ m, W 0 m (upd H1 D (.lst []))) ∧ ∀ i m H, W i m H →
  (J.stop i H ∧ Q (.ref D) H) ∨ (J.go i H ∧ ∃ Nx : Hp → Prop, (∀ H', Nx H' → ∃ m', m' < m ∧ W (i + 1) m' H') ∧ ∀ x H', J.yld i H x H' → g x (wipe σ vs) H' fun σ2 H2 => wipe σ2 vs = wipe σ vs ∧ tt σ2 H2 fun b H3 =>
    if b = true then te σ2 H3 fun y H4 => ∃ acc, H4 D = some (.lst acc) ∧ acc.length < sizeLine ∧ Nx (upd H4 D (.lst (acc ++ [y]))) else Nx H3)) : tLc wi g tt te vs σ H Q := h
theorem ix_seq {i : Int} {n : Nat} (h0 : 0 ≤ i) (h1 : i < n) : seqIndex? i n = some i.toNat := by
  unfold seqIndex?
  have e : ¬ i < 0 := by omega
  simp [e, h0, h1]
theorem big_of {t : Int} (h : t.natAbs ≤ 1000000) : t.natAbs < 2 ^ 4000 := Nat.lt_of_le_of_lt h (by decide +kernel)
theorem sz_le {n : Nat} (h : n ≤ 100000) : n ≤ sizeLine := Nat.le_trans h (by decide)
theorem sz_lt {n : Nat} (h : n < 100000) : n < sizeLine := Nat.lt_of_lt_of_le h (by decide)
theorem y_isi {H : Hp} {Q : VK} {K : PySem.W.Frag} {x : V} {t : Value} {T : String} {k : Bool} (ty : TyX K H x t) (e : PySem.W.kitOne K t (.type T) = some k) (h : Q (.bl k) H) : rIsi K [x, .ty T] H Q := ⟨x, .ty T, t, .type T, k, rfl, .ty T, ty, e, h⟩
/-! ### join of texts -/
def rJoin (K : PySem.W.Frag) : V → List V → Hp → VK → Prop := fun x xs H Q => ∃ a p, ∃ ys : List Str, x = .str a ∧ xs = [.ref p] ∧ (SqL K H p (ys.map V.str) ∨ SqT K H p (ys.map V.str)) ∧ (ys.map (·.length)).sum + ys.length * a.length ≤ 16777216 ∧ Q (.str (Txt.join a ys)) H
theorem e_join {X : Cx} {K : PySem.W.Frag} {o e : Expr} {to te : TE} {apos pos : Pos} (ho : PE X o to) (he : PE X e te) (h : X.K = K := by rfl) (hs : starEach [e] X.env = [(false, eval e X.env)] := by rfl) (hbase : attributeBase o "join" X.env (eval o X.env) = eval o X.env := by rfl) (hline : (apos.endLine == pos.line) = true := by rfl) :
    PE X (.Call (.Attribute o "join" apos) [e] [] pos) (tM1 (rJoin K) to te) := by
  subst h
  exact pe_join ho he hs hbase hline
theorem tl_flat : ∀ ps : List (List Nat), TL.joinL [] ps = ps.flatten
  | [] => rfl
  | [p] => by simp [TL.joinL]
  | p :: q :: r => by
    show p ++ ([] ++ TL.joinL [] (q :: r)) = _
    rw [tl_flat (q :: r), List.nil_append]
    rfl
theorem join_nil (ys : List Str) : (Txt.join "" ys).cps.toList = (ys.map fun y => y.cps.toList).flatten := by
  have e : Txt.join "" ys = Str.join "" ys := StrLaws.glued_eq_join "" ys
  rw [e]
  have h := TL.tl_join "" ys
  have z : TL.tl "" = [] := by decide +kernel
  rw [z, tl_flat] at h
  exact h
theorem y_t {k : Bool} {A B : Prop} (e : k = true) (h : A) : if k = true then A else B := by
  rw [e]
  exact iteT h
theorem y_f {k : Bool} {A B : Prop} (e : k = false) (h : B) : if k = true then A else B := by
  rw [e]
  exact iteF h
/-- a for over a range, what stands behind it told part by part -/
theorem y_forR {lo : Int} {m : Nat} {g : TG} {t : TS} {n b c : L2.St → Hp → Prop} {rt : VK} {σ : L2.St} {H : Hp} (Pv : Nat → L2.St → Hp → Prop) (h0 : Pv 0 σ H)
    (hs : ∀ i σ H, i < m → Pv i σ H → g (.int (lo + i)) σ H fun σ2 H2 => t ⟨Pv (i + 1), rt, n, Pv (i + 1)⟩ σ2 H2) (hd : ∀ σ H, Pv m σ H → n σ H) :
    ∃ W : Nat → Nat → L2.St → Hp → Prop, (∃ m, W 0 m σ H) ∧ ∀ i k σ H, W i k σ H →
      ((Itr lo m).stop i H ∧ n σ H) ∨ ((Itr lo m).go i H ∧ ∃ N : L2.St → Hp → Prop, (∀ σ' H', N σ' H' → ∃ m', m' < k ∧ W (i + 1) m' σ' H') ∧ ∀ x H', (Itr lo m).yld i H x H' → g x σ H' fun σ2 H2 => t ⟨N, rt, n, N⟩ σ2 H2) :=
  for_range (D := ⟨n, rt, b, c⟩) Pv h0 hs hd
theorem y_rU {g : Int → V} {i : Int} {H : Hp} {Q : VK} (h : Q (g i) H) : rU g (.int i) H Q := ⟨i, rfl, h⟩
theorem y_ixT {p : Addr} {xs : List V} {i : Int} {v : V} {H : Hp} {Q : VK} {K : PySem.W.Frag} (e : SqT K H p xs) (a : atI xs i = some v) (h : Q v H) : rIxT K (.ref p) (.int i) H Q := ⟨p, xs, i, v, rfl, rfl, e, a, h⟩
/-- x = e; rest: the rest once, for all that P says of the value -/
theorem y_seqAsg {te : TE} {i : Nat} {u : TS} {n b c : L2.St → Hp → Prop} {rt : VK} {σ : L2.St} {H : Hp} (P : V → Hp → Prop) (rest : ∀ v H1, P v H1 → u ⟨n, rt, b, c⟩ (σ.set i (some v)) H1)
    (h : (∀ v H1, P v H1 → u ⟨n, rt, b, c⟩ (σ.set i (some v)) H1) → te σ H (fun v H1 => u ⟨n, rt, b, c⟩ (σ.set i (some v)) H1)) : tSeq (tAsg te (gName i)) u ⟨n, rt, b, c⟩ σ H := h rest
end Ow

namespace K01
open PySem PySem.Spec PyProof.Rows L2 Ow 
local macro_rules | `(tactic| walk_at "y1") => `(tactic| with_reducible first | refine y_seq ?_ | refine y_asg ?_ | refine y_name ?_ | refine y_con ?_ | refine y_op ?_ | refine y_un ?_ | refine y_cons ?_ | refine y_nil ?_ | refine y_cb ?_ | refine y_fn ?_ | refine y_I0 ?_ | refine y_ret ?_ | refine y_drop ?_ | refine y_ifs ?_ | refine y_test ?_ | refine y_bl ?_ | refine y_not ?_ | refine y_and ?_ | refine y_or ?_ | refine y_if ?_ | refine y_chain ?_ | refine y_andV ?_ | refine y_orV ?_ | refine y_yes ?_ | refine y_lst ?_ | refine y_tup ?_ | refine y_intI ?_ | refine y_intB ?_ | refine y_abs ?_ | refine y_max2 ?_ | refine y_min2 ?_ | refine y_eqI ?_ | refine y_neI ?_ | refine y_eqS ?_ | refine y_neS ?_ | refine y_reprB ?_ | refine y_sub ?_ | refine y_bm ?_ | refine y_m1 ?_ | refine y_lc ?_ | refine y_for ?_ | refine y_rng1 ?_ | refine y_iStr ?_ | refine y_iList ?_ | refine y_next ?_ | refine y_B ?_ | refine y_rU ?_ | refine y_fld ?_ | refine y_prp ?_ | refine y_mth ?_ | refine y_mkr ?_ | refine y_par ?_ | refine y_par2 ?_ | refine y_gcons ?_ | refine y_gnil ?_ | refine y_gfld ?_ | refine y_gcd ?_ | refine y_rng2 ?_ | refine y_iRev ?_ | refine y_revL ?_ | refine y_ef ?_ | refine y_iTup ?_ | refine y_sl ?_ | refine y_iZipA ?_ | refine y_noP ?_ | refine y_prt ?_)
local macro_rules | `(tactic| walk_at "yy") => `(tactic| repeat (first | walk_at "y1" | ((with_reducible refine y_var2 ?_); refine ⟨_, rfl, ?_⟩)))
local macro_rules | `(tactic| walk_at "yi") => `(tactic| first
  | refine y_I (show CMul _ _ from .inl ⟨by decide, by decide⟩) ?_ | refine y_I (show CMul _ _ from .inl ⟨by omega, by omega⟩) ?_ | refine y_I (show CMul _ _ from .inr ⟨by omega, by omega⟩) ?_
  | refine y_I (show (0 : Int) < _ by decide) ?_ | refine y_I (show (0 : Int) < _ by omega) ?_ | refine y_I (show CPowW _ _ from ⟨by decide, by decide +kernel⟩) ?_ | refine y_I (show (0 : Int) < _ by decide +kernel) ?_ | refine y_I (big_div (by decide) (by decide)) ?_)
local macro_rules | `(tactic| walk_at "yt") => `(tactic| (with_reducible refine y_t ?_ ?_; · decide))
local macro_rules | `(tactic| walk_at "yf") => `(tactic| (with_reducible refine y_f ?_ ?_; · decide))
def top (i : Nat) : Stmt := PySem.Challenge.pw_wonbyturns_k01_words_judged.main.body.getD i (.Pass ⟨0, 0, 0, 0⟩)
abbrev s_is_word : Stmt := top 2
abbrev s_law_dice : Stmt := top 4
abbrev s_law_roll : Stmt := top 5
abbrev s_law_pick : Stmt := top 6
abbrev s_law_some : Stmt := top 7
abbrev s_law_is_word : Stmt := top 8
abbrev s_law_drawn_value : Stmt := top 9
abbrev s_law : Stmt := top 10
/-- the built-in names are the built-ins -/
structure Blt (mg : Str → Option Value) : Prop where
  n_abs : mg "abs" = none
  n_all : mg "all" = none
  n_int : mg "int" = none
  n_isinstance : mg "isinstance" = none
  n_len : mg "len" = none
  n_list : mg "list" = none
  n_max : mg "max" = none
  n_min : mg "min" = none
  n_range : mg "range" = none
  n_repr : mg "repr" = none
  n_str : mg "str" = none
structure Con (mg : Str → Option Value) : Prop where
  g_MAX_LETTERS : ∃ t, mg "MAX_LETTERS" = some (.int 8 t)
/-- a small letter -/
def isL (c : Nat) : Bool := decide (97 ≤ c) && decide (c ≤ 122)
def wordB (z : Str) : Bool := decide (1 ≤ z.length ∧ z.length ≤ 8) && z.cps.toList.all isL
def wordV : V → Bool
  | .str z => wordB z
  | _ => false
/-- a value that is_word may be asked of, while the dice stand at d -/
def Val (d : Addr) (H : Hp) (v : V) : Prop := (∃ z : Str, v = .str z ∧ z.cps.size ≤ 1000 ∧ ∀ c ∈ z.cps.toList, c < 128) ∨ v = .non ∨ (∃ b, v = .bl b) ∨ (∃ i, v = .int i) ∨
  ∃ p, v = .ref p ∧ p ≠ d ∧ ((∃ xs, H p = some (.tup xs)) ∨ (∃ xs, H p = some (.lst xs)) ∨ ∃ kvs, H p = some (.dK kvs))
theorem Val.fr {d : Addr} {H H' : Hp} {v : V} (f : Fr d H H') (h : Val d H v) : Val d H' v := by
  rcases h with h | h | h | h | ⟨p, e, n, h⟩
  · exact .inl h
  · exact .inr (.inl h)
  · exact .inr (.inr (.inl h))
  · exact .inr (.inr (.inr (.inl h)))
  · refine .inr (.inr (.inr (.inr ⟨p, e, n, ?_⟩)))
    rcases h with ⟨x, h⟩ | ⟨x, h⟩ | ⟨x, h⟩
    · exact .inl ⟨x, f _ _ h n⟩
    · exact .inr (.inl ⟨x, f _ _ h n⟩)
    · exact .inr (.inr ⟨x, f _ _ h n⟩)
/-- what is asked of the argument -/
def Arg (K : PySem.W.Frag) (H : Hp) (v : V) : Prop := (∃ z : Str, v = .str z ∧ z.cps.size ≤ 1000 ∧ ∀ c ∈ z.cps.toList, c < 128) ∨ ((∀ z, v ≠ .str z) ∧ ∃ t, TyX K H v t ∧ PySem.W.kitOne K t (.type "str") = some false)
theorem Val.arg {d : Addr} {H : Hp} {K : PySem.W.Frag} {v : V} (h : Val d H v) : Arg K H v := by
  rcases h with h | rfl | ⟨b, rfl⟩ | ⟨i, rfl⟩ | ⟨p, rfl, n, h⟩
  · exact .inl h
  · exact .inr ⟨fun z e => (nomatch e), _, .base .non, kit_ty (by decide +kernel)⟩
  · exact .inr ⟨fun z e => (nomatch e), _, .base (.bl b), kit_ty (by decide +kernel)⟩
  · exact .inr ⟨fun z e => (nomatch e), _, .base (.int i), kit_ty (by decide +kernel)⟩
  · refine .inr ⟨fun z e => (nomatch e), ?_⟩
    rcases h with ⟨x, h⟩ | ⟨x, h⟩ | ⟨x, h⟩
    · exact ⟨_, .base (.tup h), kit_ty (by decide +kernel)⟩
    · exact ⟨_, .base (.lst h), kit_ty (by decide +kernel)⟩
    · exact ⟨_, .base (.dK h), kit_ty (by decide +kernel)⟩
theorem Arg.non {K : PySem.W.Frag} {H : Hp} {v : V} (h : ∀ z, v ≠ .str z) : wordV v = false := by
  cases v with
  | str z => exact absurd rfl (h z)
  | _ => rfl
theorem canLay_chars : ∀ l : List Nat, (∀ c ∈ l, c < 128) → PyData.canLayAll0 (l.map fun c => PyData.str ⟨#[c]⟩) = true
  | [], _ => rfl
  | c :: l, h => by
    have hc := h c List.mem_cons_self
    have ih := canLay_chars l fun x hx => h x (List.mem_cons_of_mem _ hx)
    simp [PyData.canLayAll0, PyData.canLay0, ih, PyData.strOk]
    omega
theorem depth_chars : ∀ l : List Nat, PyData.depthAll (l.map fun c => PyData.str ⟨#[c]⟩) = 0
  | [] => rfl
  | _ :: r => by simp [PyData.depthAll, PyData.depth, depth_chars r]
theorem shaped_chars {l : List Nat} (h : ∀ c ∈ l, c < 128) : SeqAt.shaped (.list (l.map fun c => PyData.str ⟨#[c]⟩)) = true := by
  simp [SeqAt.shaped, PyData.canLay0, PyData.depth, canLay_chars l h, depth_chars]
theorem eqv_nil (l : List Nat) : PyData.eqv (.list (l.map fun c => PyData.str ⟨#[c]⟩)) (.list []) = l.isEmpty := by
  cases l with
  | nil => rfl
  | cons c l => rfl
theorem dpa_chars {K : PySem.W.Frag} {H : Hp} : ∀ l : List Nat, DpAll K H (l.map fun c => V.str ⟨#[c]⟩) (l.map fun c => PyData.str ⟨#[c]⟩)
  | [] => .nil
  | c :: l => .cons (.str _) (dpa_chars l)
theorem all_not {l : List Nat} : (l.filter fun c => !isL c).isEmpty = l.all isL := by
  induction l with
  | nil => rfl
  | cons c l ih =>
    rw [List.filter_cons, List.all_cons, ← ih]
    cases isL c <;> rfl
theorem chr_at {z : Str} {i c : Nat} (h : z.cps[i]? = some c) : z.cps.toList.take (i + 1) = z.cps.toList.take i ++ [c] := by
  have e : z.cps.toList[i]? = some c := by simpa using h
  rw [List.take_add_one, e]
  rfl
theorem len_sum {l : List Str} (h : ∀ z ∈ l, z.length ≤ 1) : (l.map (·.length)).sum ≤ l.length := by
  induction l with
  | nil => exact Nat.le_refl _
  | cons z l ih =>
    have h1 := h z List.mem_cons_self
    have h2 := ih fun x hx => h x (List.mem_cons_of_mem _ hx)
    simp only [List.map_cons, List.sum_cons, List.length_cons]
    omega
theorem join_ok {l : List Str} (h : ∀ z ∈ l, z.cps.size ≤ 1 ∧ ∀ c ∈ z.cps.toList, c < 128) : (Txt.join "" l).cps.size ≤ l.length ∧ ∀ c ∈ (Txt.join "" l).cps.toList, c < 128 := by
  have e := join_nil l
  constructor
  · have e2 : (Txt.join "" l).cps.size = (Txt.join "" l).cps.toList.length := by simp
    rw [e2, e, List.length_flatten, List.map_map]
    have e3 : (l.map (List.length ∘ fun y => y.cps.toList)) = l.map (·.length) := by
      apply List.map_congr_left
      intro y _
      exact Array.length_toList
    rw [e3]
    exact len_sum fun z hz => (h z hz).1
  · intro c hc
    rw [e] at hc
    obtain ⟨y, hy, hc⟩ := List.mem_flatten.mp hc
    obtain ⟨z, hz, rfl⟩ := List.mem_map.mp hy
    exact (h z hz).2 c hc
theorem app_ok {x y : Str} {n m : Nat} (hx : x.cps.size ≤ n ∧ ∀ c ∈ x.cps.toList, c < 128) (hy : y.cps.size ≤ m ∧ ∀ c ∈ y.cps.toList, c < 128) : (x ++ y).cps.size ≤ n + m ∧ x.cps.size ≤ (x ++ y).cps.size ∧ ∀ c ∈ (x ++ y).cps.toList, c < 128 := by
  have e : (x ++ y).cps.toList = x.cps.toList ++ y.cps.toList := TL.tl_append x y
  have e2 : (x ++ y).cps.size = x.cps.size + y.cps.size := by
    have := congrArg List.length e
    simpa using this
  refine ⟨by omega, by omega, fun c hc => ?_⟩
  rw [e] at hc
  rcases List.mem_append.mp hc with h | h
  · exact hx.2 c h
  · exact hy.2 c h
def told : List V := [.str "coin", .str "", .str "abcdefgh", .str "abcdefghi", .str "a b", .str "x0", .str "X"]
theorem told_ok : ∀ x ∈ told, ∃ z : Str, x = .str z ∧ z.cps.size ≤ 1000 ∧ ∀ c ∈ z.cps.toList, c < 128 := by
  intro x h
  unfold told at h
  simp only [List.mem_cons, List.not_mem_nil, or_false] at h
  rcases h with rfl | rfl | rfl | rfl | rfl | rfl | rfl <;> exact ⟨_, rfl, by decide +kernel, by decide +kernel⟩
theorem told_is : (told.map fun v => V.bl (wordV v)) = [.bl true, .bl false, .bl true, .bl false, .bl false, .bl false, .bl false] := by decide +kernel
def spWord (K : PySem.W.Frag) : Sp := fun vs H Q _ => ∃ v, vs = [v] ∧ Arg K H v ∧ ∀ H', Same H H' → Q (.bl (wordV v)) H'
def spSome (K : PySem.W.Frag) : Sp := fun vs H Q _ => ∃ (d l : Addr) (ys : List V) (n : Int), vs = [.ref d, .ref l, .int n] ∧ DiceAt H d ∧ SqL K H l ys ∧ l ≠ d ∧ ys.length ≤ 1000 ∧ 0 ≤ n ∧ n ≤ 1000 ∧
  ∀ p us H', (∀ v ∈ us, v ∈ ys) → us.length ≤ ys.length → DiceAt H' d → Fr d H H' → H p = none → H' p = some (.lst us) → Q (.ref p) H'
def spValue (K : PySem.W.Frag) : Sp := fun vs H Q _ => ∃ d, vs = [.ref d] ∧ DiceAt H d ∧ ∀ v H', Val d H' v → DiceAt H' d → Fr d H H' → Q v H'
def spLaw (K : PySem.W.Frag) : Sp := fun vs H Q _ => ∃ (a : Addr) (ns : List Int), vs = [.ref a] ∧ SqL K H a (ns.map V.int) ∧ ns.length ≤ 63 ∧ ∀ H', Q (.bl true) H'
/-- letters between a and z, as Python compares texts -/
theorem ge_a (c : Nat) : (!decide ((⟨#[c]⟩ : Str).cps.toList < ("a" : Str).cps.toList)) = decide (97 ≤ c) := by
  have e : ("a" : Str).cps.toList = [97] := by decide +kernel
  rw [e]
  show (!decide ([c] < [97])) = _
  by_cases h : c < 97
  · simp [h, List.cons_lt_cons_iff]
  · simp [h, List.cons_lt_cons_iff]
    omega
theorem le_z (c : Nat) : (!decide (("z" : Str).cps.toList < (⟨#[c]⟩ : Str).cps.toList)) = decide (c ≤ 122) := by
  have e : ("z" : Str).cps.toList = [122] := by decide +kernel
  rw [e]
  show (!decide ([122] < [c])) = _
  by_cases h : 122 < c
  · simp [h, List.cons_lt_cons_iff]
  · simp [h, List.cons_lt_cons_iff]
    omega
theorem in_abc (c : Nat) : decide (c ∈ ("abcdefghijklmnopqrstuvwxyz" : Str).cps.toList) = isL c := by
  have e : ("abcdefghijklmnopqrstuvwxyz" : Str).cps.toList = [97, 98, 99, 100, 101, 102, 103, 104, 105, 106, 107, 108, 109, 110, 111, 112, 113, 114, 115, 116, 117, 118, 119, 120, 121, 122] := by decide +kernel
  rw [e]
  unfold isL
  rw [Bool.eq_iff_iff, Bool.and_eq_true, decide_eq_true_iff, decide_eq_true_iff, decide_eq_true_iff]
  simp only [List.mem_cons, List.not_mem_nil, or_false]
  omega
section
variable {P : Program} {w : World} {K : PySem.W.Frag} {mg : Str → Option Value} {base : Heap}
theorem sc_law_dice : FnScope ["_law_script", "_law_spot", "_law_cell", "_law_great", "_law_blend"] ["_law_script", "_law_spot"] (defScope s_law_dice) := ⟨rfl, rfl, rfl, by decide +kernel, rfl, by decide +kernel, by decide +kernel⟩
-- 0 _law_script, 1 _law_spot, 2 _law_cell, 3 _law_great, 4 _law_blend
theorem ok_law_dice {f : Addr} {fd : FuncData} (F : FunD K "_law_dice" "_law_dice" (defArgs s_law_dice) (defBody s_law_dice) (defScope s_law_dice) [] [] f fd) (B : Blt mg) (Z : Con mg) : FnOk P w K mg base CX0 1 f fd ["_law_script", "_law_spot"] (spDice K) := by
  refine F.ok sc_law_dice (fun vs H Q E h => ?_) (fun cdv A outer s H vs Q E hr h => ?_)
  · obtain ⟨a, i, ns, rfl, _⟩ := h
    rfl
  · obtain ⟨a, i, ns, rfl, hS, h0, h1, k⟩ := h
    refine ⟨_, PSs.nox (pss_cons (ps_set (i := 2) sc_law_dice.nd rfl (Or.inl rfl) (pe_op op_add (pe_op op_mul pe_int (pv 1)) pe_int)) (pss_cons (ps_if (pt_cmpR op_lt (pv 1) (pe_callB (c_lenQ (K := K)) (by rfl) B.n_len (by decide +kernel) (pa_cons (pv 0) pa_nil)) (nomark _)) (pss_one (ps_set (i := 2) sc_law_dice.nd rfl (Or.inl rfl) (pe_ix (x_list (K := K)) (pv 0) (pv 1) (fun _ _ => rfl)))) pss_nil) (pss_cons (ps_set (i := 3) sc_law_dice.nd rfl (Or.inl rfl) (pe_op op_mod (pe_callTy c_int (by rfl) B.n_int (by decide +kernel) (pa_cons (pe_callB c_abs (by rfl) B.n_abs (by decide +kernel) (pa_cons (pv 2) pa_nil)) pa_nil)) (pe_op op_powW (pe_op op_powW pe_int pe_int) pe_int))) (pss_cons (ps_set (i := 4) sc_law_dice.nd rfl (Or.inl rfl) (pe_op op_add (pe_op op_add (pe_op op_add (pe_op op_mul (pe_op op_mod (pe_callTy c_int (by rfl) B.n_int (by decide +kernel) (pa_cons (pv 3) pa_nil)) pe_int) pe_int) (pe_op op_mul pe_int (pv 1))) (pe_op op_mul pe_int (pe_callTy c_int (by rfl) B.n_int (by decide +kernel) (pa_cons (pe_cmpR op_lt (pv 2) pe_int (nomark _)) pa_nil)))) pe_int)) (pss_one (ps_ret (pe_lst (pa_cons (pe_callB (c_max2 rfl) (by rfl) B.n_max (by decide +kernel) (pa_cons pe_int (pa_cons (pe_op op_sub (pv 3) (pe_op op_powW pe_int pe_int)) pa_nil))) (pa_cons (pe_op op_mod (pe_callTy c_int (by rfl) B.n_int (by decide +kernel) (pa_cons (pv 4) pa_nil)) pe_int) (pa_cons pe_int pa_nil)))))))))), ?_⟩
    walk_at "yy"
    walk_at "yi"
    walk_at "yy"
    refine y_lenL hS ?_
    walk_at "yy"
    -- if spot < len(script): cell = script[spot]; both ways come together
    refine y_join (fun cell : Int => [some (.ref a), some (.int i), some (.int cell), none, none]) (71 * i + 29) rfl (fun cell => ?_) (fun hk J => ?_)
    · walk_at "yy"
      walk_at "yi"
      walk_at "yy"
      walk_at "yi"
      walk_at "yy"
      walk_at "yi"
      walk_at "yy"
      generalize ((cell.natAbs : Int) % _) = great
      walk_at "yy"
      walk_at "yi"
      walk_at "yy"
      walk_at "yi"
      walk_at "yy"
      walk_at "yi"
      walk_at "yy"
      walk_at "yi"
      walk_at "yy"
      generalize (great % 2305843009213693613 * 1000427 + 8111 * i + 59 * _ + 31) = blend
      walk_at "yy"
      walk_at "yi"
      walk_at "yy"
      walk_at "yi"
      walk_at "yy"
      exact ⟨by show 3 ≤ sizeLine; decide, fun p hp => k p _ hp ⟨_, _, _, upd_same⟩ (same_new hp)⟩
    · have hk := of_decide_eq_true hk
      rw [List.length_map] at hk
      have hn : i.toNat < ns.length := by omega
      walk_at "yy"
      refine y_ixL hS (at_nat h0 (v := .int ns[i.toNat]) (by simp [hn])) ?_
      exact J _
theorem sc_law_roll : FnScope ["_law_dice_here", "_law_total", "_law_found", "_law_one", "_law_two"] ["_law_dice_here", "_law_total"] (defScope s_law_roll) := ⟨rfl, rfl, rfl, by decide +kernel, rfl, by decide +kernel, by decide +kernel⟩
-- 0 _law_dice_here, 1 _law_total, 2 _law_found, 3 _law_one, 4 _law_two
theorem ok_law_roll {f : Addr} {fd : FuncData} (F : FunD K "_law_roll" "_law_roll" (defArgs s_law_roll) (defBody s_law_roll) (defScope s_law_roll) [] [] f fd) (B : Blt mg) (Z : Con mg) : FnOk P w K mg base CX0 1 f fd ["_law_dice_here", "_law_total"] spRoll := by
  refine F.ok sc_law_roll (fun vs H Q E h => ?_) (fun cdv A outer s H vs Q E hr h => ?_)
  · obtain ⟨d, t, rfl, _⟩ := h
    rfl
  · obtain ⟨d, t, rfl, ⟨g, e, c, hd⟩, h0, h1, k⟩ := h
    refine ⟨_, PSs.nox (pss_cons (ps_if (pt_cmpR op_gt (pe_ix (x_list (K := K)) (pv 0) pe_int (fun _ _ => rfl)) pe_int (nomark _)) (pss_cons (ps_set (i := 2) sc_law_roll.nd rfl (Or.inl rfl) (pe_op op_mod (pe_callTy c_int (by rfl) B.n_int (by decide +kernel) (pa_cons (pe_ix (x_list (K := K)) (pv 0) pe_int (fun _ _ => rfl)) pa_nil)) (pv 1))) (pss_cons (ps_asg (pe_op op_fdivW (pe_ix (x_list (K := K)) (pv 0) pe_int (fun _ _ => rfl)) (pv 1)) (pg_sub (pv 0) pe_int set_list)) (pss_one (ps_ret (pv 2))))) pss_nil) (pss_cons (ps_asg (pe_op op_add (pe_ix (x_list (K := K)) (pv 0) pe_int (fun _ _ => rfl)) pe_int) (pg_sub (pv 0) pe_int set_list)) (pss_cons (ps_set (i := 3) sc_law_roll.nd rfl (Or.inl rfl) (pe_op op_mod (pe_callTy c_int (by rfl) B.n_int (by decide +kernel) (pa_cons (pe_op op_add (pe_ix (x_list (K := K)) (pv 0) pe_int (fun _ _ => rfl)) (pe_op op_mul pe_int (pe_ix (x_list (K := K)) (pv 0) pe_int (fun _ _ => rfl)))) pa_nil)) pe_int)) (pss_cons (ps_set (i := 4) sc_law_roll.nd rfl (Or.inl rfl) (pe_op op_add (pe_op op_mul (pe_op op_mod (pe_callTy c_int (by rfl) B.n_int (by decide +kernel) (pa_cons (pe_op op_mul (pv 3) (pv 3)) pa_nil)) pe_int) (pv 3)) (pe_op op_mul pe_int (pe_ix (x_list (K := K)) (pv 0) pe_int (fun _ _ => rfl))))) (pss_cons (ps_set (i := 4) sc_law_roll.nd rfl (Or.inl rfl) (pe_op op_mod (pe_callTy c_int (by rfl) B.n_int (by decide +kernel) (pa_cons (pv 4) pa_nil)) pe_int)) (pss_one (ps_ret (pe_op op_mod (pe_callTy c_int (by rfl) B.n_int (by decide +kernel) (pa_cons (pe_op op_fdivW (pv 4) pe_int) pa_nil)) (pv 1))))))))), ?_⟩
    have hdv : ∀ i : Int, CDivW i t := fun i => big_div h0 h1
    walk_at "yy"
    refine y_ixL (sql hd) rfl ?_
    walk_at "yy"
    refine y_ite (fun hk => ?_) (fun hk => ?_)
    · walk_at "yy"
      refine y_ixL (sql hd) rfl ?_
      walk_at "yy"
      walk_at "yi"
      walk_at "yy"
      refine y_ixL (sql hd) rfl ?_
      walk_at "yy"
      refine y_I (hdv _) ?_
      walk_at "yy"
      refine y_setL hd rfl ?_
      walk_at "yy"
      exact k _ _ (Int.emod_nonneg _ (by omega)) (Int.emod_lt_of_pos _ h0) ⟨_, _, _, upd_same⟩ Fr.self
    · walk_at "yy"
      refine y_ixL (sql hd) rfl ?_
      walk_at "yy"
      refine y_setL hd rfl ?_
      walk_at "yy"
      refine y_ixL (sql upd_same) rfl ?_
      walk_at "yy"
      refine y_ixL (sql upd_same) rfl ?_
      walk_at "yy"
      walk_at "yi"
      walk_at "yy"
      walk_at "yi"
      walk_at "yy"
      generalize e1 : (e + 998244289 * (c + 1)) % 2305843009213693951 = one
      have b0 : 0 ≤ one := by omega
      have b1 : one < 2305843009213693951 := by omega
      clear e1
      walk_at "yy"
      walk_at "yi"
      walk_at "yy"
      walk_at "yi"
      walk_at "yy"
      generalize e2 : one * one % 2305843009213693883 = sq
      have b2 : 0 ≤ sq := by omega
      have b3 : sq < 2305843009213693883 := by omega
      clear e2
      walk_at "yi"
      walk_at "yy"
      refine y_ixL (sql upd_same) rfl ?_
      walk_at "yy"
      walk_at "yi"
      walk_at "yy"
      walk_at "yi"
      walk_at "yy"
      refine y_I (big_div (by decide) (by decide)) ?_
      walk_at "yy"
      refine y_I (show (0 : Int) < t from h0) ?_
      exact k _ _ (Int.emod_nonneg _ (by omega)) (Int.emod_lt_of_pos _ h0) ⟨_, _, _, upd_same⟩ Fr.self
theorem sc_law_pick : FnScope ["_law_dice_here", "_law_items"] ["_law_dice_here", "_law_items"] (defScope s_law_pick) := ⟨rfl, rfl, rfl, by decide +kernel, rfl, by decide +kernel, by decide +kernel⟩
-- 0 _law_dice_here, 1 _law_items
theorem ok_law_pick {f : Addr} {fd : FuncData} (F : FunD K "_law_pick" "_law_pick" (defArgs s_law_pick) (defBody s_law_pick) (defScope s_law_pick) [] [] f fd) (B : Blt mg) (Z : Con mg) (C_law_roll : Cal P w K mg base 1 "_law_roll" ["_law_dice_here", "_law_total"] spRoll) : FnOk P w K mg base CX0 2 f fd ["_law_dice_here", "_law_items"] (spPick K) := by
  refine F.ok sc_law_pick (fun vs H Q E h => ?_) (fun cdv A outer s H vs Q E hr h => ?_)
  · obtain ⟨d, l, ys, rfl, _⟩ := h
    rfl
  · obtain ⟨d, l, ys, rfl, hD, hl, nl, h0, h1, k⟩ := h
    refine ⟨_, PSs.nox (pss_one (ps_ret (pe_ix (x_list (K := K)) (pv 1) (pe_fn C_law_roll (hr.mono (by decide)) (by rfl) (pa_cons (pv 0) (pa_cons (pe_callB (c_lenQ (K := K)) (by rfl) B.n_len (by decide +kernel) (pa_cons (pv 1) pa_nil)) pa_nil))) (fun _ _ => rfl)))), ?_⟩
    walk_at "yy"
    refine y_lenL hl ?_
    walk_at "yy"
    refine ⟨d, _, rfl, hD, by omega, ?_, fun n H' n0 n1 hD' f => ?_⟩
    · have : (2 : Nat) ^ 4000 > 100000 := by decide +kernel
      omega
    obtain ⟨v, e, m⟩ := getD_at n0 n1
    exact y_ixL (f.lst nl hl) (at_nat n0 e) (k v H' m hD' f)
theorem sc_law_some : FnScope ["_law_dice_here", "_law_items", "_law_size", "_law_left", "_law_turn"] ["_law_dice_here", "_law_items", "_law_size"] (defScope s_law_some) := ⟨rfl, rfl, rfl, by decide +kernel, rfl, by decide +kernel, by decide +kernel⟩
-- 0 _law_dice_here, 1 _law_items, 2 _law_size, 3 _law_left, 4 _law_turn
theorem ok_law_some {f : Addr} {fd : FuncData} (F : FunD K "_law_some" "_law_some" (defArgs s_law_some) (defBody s_law_some) (defScope s_law_some) [] [] f fd) (B : Blt mg) (Z : Con mg) (C_law_roll : Cal P w K mg base 1 "_law_roll" ["_law_dice_here", "_law_total"] spRoll) : FnOk P w K mg base CX0 2 f fd ["_law_dice_here", "_law_items", "_law_size"] (spSome K) := by
  refine F.ok sc_law_some (fun vs H Q E h => ?_) (fun cdv A outer s H vs Q E hr h => ?_)
  · obtain ⟨d, l, ys, n, rfl, _⟩ := h
    rfl
  · obtain ⟨d, l, ys, n, rfl, hD, hl, nl, hlen, n0, n1, k⟩ := h
    refine ⟨_, PSs.nox (pss_cons (ps_set (i := 3) sc_law_some.nd rfl (Or.inr rfl) (pe_callTy (c_listQ (K := K)) (by rfl) B.n_list (by decide +kernel) (pa_cons (pv 1) pa_nil))) (pss_one (ps_ret (pe_lc (own := [("_law_turn", 4)]) (g := gName 4) (tt := tYes) rfl sc_law_some.nd (pi_range1 (by rfl) B.n_range (pa_cons (pe_callB (c_min2 rfl) (by rfl) B.n_min (by decide +kernel) (pa_cons (pv 2) (pa_cons (pe_callB (c_lenQ (K := K)) (by rfl) B.n_len (by decide +kernel) (pa_cons (pv 3) pa_nil)) pa_nil))) pa_nil)) (blkOk_by (own := [("_law_turn", 4)]) (N := ["_law_dice_here", "_law_items", "_law_size", "_law_left", "_law_turn"]) (sc := defScope s_law_some) (by decide +kernel)) (fun _ _ _ _ _ => pg_name (i := 4) sc_law_some.nd rfl (Or.inl rfl)) (fun _ _ _ _ _ => pts_nil) (fun _ _ _ _ _ => (e_bm (K := K) PySem.F.plainAttrs_list PySem.F.slot_list_pop PySem.F.type_list_pop mt_popAt (pv 3) (pa_cons (pe_fn C_law_roll (hr.mono (by decide)) (by rfl) (pa_cons (pv 0) (pa_cons (pe_callB (c_lenQ (K := K)) (by rfl) B.n_len (by decide +kernel) (pa_cons (pv 3) pa_nil)) pa_nil))) pa_nil))))))), ?_⟩
    walk_at "yy"
    refine y_listL hl (fun L nL => ?_)
    walk_at "yy"
    refine y_lenL (sql upd_same) ?_
    walk_at "yy"
    have nLd : L ≠ d := hD.ne nL
    refine ⟨_, rfl, by omega, by omega, fun D nD => lc_range (fun j H1 => ∃ acc rest, H1 D = some (.lst acc) ∧ H1 L = some (.lst rest) ∧ (∀ v ∈ acc, v ∈ ys) ∧ (∀ v ∈ rest, v ∈ ys) ∧ rest.length + j = ys.length ∧ acc.length = j ∧ DiceAt H1 d ∧ Fr d H H1) ?_ ?_ ?_⟩
    · have nDL : D ≠ L := (ne_of_none upd_same nD).symm
      refine ⟨[], ys, upd_same, by rw [upd_ne nDL.symm, upd_same], fun _ h => (nomatch h), fun _ h => h, by omega, rfl, (hD.new nL).new nD, (Fr.new nL).trans (Fr.new nD)⟩
    · rintro j H1 hj ⟨acc, rest, eD, eL, ha, hr', hn, hm, hD1, f1⟩
      walk_at "yy"
      refine ⟨rfl, ?_⟩
      walk_at "yy"
      walk_at "yt"
      walk_at "yy"
      refine ⟨ty_l eL, ?_⟩
      walk_at "yy"
      refine y_lenL (sql eL) ?_
      walk_at "yy"
      have nDL : D ≠ L := (ne_of_none upd_same nD).symm
      have nDd : D ≠ d := (hD.new nL).ne nD
      refine ⟨d, _, rfl, hD1, by omega, big_of (by omega), fun n2 H2 m0 m1 hD2 f2 => ?_⟩
      walk_at "yy"
      obtain ⟨v, ev, mv⟩ := getD_at m0 m1
      have hv : n2.toNat < rest.length := by omega
      refine ⟨L, rest, n2, n2.toNat, v, rfl, rfl, f2 _ _ eL nLd, by omega, by omega, ix_seq m0 m1, ev, acc, by rw [upd_ne nDL]; exact f2 _ _ eD nDd, sz_lt (by omega), acc ++ [v], rest.eraseIdx n2.toNat, upd_same, by rw [upd_ne nDL.symm, upd_same], ?_, ?_, ?_, ?_, ?_, ?_⟩
      · intro u hu
        rcases List.mem_append.mp hu with h | h
        · exact ha u h
        · rw [List.mem_singleton.mp h]
          exact hr' v mv
      · exact fun u hu => hr' u (List.mem_of_mem_eraseIdx hu)
      · rw [List.length_eraseIdx_of_lt hv]
        omega
      · rw [List.length_append, hm]
        rfl
      · exact (hD2.mut nLd).mut nDd
      · have nDH : H D = none := by
          rw [upd_ne nDL] at nD
          exact nD
        exact ((f1.trans f2).mut nL).mut nDH
    · rintro H1 ⟨acc, rest, eD, eL, ha, hr', hn, hm, hD1, f1⟩
      have nDL : D ≠ L := (ne_of_none upd_same nD).symm
      have nDH : H D = none := by
        rw [upd_ne nDL] at nD
        exact nD
      exact k D acc H1 ha (by omega) hD1 f1 nDH eD
theorem sc_is_word : FnScope ["value", "letter"] ["value"] (defScope s_is_word) := ⟨rfl, rfl, rfl, by decide +kernel, rfl, by decide +kernel, by decide +kernel⟩
-- 0 value, 1 letter
theorem ok_is_word {f : Addr} {fd : FuncData} (F : FunD K "is_word" "is_word" (defArgs s_is_word) (defBody s_is_word) (defScope s_is_word) [] [] f fd) (B : Blt mg) (Z : Con mg) : FnOk P w K mg base CX0 1 f fd ["value"] (spWord K) := by
  refine F.ok sc_is_word (fun vs H Q E h => ?_) (fun cdv A outer s H vs Q E hr h => ?_)
  · obtain ⟨v, rfl, _⟩ := h
    rfl
  · obtain ⟨v, rfl, hv, k⟩ := h
    refine ⟨_, PSs.nox (pss_cons (ps_if (PW.pt (pw_or (pt_not (pt_val (pe_callB (c_isi (K := K)) (by rfl) B.n_isinstance (by decide +kernel) (pa_cons (pv 0) (pa_cons (pe_bltn (v := .ty "str") (by rfl) B.n_str (by decide +kernel) rfl) pa_nil))))) (pw_or1 (pt_not (pt_chain op_le op_le pe_int (pe_callB c_lenS (by rfl) B.n_len (by decide +kernel) (pa_cons (pv 0) pa_nil)) (pe_globI (by rfl) Z.g_MAX_LETTERS)))))) (pss_one (ps_ret pe_bl)) pss_nil) (pss_one (ps_ret (pe_callB (c_all (K := K) rfl) (by rfl) B.n_all (by decide +kernel) (pa_cons (pe_lc (own := [("letter", 1)]) (g := gName 1) (tt := tYes) rfl sc_is_word.nd (pi_str (pv 0)) (blkOk_by (own := [("letter", 1)]) (N := ["value", "letter"]) (sc := defScope s_is_word) (by decide +kernel)) (fun _ _ _ _ _ => pg_name (i := 1) sc_is_word.nd rfl (Or.inl rfl)) (fun _ _ _ _ _ => pts_nil) (fun _ _ _ _ _ => (pe_chain op_le_str op_le_str pe_str (pv 1) pe_str))) pa_nil))))), ?_⟩
    walk_at "yy"
    rcases hv with ⟨z, rfl, hz, ha⟩ | ⟨hn, t, ht, hk⟩
    · refine y_isi (k := true) (.base (.str z)) (kit_ty (by decide +kernel)) ?_
      walk_at "yy"
      walk_at "yf"
      walk_at "yy"
      refine y_lenS (Nat.le_trans hz (by decide)) ?_
      walk_at "yy"
      have no : ¬ (1 ≤ z.length ∧ z.length ≤ 8) → Q (.bl false) H := fun h => by
        have e : wordV (.str z) = false := by
          show (decide (1 ≤ z.length ∧ z.length ≤ 8) && _) = false
          rw [decide_eq_false h, Bool.false_and]
        rw [← e]
        exact k H (Same.refl H)
      refine y_ite (fun h1 => ?_) (fun h1 => ?_)
      · walk_at "yy"
        refine y_ite (fun h2 => ?_) (fun h2 => ?_)
        · walk_at "yy"
          have h2 := of_decide_eq_false (Bool.not_eq_true' _ |>.mp h2)
          exact no (by omega)
        · have h1 := of_decide_eq_true h1
          have h2 := of_decide_eq_true ((Bool.not_eq_false' _).mp h2)
          walk_at "yy"
          refine ⟨z, rfl, fun D nD => lc_it walk_str (fun i H1 => H1 D = some (.lst (((z.cps.toList.take i).map isL).map V.bl)) ∧ Same H H1) ⟨upd_same, same_new nD⟩ (fun _ _ _ _ => trivial) ?_ ?_⟩
          · rintro i x H1 H2 hi ⟨eD, sm⟩ ⟨rfl, c, ec, rfl⟩
            have fin : H2 D = some (.lst (((z.cps.toList.take i).map isL).map V.bl)) → (((z.cps.toList.take i).map isL).map V.bl).length < sizeLine ∧ ((upd H2 D (.lst ((((z.cps.toList.take i).map isL).map V.bl) ++ [V.bl (isL c)]))) D = some (.lst (((z.cps.toList.take (i + 1)).map isL).map V.bl)) ∧ Same H (upd H2 D (.lst ((((z.cps.toList.take i).map isL).map V.bl) ++ [V.bl (isL c)])))) := fun _ => by
              refine ⟨?_, ?_, same_mut sm nD⟩
              · simp only [List.length_map, List.length_take]
                exact sz_lt (by have := Nat.min_le_left i z.cps.toList.length; omega)
              · rw [upd_same, chr_at ec, List.map_append, List.map_append]
                rfl
            walk_at "yy"
            refine ⟨rfl, ?_⟩
            walk_at "yy"
            walk_at "yt"
            walk_at "yy"
            refine ⟨_, _, rfl, rfl, ?_⟩
            walk_at "yy"
            refine y_ite (fun g1 => ?_) (fun g1 => ?_)
            · walk_at "yy"
              refine ⟨_, _, rfl, rfl, ?_⟩
              rw [le_z]
              rw [ge_a] at g1
              have e : decide (c ≤ 122) = isL c := by
                unfold isL
                rw [g1, Bool.true_and]
              rw [e]
              exact ⟨_, eD, fin eD⟩
            · rw [ge_a] at g1
              have e : false = isL c := by
                unfold isL
                rw [g1, Bool.false_and]
              rw [e]
              exact ⟨_, eD, fin eD⟩
          · rintro H1 ⟨eD, sm⟩
            walk_at "yy"
            refine ⟨D, _, rfl, sql eD, ?_⟩
            have e : ((z.cps.toList.take z.cps.size).map isL).all id = wordV (.str z) := by
              show _ = (decide (1 ≤ z.length ∧ z.length ≤ 8) && _)
              rw [decide_eq_true (show 1 ≤ z.length ∧ z.length ≤ 8 by omega), Bool.true_and, List.take_of_length_le (by simp), List.all_map]
              rfl
            rw [e]
            exact k H1 sm
      · walk_at "yy"
        walk_at "yt"
        walk_at "yy"
        have h1 := of_decide_eq_false h1
        exact no (by omega)
    · refine y_isi ht hk ?_
      walk_at "yy"
      walk_at "yt"
      walk_at "yt"
      walk_at "yy"
      rw [← Arg.non (K := K) (H := H) hn]
      exact k H (Same.refl H)
theorem sc_law_is_word : FnScope ["_law_value", "_law_one"] ["_law_value"] (defScope s_law_is_word) := ⟨rfl, rfl, rfl, by decide +kernel, rfl, by decide +kernel, by decide +kernel⟩
-- 0 _law_value, 1 _law_one
theorem ok_law_is_word {f : Addr} {fd : FuncData} (F : FunD K "_law_is_word" "_law_is_word" (defArgs s_law_is_word) (defBody s_law_is_word) (defScope s_law_is_word) [] [] f fd) (B : Blt mg) (Z : Con mg) : FnOk P w K mg base CX0 1 f fd ["_law_value"] (spWord K) := by
  refine F.ok sc_law_is_word (fun vs H Q E h => ?_) (fun cdv A outer s H vs Q E hr h => ?_)
  · obtain ⟨v, rfl, _⟩ := h
    rfl
  · obtain ⟨v, rfl, hv, k⟩ := h
    refine ⟨_, PSs.nox (pss_cons (ps_if (PW.pt (pw_or (pt_not (pt_val (pe_callB (c_isi (K := K)) (by rfl) B.n_isinstance (by decide +kernel) (pa_cons (pv 0) (pa_cons (pe_bltn (v := .ty "str") (by rfl) B.n_str (by decide +kernel) rfl) pa_nil))))) (pw_or1 (pt_not (pt_chain op_lt op_lt pe_int (pe_callB c_lenS (by rfl) B.n_len (by decide +kernel) (pa_cons (pv 0) pa_nil)) pe_int))))) (pss_one (ps_ret pe_bl)) pss_nil) (pss_one (ps_ret (pe_cmpR (o_eqD (K := K) hr.units) (pe_lc (own := [("_law_one", 1)]) (g := gName 1) (tt := _) rfl sc_law_is_word.nd (pi_str (pv 0)) (blkOk_by (own := [("_law_one", 1)]) (N := ["_law_value", "_law_one"]) (sc := defScope s_law_is_word) (by decide +kernel)) (fun _ _ _ _ _ => pg_name (i := 1) sc_law_is_word.nd rfl (Or.inl rfl)) (fun _ _ _ _ _ => (pts_one (pt_cmpR op_notIn_sign (pv 1) pe_str (by rfl)))) (fun _ _ _ _ _ => (pv 1))) (pe_lst pa_nil) (nomark _))))), ?_⟩
    walk_at "yy"
    rcases hv with ⟨z, rfl, hz, ha⟩ | ⟨hn, t, ht, hk⟩
    · refine y_isi (k := true) (.base (.str z)) (kit_ty (by decide +kernel)) ?_
      walk_at "yy"
      walk_at "yf"
      walk_at "yy"
      refine y_lenS (Nat.le_trans hz (by decide)) ?_
      walk_at "yy"
      have no : ¬ (1 ≤ z.length ∧ z.length ≤ 8) → Q (.bl false) H := fun h => by
        have e : wordV (.str z) = false := by
          show (decide (1 ≤ z.length ∧ z.length ≤ 8) && _) = false
          rw [decide_eq_false h, Bool.false_and]
        rw [← e]
        exact k H (Same.refl H)
      refine y_ite (fun h1 => ?_) (fun h1 => ?_)
      · walk_at "yy"
        refine y_ite (fun h2 => ?_) (fun h2 => ?_)
        · walk_at "yy"
          have h2 := of_decide_eq_false (Bool.not_eq_true' _ |>.mp h2)
          exact no (by omega)
        · have h1 := of_decide_eq_true h1
          have h2 := of_decide_eq_true ((Bool.not_eq_false' _).mp h2)
          walk_at "yy"
          refine ⟨z, rfl, fun D nD => lc_it walk_str (fun i H1 => H1 D = some (.lst (((z.cps.toList.take i).filter fun c => !isL c).map fun c => V.str ⟨#[c]⟩)) ∧ Same H H1) ⟨upd_same, same_new nD⟩ (fun _ _ _ _ => trivial) ?_ ?_⟩
          · rintro i x H1 H2 hi ⟨eD, sm⟩ ⟨rfl, c, ec, rfl⟩
            walk_at "yy"
            refine ⟨rfl, ?_⟩
            walk_at "yy"
            refine ⟨_, _, rfl, rfl, ?_⟩
            walk_at "yy"
            rw [in_abc]
            refine y_ite (fun g1 => ?_) (fun g1 => ?_)
            · walk_at "yy"
              refine ⟨_, eD, ?_, ?_, same_mut sm nD⟩
              · rw [List.length_map]
                have q1 := List.length_filter_le (fun c => !isL c) (z.cps.toList.take i)
                have q2 := List.length_take_le i z.cps.toList
                exact sz_lt (by omega)
              · rw [upd_same, chr_at ec, List.filter_append, List.map_append]
                simp [List.filter_cons, g1]
            · refine ⟨?_, sm⟩
              rw [eD, chr_at ec, List.filter_append]
              simp [List.filter_cons, g1]
          · rintro H1 ⟨eD, sm⟩
            walk_at "yy"
            refine ⟨sz_le (by simp), fun p np => ?_⟩
            have npD : D ≠ p := ne_of_none eD np
            have hasc : ∀ c ∈ ((z.cps.toList.take z.cps.size).filter fun c => !isL c), c < 128 := fun c hc => ha c (List.mem_of_mem_take (List.mem_filter.mp hc).1)
            refine ⟨_, .list [], .lst (sql (by rw [upd_ne npD]; exact eD)) (dpa_chars _), .lst (sql upd_same) .nil, shaped_chars hasc, by decide +kernel, ?_⟩
            rw [eqv_nil, all_not, List.take_of_length_le (by simp)]
            have e : z.cps.toList.all isL = wordV (.str z) := by
              show _ = (decide (1 ≤ z.length ∧ z.length ≤ 8) && _)
              rw [decide_eq_true (show 1 ≤ z.length ∧ z.length ≤ 8 by omega), Bool.true_and]
            rw [e]
            exact k _ (same_mut sm (by
              cases q : H p with
              | none => rfl
              | some o =>
                rw [sm p o q] at np
                cases np))
      · walk_at "yy"
        walk_at "yt"
        walk_at "yy"
        have h1 := of_decide_eq_false h1
        exact no (by omega)
    · refine y_isi ht hk ?_
      walk_at "yy"
      walk_at "yt"
      walk_at "yt"
      walk_at "yy"
      rw [← Arg.non (K := K) (H := H) hn]
      exact k H (Same.refl H)
theorem sc_law_drawn_value : FnScope ["_law_dice_here", "_law_signs", "_law_some_here", "_law_odd", "_law_draw", "_law_turn"] ["_law_dice_here"] (defScope s_law_drawn_value) := ⟨rfl, rfl, rfl, by decide +kernel, rfl, by decide +kernel, by decide +kernel⟩
-- 0 _law_dice_here, 1 _law_signs, 2 _law_some_here, 3 _law_odd, 4 _law_draw, 5 _law_turn
theorem ok_law_drawn_value {f : Addr} {fd : FuncData} (F : FunD K "_law_drawn_value" "_law_drawn_value" (defArgs s_law_drawn_value) (defBody s_law_drawn_value) (defScope s_law_drawn_value) [] [] f fd) (B : Blt mg) (Z : Con mg) (C_law_roll : Cal P w K mg base 1 "_law_roll" ["_law_dice_here", "_law_total"] spRoll) (C_law_pick : Cal P w K mg base 2 "_law_pick" ["_law_dice_here", "_law_items"] (spPick K)) (C_law_some : Cal P w K mg base 2 "_law_some" ["_law_dice_here", "_law_items", "_law_size"] (spSome K)) : FnOk P w K mg base CX0 3 f fd ["_law_dice_here"] (spValue K) := by
  refine F.ok sc_law_drawn_value (fun vs H Q E h => ?_) (fun cdv A outer s H vs Q E hr h => ?_)
  · obtain ⟨d, rfl, _⟩ := h
    rfl
  · obtain ⟨d, rfl, hD, k⟩ := h
    refine ⟨_, PSs.nox (pss_cons (ps_set (i := 1) sc_law_drawn_value.nd rfl (Or.inr rfl) (pe_op op_add_str pe_str (pe_fn C_law_pick (hr.mono (by decide)) (by rfl) (pa_cons (pv 0) (pa_cons (pe_lst (pa_cons pe_str (pa_cons pe_str (pa_cons pe_str (pa_cons pe_str (pa_cons pe_str (pa_cons pe_str (pa_cons pe_str (pa_cons pe_str (pa_cons pe_str (pa_cons pe_str (pa_cons pe_str pa_nil)))))))))))) pa_nil))))) (pss_cons (ps_setLc (i := 2) (own := [("_law_draw", 4)]) (g := gName 4) (tt := tYes) rfl sc_law_drawn_value.nd rfl rfl (sw_true rfl rfl rfl (by decide +kernel)) (pi_range1 (by rfl) B.n_range (pa_cons pe_int pa_nil)) (blkOk_by (own := [("_law_draw", 4)]) (N := ["_law_dice_here", "_law_signs", "_law_some_here", "_law_odd", "_law_draw", "_law_turn"]) (sc := defScope s_law_drawn_value) (by decide +kernel)) (fun _ _ _ _ _ => pg_name (i := 4) sc_law_drawn_value.nd rfl (Or.inl rfl)) (fun _ _ _ _ _ => pts_nil) (fun _ _ _ _ _ => (e_join (K := K) pe_str (pe_lc (own := [("_law_turn", 5)]) (g := gName 5) (tt := tYes) rfl sc_law_drawn_value.nd (pi_range1 (by rfl) B.n_range (pa_cons (pe_fn C_law_roll (hr.mono (by decide)) (by rfl) (pa_cons (pv 0) (pa_cons pe_int pa_nil))) pa_nil)) (blkOk_by (own := [("_law_turn", 5)]) (N := ["_law_dice_here", "_law_signs", "_law_some_here", "_law_odd", "_law_draw", "_law_turn"]) (sc := (⟨.function, [(".0", .local), ("_law_draw", .local), ("range", .globalImplicit), ("_law_roll", .globalImplicit), ("_law_dice_here", .cell), ("_law_signs", .cell)], false, false, []⟩ : Scope)) (by decide +kernel)) (fun _ _ _ _ _ => pg_name (i := 5) sc_law_drawn_value.nd rfl (Or.inl rfl)) (fun _ _ _ _ _ => pts_nil) (fun _ _ _ _ _ => (pe_fn C_law_pick (hr.mono (by decide)) (by rfl) (pa_cons (pv 0) (pa_cons (pe_callTy (c_listS rfl) (by rfl) B.n_list (by decide +kernel) (pa_cons (pv 1) pa_nil)) pa_nil)))))))) (pss_cons (ps_set (i := 3) sc_law_drawn_value.nd rfl (Or.inl rfl) (pe_lst (pa_cons pe_non (pa_cons pe_int (pa_cons pe_bl (pa_cons (pe_tup pa_nil) (pa_cons (pe_tup (pa_cons pe_str pa_nil)) (pa_cons (pe_lst (pa_cons pe_str pa_nil)) (pa_cons pe_dnewK (pa_cons (pe_op op_powW pe_int pe_int) (pa_cons pe_str (pa_cons pe_str (pa_cons pe_str (pa_cons pe_str (pa_cons pe_str (pa_cons pe_str (pa_cons pe_str pa_nil))))))))))))))))) (pss_one (ps_ret (pe_fn C_law_pick (hr.mono (by decide)) (by rfl) (pa_cons (pv 0) (pa_cons (pe_op op_cat (pv 2) (pe_fn C_law_some (hr.mono (by decide)) (by rfl) (pa_cons (pv 0) (pa_cons (pv 3) (pa_cons pe_int pa_nil))))) pa_nil)))))))), ?_⟩
    walk_at "yy"
    refine ⟨by show 11 ≤ sizeLine; decide, fun p1 n1 => ?_⟩
    walk_at "yy"
    refine ⟨d, p1, _, rfl, hD.new n1, sql upd_same, hD.ne n1, by show 0 < 11; decide, by show 11 ≤ 100000; decide, fun v H1 mv hD1 f1 => ?_⟩
    have hs : ∃ s : Str, v = .str s ∧ s.cps.size ≤ 1 ∧ ∀ c ∈ s.cps.toList, c < 128 := by
      simp only [List.mem_cons, List.not_mem_nil, or_false] at mv
      rcases mv with rfl | rfl | rfl | rfl | rfl | rfl | rfl | rfl | rfl | rfl | rfl <;> exact ⟨_, rfl, by decide +kernel, by decide +kernel⟩
    obtain ⟨s, rfl, hs1⟩ := hs
    have hb : ("aabcdehklnorstyzz" : Str).cps.size ≤ 17 ∧ ∀ c ∈ ("aabcdehklnorstyzz" : Str).cps.toList, c < 128 := by decide +kernel
    have hb1 : 17 ≤ ("aabcdehklnorstyzz" : Str).cps.size := by decide +kernel
    obtain ⟨g1, g2, g3⟩ := app_ok hb hs1
    refine ⟨_, s, rfl, rfl, sz_le (by have h1 := hb.1; have h2 := hs1.1; show _ + _ ≤ _; exact Nat.le_trans (Nat.add_le_add h1 h2) (by decide)), ?_⟩
    generalize ("aabcdehklnorstyzz" : Str) ++ s = sg at g1 g2 g3 ⊢
    have fH1 : Fr d H H1 := (Fr.new n1).trans f1
    walk_at "yy"
    refine ⟨5, rfl, by decide, by decide, fun D nD => lc_range (fun i H2 => ∃ acc : List Str, H2 D = some (.lst (acc.map V.str)) ∧ acc.length = i ∧ (∀ z ∈ acc, z.cps.size ≤ 1000 ∧ ∀ c ∈ z.cps.toList, c < 128) ∧ DiceAt H2 d ∧ Fr d H1 H2) ?_ ?_ ?_⟩
    · exact ⟨[], upd_same, rfl, fun _ h => (nomatch h), hD1.new nD, Fr.new nD⟩
    · rintro i H2 hi ⟨acc, eD, ea, hacc, hD2, f2⟩
      have nDd : D ≠ d := hD1.ne nD
      walk_at "yy"
      refine ⟨rfl, ?_⟩
      walk_at "yy"
      walk_at "yt"
      walk_at "yy"
      refine ⟨⟨_, rfl⟩, ?_⟩
      walk_at "yy"
      refine ⟨d, 11, rfl, hD2, by decide, big_of (by decide), fun n H3 m0 m1 hD3 f3 => ?_⟩
      walk_at "yy"
      refine ⟨n, rfl, by omega, by omega, fun E nE => lc_range (fun j H4 => ∃ as : List Str, H4 E = some (.lst (as.map V.str)) ∧ as.length = j ∧ (∀ z ∈ as, z.cps.size ≤ 1 ∧ ∀ c ∈ z.cps.toList, c < 128) ∧ DiceAt H4 d ∧ Fr d H3 H4) ?_ ?_ ?_⟩
      · exact ⟨[], upd_same, rfl, fun _ h => (nomatch h), hD3.new nE, Fr.new nE⟩
      · rintro j H4 hj ⟨as, eE, e2, has, hD4, f4⟩
        have nEd : E ≠ d := hD3.ne nE
        walk_at "yy"
        refine ⟨rfl, ?_⟩
        walk_at "yy"
        walk_at "yt"
        walk_at "yy"
        refine y_listS (by omega) (fun p np => ?_)
        walk_at "yy"
        refine ⟨d, p, chrs sg, rfl, hD4.new np, sql upd_same, hD4.ne np, by unfold chrs; simp; omega, by unfold chrs; simp; omega, fun v H5 mv hD5 f5 => ?_⟩
        obtain ⟨c, hc, rfl⟩ := List.mem_map.mp mv
        have nEp : E ≠ p := ne_of_none eE np
        have eE5 : H5 E = some (.lst (as.map V.str)) := f5 _ _ (by rw [upd_ne nEp]; exact eE) nEd
        refine ⟨_, eE5, sz_lt (by rw [List.length_map]; omega), as ++ [⟨#[c]⟩], ?_, ?_, ?_, hD5.mut nEd, (f4.trans ((Fr.new np).trans f5)).mut nE⟩
        · rw [upd_same, List.map_append]
          rfl
        · rw [List.length_append, e2]
          rfl
        · intro z hz
          rcases List.mem_append.mp hz with h | h
          · exact has z h
          · rw [List.mem_singleton.mp h]
            exact ⟨Nat.le_refl _, fun x hx => by rw [List.mem_singleton.mp hx]; exact g3 c hc⟩
      · rintro H4 ⟨as, eE, e2, has, hD4, f4⟩
        have eD4 : H4 D = some (.lst (acc.map V.str)) := f4 _ _ (f3 _ _ eD nDd) nDd
        have hz0 : ("" : Str).length = 0 := by decide +kernel
        obtain ⟨j1, j2⟩ := join_ok has
        refine ⟨_, E, as, rfl, rfl, .inl (sql eE), ?_, ?_⟩
        · rw [hz0]
          have := len_sum (l := as) fun z hz => (has z hz).1
          omega
        · refine ⟨_, eD4, sz_lt (by rw [List.length_map]; omega), acc ++ [Txt.join "" as], ?_, ?_, ?_, hD4.mut nDd, ((f2.trans f3).trans f4).mut nD⟩
          · rw [upd_same, List.map_append]
            rfl
          · rw [List.length_append, ea]
            rfl
          · intro z hz
            rcases List.mem_append.mp hz with h | h
            · exact hacc z h
            · rw [List.mem_singleton.mp h]
              exact ⟨by omega, j2⟩
    · rintro H2 ⟨acc, eD, ea, hacc, hD2, f2⟩
      have nDd : D ≠ d := hD1.ne nD
      walk_at "yy"
      refine ⟨Nat.zero_le _, fun t0 m0 => ?_⟩
      walk_at "yy"
      refine ⟨by show 1 ≤ sizeLine; decide, fun t1 m1 => ?_⟩
      walk_at "yy"
      refine ⟨by show 1 ≤ sizeLine; decide, fun l1 m2 => ?_⟩
      walk_at "yy"
      refine fun dd m3 => ?_
      walk_at "yy"
      walk_at "yi"
      walk_at "yy"
      refine ⟨by show 15 ≤ sizeLine; decide, fun lo m4 => ?_⟩
      have hDa := hD2.new (o := .tup []) m0
      have hDb := hDa.new (o := .tup [.str "a"]) m1
      have hDc := hDb.new (o := .lst [.str "a"]) m2
      have hDd := hDc.new (o := .dK []) m3
      have fr0 : Fr d H2 (upd (upd (upd (upd H2 t0 (.tup [])) t1 (.tup [.str "a"])) l1 (.lst [.str "a"])) dd (.dK [])) := (((Fr.new m0).trans (Fr.new m1)).trans (Fr.new m2)).trans (Fr.new m3)
      have e0 : (upd (upd (upd (upd H2 t0 (.tup [])) t1 (.tup [.str "a"])) l1 (.lst [.str "a"])) dd (.dK [])) t0 = some (.tup []) := (((Fr.new m1).trans (Fr.new m2)).trans (Fr.new m3)) _ _ upd_same (hD2.ne m0)
      have e1 : (upd (upd (upd (upd H2 t0 (.tup [])) t1 (.tup [.str "a"])) l1 (.lst [.str "a"])) dd (.dK [])) t1 = some (.tup [.str "a"]) := ((Fr.new m2).trans (Fr.new m3)) _ _ upd_same (hDa.ne m1)
      have e2 : (upd (upd (upd (upd H2 t0 (.tup [])) t1 (.tup [.str "a"])) l1 (.lst [.str "a"])) dd (.dK [])) l1 = some (.lst [.str "a"]) := (Fr.new m3) _ _ upd_same (hDb.ne m2)
      have e3 : (upd (upd (upd (upd H2 t0 (.tup [])) t1 (.tup [.str "a"])) l1 (.lst [.str "a"])) dd (.dK [])) dd = some (.dK []) := upd_same
      generalize upd (upd (upd (upd H2 t0 (.tup [])) t1 (.tup [.str "a"])) l1 (.lst [.str "a"])) dd (.dK []) = H3 at *
      walk_at "yy"
      refine ⟨d, lo, _, 3, rfl, hDd.new m4, sql upd_same, hDd.ne m4, by show 15 ≤ 1000; decide, by decide, by decide, fun p us H5 hus hlen hD5 f5 np5 ep => ?_⟩
      have f35 : Fr d H3 H5 := (Fr.new m4).trans f5
      refine ⟨D, p, acc.map V.str, us, rfl, rfl, f35 _ _ (fr0 _ _ eD nDd) nDd, ep, sz_le ?_, fun q nq => ?_⟩
      · rw [List.length_map]
        have : us.length ≤ 15 := hlen
        have : acc.length = 5 := ea
        omega
      · walk_at "yy"
        refine ⟨d, q, _, rfl, hD5.new nq, sql upd_same, hD5.ne nq, ?_, ?_, fun v H6 mv hD6 f6 => ?_⟩
        · rw [List.length_append, List.length_map]
          have : acc.length = 5 := ea
          omega
        · rw [List.length_append, List.length_map]
          have : us.length ≤ 15 := hlen
          have : acc.length = 5 := ea
          omega
        · have f36 : Fr d H3 H6 := f35.trans ((Fr.new nq).trans f6)
          refine k v H6 ?_ hD6 (fH1.trans ((f2.trans fr0).trans f36))
          rcases List.mem_append.mp mv with h | h
          · obtain ⟨z, hz, rfl⟩ := List.mem_map.mp h
            exact .inl ⟨z, rfl, hacc z hz⟩
          · have h := hus v h
            refine Val.fr f36 ?_
            simp only [List.mem_cons, List.not_mem_nil, or_false] at h
            have st : ∀ z : Str, (decide (z.cps.size ≤ 1000) && z.cps.toList.all fun c => decide (c < 128)) = true → Val d H3 (.str z) := fun z hz => by
              simp only [Bool.and_eq_true, decide_eq_true_eq, List.all_eq_true] at hz
              exact .inl ⟨z, rfl, hz⟩
            rcases h with rfl | rfl | rfl | rfl | rfl | rfl | rfl | rfl | rfl | rfl | rfl | rfl | rfl | rfl | rfl
            · exact .inr (.inl rfl)
            · exact .inr (.inr (.inr (.inl ⟨_, rfl⟩)))
            · exact .inr (.inr (.inl ⟨_, rfl⟩))
            · exact .inr (.inr (.inr (.inr ⟨_, rfl, hD2.ne m0, .inl ⟨_, e0⟩⟩)))
            · exact .inr (.inr (.inr (.inr ⟨_, rfl, hDa.ne m1, .inl ⟨_, e1⟩⟩)))
            · exact .inr (.inr (.inr (.inr ⟨_, rfl, hDb.ne m2, .inr (.inl ⟨_, e2⟩)⟩)))
            · exact .inr (.inr (.inr (.inr ⟨_, rfl, hDc.ne m3, .inr (.inr ⟨_, e3⟩)⟩)))
            · exact .inr (.inr (.inr (.inl ⟨_, rfl⟩)))
            all_goals exact st _ (by decide +kernel)
theorem sc_law : FnScope ["_law_script", "_law_spot", "_law_dice_here", "_law_turn", "_law_value", "_law_told", "_law_one"] ["_law_script"] (defScope s_law) := ⟨rfl, rfl, rfl, by decide +kernel, rfl, by decide +kernel, by decide +kernel⟩
-- 0 _law_script, 1 _law_spot, 2 _law_dice_here, 3 _law_turn, 4 _law_value, 5 _law_told, 6 _law_one
theorem ok_law {f : Addr} {fd : FuncData} (F : FunD K "law" "law" (defArgs s_law) (defBody s_law) (defScope s_law) [] [] f fd) (B : Blt mg) (Z : Con mg) (C_law_dice : Cal P w K mg base 1 "_law_dice" ["_law_script", "_law_spot"] (spDice K)) (C_law_drawn_value : Cal P w K mg base 3 "_law_drawn_value" ["_law_dice_here"] (spValue K)) (C_is_word : Cal P w K mg base 1 "is_word" ["value"] (spWord K)) (C_law_is_word : Cal P w K mg base 1 "_law_is_word" ["_law_value"] (spWord K)) : FnOk P w K mg base CX0 4 f fd ["_law_script"] (spLaw K) := by
  refine F.ok sc_law (fun vs H Q E h => ?_) (fun cdv A outer s H vs Q E hr h => ?_)
  · obtain ⟨a, ns, rfl, _⟩ := h
    rfl
  · obtain ⟨a, ns, rfl, hS, hlen, k⟩ := h
    refine ⟨_, PSs.nox (pss_cons (ps_for PassesOwn.never rfl (pi_range1 (by rfl) B.n_range (pa_cons (pe_callB (c_max2 rfl) (by rfl) B.n_max (by decide +kernel) (pa_cons pe_int (pa_cons (pe_callB (c_min2 rfl) (by rfl) B.n_min (by decide +kernel) (pa_cons pe_int (pa_cons (pe_callB (c_lenQ (K := K)) (by rfl) B.n_len (by decide +kernel) (pa_cons (pv 0) pa_nil)) pa_nil))) pa_nil))) pa_nil)) (pg_name (i := 1) sc_law.nd rfl (Or.inl rfl)) (pss_cons (ps_set (i := 2) sc_law.nd rfl (Or.inl rfl) (pe_fn C_law_dice (hr.mono (by decide)) (by rfl) (pa_cons (pv 0) (pa_cons (pv 1) pa_nil)))) (pss_one (ps_for PassesOwn.never rfl (pi_range1 (by rfl) B.n_range (pa_cons pe_int pa_nil)) (pg_name (i := 3) sc_law.nd rfl (Or.inl rfl)) (pss_cons (ps_set (i := 4) sc_law.nd rfl (Or.inl rfl) (pe_fn C_law_drawn_value (hr.mono (by decide)) (by rfl) (pa_cons (pv 2) pa_nil))) (pss_one (ps_if (pt_cmpR op_ne (pe_callB c_reprB (by rfl) B.n_repr (by decide +kernel) (pa_cons (pe_fn C_is_word (hr.mono (by decide)) (by rfl) (pa_cons (pv 4) pa_nil)) pa_nil)) (pe_callB c_reprB (by rfl) B.n_repr (by decide +kernel) (pa_cons (pe_fn C_law_is_word (hr.mono (by decide)) (by rfl) (pa_cons (pv 4) pa_nil)) pa_nil)) (nomark _)) (pss_one (ps_ret pe_bl)) pss_nil))))))) (pss_cons (ps_setLc (i := 5) (own := [("_law_one", 6)]) (g := gName 6) (tt := tYes) rfl sc_law.nd rfl rfl (sw_true rfl rfl rfl (by decide +kernel)) (w_list (K := K) (pe_lst (pa_cons pe_str (pa_cons pe_str (pa_cons pe_str (pa_cons pe_str (pa_cons pe_str (pa_cons pe_str (pa_cons pe_str pa_nil))))))))) (blkOk_by (own := [("_law_one", 6)]) (N := ["_law_script", "_law_spot", "_law_dice_here", "_law_turn", "_law_value", "_law_told", "_law_one"]) (sc := defScope s_law) (by decide +kernel)) (fun _ _ _ _ _ => pg_name (i := 6) sc_law.nd rfl (Or.inl rfl)) (fun _ _ _ _ _ => pts_nil) (fun _ _ _ _ _ => (pe_fn C_is_word (hr.mono (by decide)) (by rfl) (pa_cons (pv 6) pa_nil)))) (pss_one (ps_ret (pe_and (pe_cmpR (o_eqD (K := K) hr.units) (pv 5) (pe_lst (pa_cons pe_bl (pa_cons pe_bl (pa_cons pe_bl (pa_cons pe_bl (pa_cons pe_bl (pa_cons pe_bl (pa_cons pe_bl pa_nil)))))))) (nomark _)) (pe_one (pe_cmpR op_eq (pe_globI (by rfl) Z.g_MAX_LETTERS) pe_int (nomark _)))))))), ?_⟩
    walk_at "yy"
    refine y_lenL hS ?_
    walk_at "yy"
    refine ⟨_, rfl, by omega, by omega, y_forR (b := fun _ _ => False) (c := fun _ _ => False) (fun i σ H1 => ∃ u1 u2 u3 u4, σ = [some (.ref a), u1, u2, u3, u4, none, none] ∧ Same H H1) ⟨_, _, _, _, rfl, Same.refl H⟩ ?_ ?_⟩
    · rintro i σ H1 hi ⟨u1, u2, u3, u4, rfl, sm⟩
      walk_at "yy"
      refine ⟨a, 0 + i, ns, rfl, sm.seq hS, by omega, by omega, fun d H2 nd hD sm2 => ?_⟩
      have nd0 : H d = none := sm.free nd
      walk_at "yy"
      refine ⟨30, rfl, by decide, by decide, y_forR (b := fun _ _ => False) (c := fun _ _ => False) (fun j σ H3 => ∃ u3 u4, σ = [some (.ref a), some (.int (0 + i)), some (.ref d), u3, u4, none, none] ∧ Same H H3 ∧ DiceAt H3 d) ⟨_, _, rfl, sm.trans sm2, hD⟩ ?_ ?_⟩
      · rintro j σ H3 hj ⟨u3, u4, rfl, sm3, hD3⟩
        walk_at "yy"
        refine ⟨d, rfl, hD3, fun v H4 hv hD4 f4 => ?_⟩
        walk_at "yy"
        refine ⟨v, rfl, hv.arg, fun H5 s5 => ?_⟩
        walk_at "yy"
        refine ⟨v, rfl, (hv.fr (Fr.of_same s5)).arg, fun H6 s6 => ?_⟩
        walk_at "yy"
        with_reducible refine y_f ?_ ?_
        · simp
        walk_at "yy"
        exact ⟨_, _, rfl, ((same_fr sm3 f4 nd0).trans s5).trans s6, (hD4.same s5).same s6⟩
      · rintro σ H3 ⟨u3, u4, rfl, sm3, hD3⟩
        exact ⟨_, _, _, _, rfl, sm3⟩
    · rintro σ H1 ⟨u1, u2, u3, u4, rfl, sm⟩
      walk_at "yy"
      refine ⟨by show 7 ≤ sizeLine; decide, fun p np => ?_⟩
      refine ⟨p, rfl, ⟨_, sql upd_same⟩, fun D nD => lc_list (xs := told) (fun i H2 => H2 D = some (.lst ((told.take i).map fun v => V.bl (wordV v))) ∧ H2 p = some (.lst told)) ?_ (fun _ _ _ h => sql h.2) ?_ ?_⟩
      · exact ⟨upd_same, by rw [upd_ne (ne_of_none upd_same nD), upd_same]; rfl⟩
      · rintro i x H2 hx ⟨eD, ep⟩
        have hm : x ∈ told := List.mem_of_getElem? hx
        have hi : i < 7 := (List.getElem?_eq_some_iff.mp hx).1
        walk_at "yy"
        refine ⟨rfl, ?_⟩
        walk_at "yy"
        walk_at "yt"
        walk_at "yy"
        refine ⟨x, rfl, .inl (told_ok x hm), fun H3 s3 => ?_⟩
        refine ⟨_, s3 _ _ eD, sz_lt (by rw [List.length_map, List.length_take]; omega), ?_, ?_⟩
        · rw [upd_same, List.take_add_one, hx, List.map_append]
          rfl
        · have : p ≠ D := fun e => by
            rw [e, upd_same] at nD
            cases nD
          rw [upd_ne this]
          exact s3 _ _ ep
      · rintro H2 ⟨eD, ep⟩
        have eD : H2 D = some (.lst [.bl true, .bl false, .bl true, .bl false, .bl false, .bl false, .bl false]) := by
          rw [eD, ← told_is]
          rfl
        walk_at "yy"
        refine ⟨by show 7 ≤ sizeLine; decide, fun q nq => ?_⟩
        have nDq : D ≠ q := ne_of_none eD nq
        have dp : ∀ (H : Hp) (x : Addr), H x = some (.lst [.bl true, .bl false, .bl true, .bl false, .bl false, .bl false, .bl false]) → Dp K H (.ref x) (.list [.bool true, .bool false, .bool true, .bool false, .bool false, .bool false, .bool false]) := fun H x h =>
          .lst (sql h) (.cons (.bl _) (.cons (.bl _) (.cons (.bl _) (.cons (.bl _) (.cons (.bl _) (.cons (.bl _) (.cons (.bl _) .nil)))))))
        refine ⟨_, _, dp _ D (by rw [upd_ne nDq]; exact eD), dp _ q upd_same, by decide +kernel, by decide +kernel, ?_⟩
        walk_at "yy"
        with_reducible refine y_t ?_ ?_
        · decide +kernel
        walk_at "yy"
        exact k _
end
def d_law_dice : He.DefD := ⟨("_law_dice", none), "_law_dice", "_law_dice", defArgs s_law_dice, defBody s_law_dice, defScope s_law_dice, [], []⟩
def d_law_roll : He.DefD := ⟨("_law_roll", none), "_law_roll", "_law_roll", defArgs s_law_roll, defBody s_law_roll, defScope s_law_roll, [], []⟩
def d_law_pick : He.DefD := ⟨("_law_pick", none), "_law_pick", "_law_pick", defArgs s_law_pick, defBody s_law_pick, defScope s_law_pick, [], []⟩
def d_law_some : He.DefD := ⟨("_law_some", none), "_law_some", "_law_some", defArgs s_law_some, defBody s_law_some, defScope s_law_some, [], []⟩
def d_is_word : He.DefD := ⟨("is_word", none), "is_word", "is_word", defArgs s_is_word, defBody s_is_word, defScope s_is_word, [], []⟩
def d_law_is_word : He.DefD := ⟨("_law_is_word", none), "_law_is_word", "_law_is_word", defArgs s_law_is_word, defBody s_law_is_word, defScope s_law_is_word, [], []⟩
def d_law_drawn_value : He.DefD := ⟨("_law_drawn_value", none), "_law_drawn_value", "_law_drawn_value", defArgs s_law_drawn_value, defBody s_law_drawn_value, defScope s_law_drawn_value, [], []⟩
def d_law : He.DefD := ⟨("law", none), "law", "law", defArgs s_law, defBody s_law, defScope s_law, [], []⟩
def fn : List He.DefD := [d_law_dice, d_law_roll, d_law_pick, d_law_some, d_is_word, d_law_is_word, d_law_drawn_value, d_law]
def fa : List He.Fa := [.glo "_law_dice", .glo "_law_roll", .glo "_law_pick", .glo "_law_some", .glo "is_word", .glo "_law_is_word", .glo "_law_drawn_value", .glo "law", .free "abs", .free "all", .free "int", .free "isinstance", .free "len", .free "list", .free "max", .free "min", .free "range", .free "repr", .free "str", .int "MAX_LETTERS" 8]
abbrev R : PySem.W.OpenRow := PySem.W.OpenLaw.row PySem.Challenge.rw_wonbyturns_k01_words_judged
abbrev hk : PySem.W.Hook := He.hookD 4 fa fn
def ob (s : PySem.W.SharedT) : He.AlD := He.obsDG 4 fa fn (HandSHeadRun.getT s)
theorem ob_eq (s : PySem.W.SharedT) : ob s = hk.obs s.abs := He.obsDG_eq (HandSHeadRun.getT_eq s)
theorem run (w : World) : HandSHeadRun.RunEq R (PySem.W.view R.prog [10]) hk ob 600 ["is_word", "_law_dice", "_law_roll", "_law_pick", "_law_some", "_law_is_word", "_law_drawn_value", "MAX_LETTERS"] w := by
  intro os
  kernel_rfl
theorem facts {P : Program} {w : World} {K : PySem.W.Frag} {h : Heap} {mg : Str → Option Value} {f : Addr} (X : K.In h) (G : h.Ns mainGlobals mg) (hfa : mg ("law" : Str) = some (.ref f)) (c : He.SaysD fa fn K) :
    ∃ fd : FuncData, (∀ (s : Shared) (v : Value), BindsTo s fd ⟨[v], []⟩ [("_law_script", v)]) ∧ ∀ base : Heap, K.In base → base.Ns mainGlobals mg → FnOk P w K mg base CX0 4 f fd ["_law_script"] (spLaw K) := by
  obtain ⟨fd_0, F_0⟩ := c.def_ 0 (d := d_law_dice) rfl
  obtain ⟨fd_1, F_1⟩ := c.def_ 1 (d := d_law_roll) rfl
  obtain ⟨fd_2, F_2⟩ := c.def_ 2 (d := d_law_pick) rfl
  obtain ⟨fd_3, F_3⟩ := c.def_ 3 (d := d_law_some) rfl
  obtain ⟨fd_4, F_4⟩ := c.def_ 4 (d := d_is_word) rfl
  obtain ⟨fd_5, F_5⟩ := c.def_ 5 (d := d_law_is_word) rfl
  obtain ⟨fd_6, F_6⟩ := c.def_ 6 (d := d_law_drawn_value) rfl
  obtain ⟨fd_7, F_7⟩ := c.def_ 7 (d := d_law) rfl
  have B : Blt mg := ⟨He.free_ok X G (c.fact 8 (f := .free "abs") rfl), He.free_ok X G (c.fact 9 (f := .free "all") rfl), He.free_ok X G (c.fact 10 (f := .free "int") rfl), He.free_ok X G (c.fact 11 (f := .free "isinstance") rfl), He.free_ok X G (c.fact 12 (f := .free "len") rfl), He.free_ok X G (c.fact 13 (f := .free "list") rfl), He.free_ok X G (c.fact 14 (f := .free "max") rfl), He.free_ok X G (c.fact 15 (f := .free "min") rfl), He.free_ok X G (c.fact 16 (f := .free "range") rfl), He.free_ok X G (c.fact 17 (f := .free "repr") rfl), He.free_ok X G (c.fact 18 (f := .free "str") rfl)⟩
  have Z : Con mg := ⟨He.int_ok X G (c.fact 19 (f := .int "MAX_LETTERS" 8) rfl)⟩
  have e := hfa.symm.trans (He.glo_ok X G (c.fact 7 (f := .glo "law") rfl))
  cases e
  have b := FunD.bindsA (ps := ["_law_script"]) F_7 fun _ _ _ _ _ _ us hl => match us, hl with | [_], _ => rfl
  refine ⟨fd_7, fun s v => b s [v] rfl, fun base _ _ => ?_⟩
  have C_law_dice : Cal P w K mg base 1 "_law_dice" ["_law_script", "_law_spot"] (spDice K) := ⟨_, _, ok_law_dice F_0 B Z, He.glo_ok X G (c.fact 0 (f := .glo "_law_dice") rfl), F_0.kp, F_0.bindsN fun _ _ _ _ _ _ us hl => match us, hl with | [_, _], _ => rfl⟩
  have C_law_roll : Cal P w K mg base 1 "_law_roll" ["_law_dice_here", "_law_total"] spRoll := ⟨_, _, ok_law_roll F_1 B Z, He.glo_ok X G (c.fact 1 (f := .glo "_law_roll") rfl), F_1.kp, F_1.bindsN fun _ _ _ _ _ _ us hl => match us, hl with | [_, _], _ => rfl⟩
  have C_law_pick : Cal P w K mg base 2 "_law_pick" ["_law_dice_here", "_law_items"] (spPick K) := ⟨_, _, ok_law_pick F_2 B Z C_law_roll, He.glo_ok X G (c.fact 2 (f := .glo "_law_pick") rfl), F_2.kp, F_2.bindsN fun _ _ _ _ _ _ us hl => match us, hl with | [_, _], _ => rfl⟩
  have C_law_some : Cal P w K mg base 2 "_law_some" ["_law_dice_here", "_law_items", "_law_size"] (spSome K) := ⟨_, _, ok_law_some F_3 B Z C_law_roll, He.glo_ok X G (c.fact 3 (f := .glo "_law_some") rfl), F_3.kp, F_3.bindsN fun _ _ _ _ _ _ us hl => match us, hl with | [_, _, _], _ => rfl⟩
  have C_is_word : Cal P w K mg base 1 "is_word" ["value"] (spWord K) := ⟨_, _, ok_is_word F_4 B Z, He.glo_ok X G (c.fact 4 (f := .glo "is_word") rfl), F_4.kp, F_4.bindsN fun _ _ _ _ _ _ us hl => match us, hl with | [_], _ => rfl⟩
  have C_law_is_word : Cal P w K mg base 1 "_law_is_word" ["_law_value"] (spWord K) := ⟨_, _, ok_law_is_word F_5 B Z, He.glo_ok X G (c.fact 5 (f := .glo "_law_is_word") rfl), F_5.kp, F_5.bindsN fun _ _ _ _ _ _ us hl => match us, hl with | [_], _ => rfl⟩
  have C_law_drawn_value : Cal P w K mg base 3 "_law_drawn_value" ["_law_dice_here"] (spValue K) := ⟨_, _, ok_law_drawn_value F_6 B Z C_law_roll C_law_pick C_law_some, He.glo_ok X G (c.fact 6 (f := .glo "_law_drawn_value") rfl), F_6.kp, F_6.bindsN fun _ _ _ _ _ _ us hl => match us, hl with | [_], _ => rfl⟩
  exact ok_law F_7 B Z C_law_dice C_law_drawn_value C_is_word C_law_is_word
end K01
open PySem PySem.W PySem.Calls PyProof.Rows
set_option maxHeartbeats 0 in
theorem PySem.Challenge.cw_wonbyturns_k01_words_judged_holds : PySem.Challenge.rw_wonbyturns_k01_words_judged.Holds := by
  w_on; o_law
  refine HandSHeadRun.head_any (r := OpenLaw.row PySem.Challenge.rw_wonbyturns_k01_words_judged) (q := view (OpenLaw.row PySem.Challenge.rw_wonbyturns_k01_words_judged).prog [10]) (H := K01.hk) (ob := K01.ob) (M := 600) (loose := ["is_word", "_law_dice", "_law_roll", "_law_pick", "_law_some", "_law_is_word", "_law_drawn_value", "MAX_LETTERS"]) (d := HandSHeadRun.topDef (OpenLaw.row PySem.Challenge.rw_wonbyturns_k01_words_judged).prog 10) (kwd := []) K01.ob_eq
    (by kernel_rfl) (fun s => by kernel_rfl) K01.run (by kernel_rfl) (by kernel_rfl) (by kernel_rfl) (by rfl) (by first | assumption | decide +kernel) (by decide +kernel) ⟨rfl, rfl, rfl, rfl, rfl, by decide +kernel⟩ ?hw ?hc
  case hw => w_witness2
  case hc =>
    refine L2.walk_ofE (l := PySem.Challenge.rw_wonbyturns_k01_words_judged) (n := 63) (k := 4) (x := "_law_script") (CX := L2.CX0) rfl (by decide) (by kernel_rfl) ⟨rfl, by decide, by decide⟩ ?F (fun _ _ _ _ z => z)
    intro w mg fa h Y G hmg0
    obtain ⟨K, KX, c⟩ := Y
    have hmg : mg ("law" : PySem.Str) = some (.ref fa) := by
      have e : (HandSHeadRun.topDef (OpenLaw.row PySem.Challenge.rw_wonbyturns_k01_words_judged).prog 10).name = ("law" : PySem.Str) := by kernel_rfl
      rw [← e]
      exact hmg0
    obtain ⟨fd, hb, hF⟩ := K01.facts (P := (PySem.Challenge.rw_wonbyturns_k01_words_judged).prog) (w := w) KX G hmg c
    exact ⟨K, fd, _, KX, hb, fun H a ns hl _ hS => ⟨a, ns, rfl, hS, hl, fun _ => rfl⟩, hF⟩
