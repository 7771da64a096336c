import PyProof.Rows.All
import Wide.All
import OpenK.AllK
import Wide.FinOn
import HandS.ForMost
import HandS.Wide
import HandS.IsInst
import HandS.Walk
import HandS.Defaults
import HandS.Head0
import HandS.Head1
import HandS.Head2
import HandS.HeadEnd
import HandS.HeadHook1
import HandS.HeadHook2
import HandS.OwnEq
import HandS.Property
import HandS.ClsMeth
import HandS.HeadNt
import HandS.Gcd
import HandS.CallLocal
import HandS.Codes
import KE.KOpsOwn
import KE.KCallOwn
import KE.KFmtOwn
import PyProof.InstNe
import PyProof.Rows.RuleN_abs
import HandS.Style
import HandS.Head3
import HandS.SortRule
import HandS.FStr
import HandS.RaiseMore
import PySem.Challenge.RW_wonbyturns_k05_whole_ratios_reckoned
set_option Elab.async false
set_option linter.all false
set_option maxRecDepth 100000
set_option maxHeartbeats 4000000
/-! k05: fractions reckoned -/
/-! My own rules beside the layer, and the reading's steps by name. -/
namespace Ow
open PySem PySem.Spec PyProof.Rows L2

/-! ### operations that the layer's rules do not reach -/
section
variable {X : Cx}
/-- a power of a great base -/
def CPowW (i j : Int) : Prop := 0 ≤ j ∧ (Builtin.Int.intBits i : Int) * j ≤ 2 ^ 27
theorem op_powW : OpR X (binaryOp .Pow) (rI CPowW fun i j => .int (i ^ j.toNat)) := opI fun _ _ _ _ _ _ _ hc q => pow_int hc.1 hc.2 q
/-- repr of a truth value -/
def rReprB : List V → Hp → VK → Prop := fun xs H Q => ∃ k : Bool, xs = [.bl k] ∧ Q (.str (if k then "True" else "False")) H
theorem c_reprB : CallR X (.builtin "repr") rReprB := by
  intro pins s σ H xs us Q I r h
  obtain ⟨k, rfl, q⟩ := h
  obtain ⟨u, rfl, rx⟩ := vals1 r
  cases (show u = Value.bool k from rx)
  exact PySem.P.repr_of_bool ⟨.str _, H, I.tok _, ⟨_, rfl⟩, q⟩
/-- the chrs of a text, one by one -/
def chrs (z : Str) : List V := z.cps.toList.map fun c => V.str ⟨#[c]⟩
/-- list(text) -/
def rListS : List V → Hp → VK → Prop := fun xs H Q => ∃ z : Str, xs = [.str z] ∧ z.cps.size ≤ 100000 ∧ ∀ p, H p = none → Q (.ref p) (upd H p (.lst (chrs z)))
theorem vals_chrs : ∀ (l : List Nat) (us : List Value), us.length = l.length → (∀ i, (h : i < l.length) → ∃ c t, l[i]? = some c ∧ us[i]? = some (Value.str ⟨#[c]⟩ t)) → Vals (l.map fun c => V.str ⟨#[c]⟩) us
  | [], [], _, _ => .nil
  | [], _ :: _, h, _ => by simp at h
  | _ :: _, [], h, _ => by simp at h
  | c :: l, u :: us, h, k => by
    obtain ⟨c', t, e1, e2⟩ := k 0 (by simp)
    simp at e1 e2
    subst e1
    subst e2
    refine .cons ⟨t, rfl⟩ (vals_chrs l us (by simpa using h) fun i hi => ?_)
    obtain ⟨c2, t2, e3, e4⟩ := k (i + 1) (by simpa using hi)
    exact ⟨c2, t2, by simpa using e3, by simpa using e4⟩
theorem c_listS (hc : X.calm = true) : CallR X (.type "list") rListS := by
  intro pins s σ H xs us Q I r h
  obtain ⟨z, rfl, hz, q⟩ := h
  obtain ⟨u, rfl, t, rfl⟩ := vals1 r
  have hh : X.A.handled = none := I.ok.hd hc
  refine call_list_str hh z t (fun h' tk acc' c' kp e it => ?_) (Nat.le_trans hz (by decide))
  refine ⟨.ref s.heap.objs.size, _, I.laid (t' := tk) kp (Nat.le_refl _) (show ObjOk X.prog X.w _ h' _ (.lst (chrs z)) from ?_), rfl, q _ (I.hok.fresh (Nat.le_refl _))⟩
  refine ⟨by unfold chrs; rw [List.length_map, Array.length_toList]; exact Nat.le_trans hz (by decide), acc'.toList, c', ?_, e⟩
  refine vals_chrs z.cps.toList acc'.toList (by rw [Array.length_toList, Array.length_toList, it.1]) fun i hi => ?_
  have hi2 : i < acc'.size := by
    rw [it.1]
    simpa using hi
  obtain ⟨c, u, e1, e2⟩ := it.2 i acc'[i] (by simp [hi2])
  exact ⟨c, u, by simpa using e1, by simp [hi2, e2]⟩
end

/-! ### readings by name: each is the reading's own sense, so that a step is found by its head -/
section
variable {σ : L2.St} {H : Hp} {Q : VK} {ta tb te : TE} {tr ts : TA} {n b c : L2.St → Hp → Prop} {rt : VK} {K : PySem.W.Frag}
theorem y_seq {t u : TS} (h : t ⟨u ⟨n, rt, b, c⟩, rt, b, c⟩ σ H) : tSeq t u ⟨n, rt, b, c⟩ σ H := h
theorem y_next (h : n σ H) : tNext ⟨n, rt, b, c⟩ σ H := h
theorem y_asg {g : TG} (h : te σ H fun x H1 => g x σ H1 n) : tAsg te g ⟨n, rt, b, c⟩ σ H := h
theorem y_name {i : Nat} {v : V} {R : L2.St → Hp → Prop} (h : R (σ.set i (some v)) H) : gName i v σ H R := h
theorem y_sub {to ti : TE} {t : TSet} {v : V} {R : L2.St → Hp → Prop} (h : to σ H fun o H1 => ti σ H1 fun i H2 => t o i v H2 fun H3 => R σ H3) : gSub to ti t v σ H R := h
theorem y_ret (h : te σ H rt) : tRet te ⟨n, rt, b, c⟩ σ H := h
theorem y_drop (h : te σ H fun _ H1 => n σ H1) : tDrop te ⟨n, rt, b, c⟩ σ H := h
theorem y_ifs {tc : TT} {t u : TS} (h : tc σ H fun k H1 => if k = true then t ⟨n, rt, b, c⟩ σ H1 else u ⟨n, rt, b, c⟩ σ H1) : tIfS tc t u ⟨n, rt, b, c⟩ σ H := h
theorem y_for {wi : TI} {g : TG} {t : TS} (h : wi σ H fun J H1 => ∃ W : Nat → Nat → L2.St → Hp → Prop, (∃ m, W 0 m σ H1) ∧ ∀ i m σ H, W i m σ H →
  (J.stop i H ∧ n σ H) ∨ (J.go i H ∧ ∃ N : L2.St → Hp → Prop, (∀ σ' H', N σ' H' → ∃ m', m' < m ∧ W (i + 1) m' σ' H') ∧ ∀ x H', J.yld i H x H' → g x σ H' fun σ2 H2 => t ⟨N, rt, n, N⟩ σ2 H2)) : tFor wi g t ⟨n, rt, b, c⟩ σ H := h
theorem y_var {i : Nat} {v : V} (e : σ[i]? = some (some v)) (h : Q v H) : tVar i σ H Q := ⟨v, e, h⟩
theorem y_var2 {i : Nat} (h : ∃ v, σ[i]? = some (some v) ∧ Q v H) : tVar i σ H Q := h
theorem y_con {v : V} (h : Q v H) : tC v σ H Q := h
theorem y_op {r : R2} (h : ta σ H fun x H1 => tb σ H1 fun y H2 => r x y H2 Q) : tOp r ta tb σ H Q := h
theorem y_un {r : V → Hp → VK → Prop} (h : ta σ H fun x H1 => r x H1 Q) : tUn r ta σ H Q := h
theorem y_nil {R : List V → Hp → Prop} (h : R [] H) : tNil σ H R := h
theorem y_cons {R : List V → Hp → Prop} (h : ta σ H fun x H1 => tr σ H1 fun xs H2 => R (x :: xs) H2) : tCons ta tr σ H R := h
theorem y_cb {r : List V → Hp → VK → Prop} (h : tr σ H fun vs H1 => r vs H1 Q) : tCB r tr σ H Q := h
theorem y_I0 {g : Int → Int → V} {i j : Int} (h : Q (g i j) H) : rI0 g (.int i) (.int j) H Q := ⟨i, j, rfl, rfl, h⟩
theorem y_I {C : Int → Int → Prop} {g : Int → Int → V} {i j : Int} (e : C i j) (h : Q (g i j) H) : rI C g (.int i) (.int j) H Q := ⟨i, j, rfl, rfl, e, h⟩
theorem y_test {R : Bool → Hp → Prop} (h : te σ H fun x H' => ∃ k, x = .bl k ∧ R k H') : tTest te σ H R := h
theorem y_B {R : Bool → Hp → Prop} (h : te σ H fun x H' => ∃ k, x = .bl k ∧ R k H') : tB te σ H R := h
theorem y_bl {k : Bool} {R : Bool → Prop} (h : R k) : ∃ k', V.bl k = .bl k' ∧ R k' := ⟨k, rfl, h⟩
theorem y_not {t : TT} {R : Bool → Hp → Prop} (h : t σ H fun k H1 => R (!k) H1) : tNot t σ H R := h
theorem y_and {t u : TT} {R : Bool → Hp → Prop} (h : t σ H fun k H1 => if k = true then u σ H1 R else R false H1) : tAnd t u σ H R := h
theorem y_or {t u : TT} {R : Bool → Hp → Prop} (h : t σ H fun k H1 => if k = true then R true H1 else u σ H1 R) : tOr t u σ H R := h
theorem y_if {t : TT} (h : t σ H fun k H1 => if k = true then ta σ H1 Q else tb σ H1 Q) : tIf t ta tb σ H Q := h
theorem y_chain {r r' : R2} (h : ta σ H fun x H1 => tb σ H1 fun y H2 => r x y H2 fun z H3 => ∃ k, z = .bl k ∧ (if k = true then te σ H3 fun w' H4 => r' y w' H4 Q else Q (.bl false) H3)) : tChain r r' ta tb te σ H Q := h
theorem y_andV (h : ta σ H fun x H1 => ∃ k, x = .bl k ∧ if k = true then tb σ H1 Q else Q (.bl false) H1) : tAndV ta tb σ H Q := h
theorem y_orV (h : ta σ H fun x H1 => ∃ k, x = .bl k ∧ if k = true then Q (.bl true) H1 else tb σ H1 Q) : tOrV ta tb σ H Q := h
theorem y_yes {R : Bool → Hp → Prop} (h : R true H) : tYes σ H R := h
theorem y_lst {t : TA} (h : t σ H fun xs H1 => xs.length ≤ sizeLine ∧ ∀ p, H1 p = none → Q (.ref p) (upd H1 p (.lst xs))) : tLst t σ H Q := h
theorem y_tup {t : TA} (h : t σ H fun xs H1 => xs.length ≤ sizeLine ∧ ∀ p, H1 p = none → Q (.ref p) (upd H1 p (.tup xs))) : tTup t σ H Q := h
theorem y_eqI {i j : Int} (h : Q (.bl (decide (i = j))) H) : rEq (.int i) (.int j) H Q := ⟨rfl, by
  have e : decide (V.int i = V.int j) = decide (i = j) := by
    rw [decide_eq_decide]
    exact ⟨fun z => V.int.inj z, fun z => by rw [z]⟩
  rw [e]
  exact h⟩
theorem y_neI {i j : Int} (h : Q (.bl (!decide (i = j))) H) : rNe (.int i) (.int j) H Q := ⟨rfl, by
  have e : decide (V.int i = V.int j) = decide (i = j) := by
    rw [decide_eq_decide]
    exact ⟨fun z => V.int.inj z, fun z => by rw [z]⟩
  rw [e]
  exact h⟩
theorem y_eqS {i j : Str} (h : Q (.bl (decide (i = j))) H) : rEq (.str i) (.str j) H Q := ⟨rfl, by
  have e : decide (V.str i = V.str j) = decide (i = j) := by
    rw [decide_eq_decide]
    exact ⟨fun z => V.str.inj z, fun z => by rw [z]⟩
  rw [e]
  exact h⟩
theorem y_neS {i j : Str} (h : Q (.bl (!decide (i = j))) H) : rNe (.str i) (.str j) H Q := ⟨rfl, by
  have e : decide (V.str i = V.str j) = decide (i = j) := by
    rw [decide_eq_decide]
    exact ⟨fun z => V.str.inj z, fun z => by rw [z]⟩
  rw [e]
  exact h⟩
/-- calls, by values -/
def rIntI : List V → Hp → VK → Prop := fun xs H Q => (∃ i, xs = [.int i] ∧ Q (.int i) H) ∨ ∃ k, xs = [.bl k] ∧ Q (.int (if k then 1 else 0)) H
theorem c_int {X : Cx} : CallR X (.type "int") rIntI := call_int1
theorem y_intI {i : Int} (h : Q (.int i) H) : rIntI [.int i] H Q := .inl ⟨i, rfl, h⟩
theorem y_intB {k : Bool} (h : Q (.int (if k then 1 else 0)) H) : rIntI [.bl k] H Q := .inr ⟨k, rfl, h⟩
def rAbs : List V → Hp → VK → Prop := fun xs H Q => ∃ i, xs = [.int i] ∧ Q (.int (if i < 0 then -i else i)) H
theorem c_abs {X : Cx} : CallR X (.builtin "abs") rAbs := call_abs
theorem y_abs {i : Int} (h : Q (.int (i.natAbs : Int)) H) : rAbs [.int i] H Q := ⟨i, rfl, by
  have e : (if i < 0 then -i else i) = (i.natAbs : Int) := by split <;> omega
  rw [e]
  exact h⟩
def rMax2 : List V → Hp → VK → Prop := fun xs H Q => ∃ i j, xs = [.int i, .int j] ∧ Q (.int (if j > i then j else i)) H
theorem c_max2 {X : Cx} (hc : X.calm = true) : CallR X (.builtin "max") rMax2 := call_max2 hc
theorem y_max2 {i j : Int} (h : Q (.int (max i j)) H) : rMax2 [.int i, .int j] H Q := ⟨i, j, rfl, by
  have e : (if j > i then j else i) = max i j := by split <;> omega
  rw [e]
  exact h⟩
def rMin2 : List V → Hp → VK → Prop := fun xs H Q => ∃ i j, xs = [.int i, .int j] ∧ Q (.int (if j < i then j else i)) H
theorem c_min2 {X : Cx} (hc : X.calm = true) : CallR X (.builtin "min") rMin2 := call_min2 hc
theorem y_min2 {i j : Int} (h : Q (.int (min i j)) H) : rMin2 [.int i, .int j] H Q := ⟨i, j, rfl, by
  have e : (if j < i then j else i) = min i j := by split <;> omega
  rw [e]
  exact h⟩
def rLenQ (K : PySem.W.Frag) : List V → Hp → VK → Prop := fun xs H Q => ∃ p ys, xs = [.ref p] ∧ (SqL K H p ys ∨ SqT K H p ys) ∧ Q (.int ys.length) H
theorem c_lenQ {X : Cx} {K : PySem.W.Frag} (h : X.K = K := by rfl) : CallR X (.builtin "len") (rLenQ K) := h ▸ call_len_seq
theorem y_lenL {p : Addr} {ys : List V} (e : SqL K H p ys) (h : Q (.int ys.length) H) : rLenQ K [.ref p] H Q := ⟨p, ys, rfl, .inl e, h⟩
theorem y_lenT {p : Addr} {ys : List V} (e : SqT K H p ys) (h : Q (.int ys.length) H) : rLenQ K [.ref p] H Q := ⟨p, ys, rfl, .inr e, h⟩
def rLenS : List V → Hp → VK → Prop := fun xs H Q => ∃ z, xs = [.str z] ∧ z.length ≤ sizeLine ∧ Q (.int z.length) H
theorem c_lenS {X : Cx} : CallR X (.builtin "len") rLenS := call_len_str
theorem y_lenS {z : Str} (e : z.length ≤ 100000) (h : Q (.int z.length) H) : rLenS [.str z] H Q := ⟨z, rfl, Nat.le_trans e (by decide), h⟩
theorem y_reprB {k : Bool} (h : Q (.str (if k then "True" else "False")) H) : rReprB [.bl k] H Q := ⟨k, rfl, h⟩
theorem y_listS {z : Str} (e : z.cps.size ≤ 100000) (h : ∀ p, H p = none → Q (.ref p) (upd H p (.lst (chrs z)))) : rListS [.str z] H Q := ⟨z, rfl, e, h⟩
def rListQ (K : PySem.W.Frag) : List V → Hp → VK → Prop := fun xs H Q => ∃ p ys, xs = [.ref p] ∧ (SqL K H p ys ∨ SqT K H p ys) ∧ ∀ l, H l = none → Q (.ref l) (upd H l (.lst ys))
theorem c_listQ {X : Cx} {K : PySem.W.Frag} (h : X.K = K := by rfl) : CallR X (.type "list") (rListQ K) := h ▸ call_list_of
theorem y_listL {p : Addr} {ys : List V} (e : SqL K H p ys) (h : ∀ l, H l = none → Q (.ref l) (upd H l (.lst ys))) : rListQ K [.ref p] H Q := ⟨p, ys, rfl, .inl e, h⟩
theorem y_listT {p : Addr} {ys : List V} (e : SqT K H p ys) (h : ∀ l, H l = none → Q (.ref l) (upd H l (.lst ys))) : rListQ K [.ref p] H Q := ⟨p, ys, rfl, .inr e, h⟩
theorem y_ixL {p : Addr} {xs : List V} {i : Int} {v : V} (e : SqL K H p xs) (a : atI xs i = some v) (h : Q v H) : rIxL K (.ref p) (.int i) H Q := ⟨p, xs, i, v, rfl, rfl, e, a, h⟩
theorem y_setL {p : Addr} {xs : List V} {k : Int} {j : Nat} {v : V} {R : Hp → Prop} (e : H p = some (.lst xs)) (a : ixN xs.length k = some j) (h : R (upd H p (.lst (xs.set j v)))) : rSetL (.ref p) (.int k) v H R := ⟨p, xs, k, j, rfl, rfl, e, a, h⟩
theorem y_rng1 {t : TA} {R : It → Hp → Prop} (h : t σ H fun vs H1 => ∃ j : Int, vs = [.int j] ∧ -(2 ^ 62) ≤ j ∧ j < 2 ^ 62 ∧ R (Itr 0 j.toNat) H1) : iRng1 t σ H R := h
theorem y_iStr {R : It → Hp → Prop} (h : te σ H fun v H1 => ∃ x, v = .str x ∧ R (Its x) H1) : iStr te σ H R := h
theorem y_iList {R : It → Hp → Prop} (h : te σ H fun x H1 => ∃ a, x = .ref a ∧ (∃ xs, SqL K H1 a xs) ∧ R (Itl K a) H1) : iList K te σ H R := h
end

/-! ### a def that is called: where it stands, how its arguments bind, what it promises -/
structure Cal (P : Program) (w : World) (K : PySem.W.Frag) (mg : Str → Option Value) (base : Heap) (k : Nat) (x : Str) (ps : List Str) (sp : Sp) : Prop where
  ex : ∃ (f : Addr) (fd : FuncData), FnOk P w K mg base CX0 k f fd ps sp ∧ mg x = some (.ref f) ∧ PySem.W.keepIn K (.ref f) = true ∧ Binds K fd ps []
/-- its call: the arguments, then its promise -/
def tFn (sp : Sp) (t : TA) : TE := fun σ H Q => t σ H fun vs H1 => sp vs H1 Q E0
theorem y_fn {σ : L2.St} {H : Hp} {Q : VK} {sp : Sp} {t : TA} (h : t σ H fun vs H1 => sp vs H1 Q E0) : tFn sp t σ H Q := h
theorem pe_fn {X : Cx} {k : Nat} {x : Str} {ps : List Str} {sp : Sp} {p pos : Pos} {e : Expr} {es : List Expr} {t : TA} (c : Cal X.prog X.w X.K X.mg X.base k x ps sp) (hr : Room k X.A) (hg : Gl X x) (ha : PA X (e :: es) t) (hdb : (x == ("__debug__" : Str)) = false := by decide)
    (he : starEach (e :: es) X.env = (false, eval e X.env) :: starEach es X.env := by rfl) (hpl : (backTo pos (starEach es X.env)).any (·.1) = false := by rfl) : PE X (.Call (.Name x p) (e :: es) [] pos) (tFn sp t) := by
  obtain ⟨f, fd, F, hm, hk, hb⟩ := c.ex
  have h := pe_call (p := p) (pos := pos) F hr hg hm hk hb .nil pass0 ha hdb he hpl
  have e : tCall sp [] E0 t = tFn sp t := by
    funext σ H Q
    show t σ H (fun vs H1 => sp (vs ++ []) H1 Q E0) = t σ H fun vs H1 => sp vs H1 Q E0
    congr 1
    funext vs H1
    rw [List.append_nil]
  rw [← e]
  exact h
theorem pe_globI {X : Cx} {x : Str} {i : Int} {pos : Pos} (hg : Gl X x) (hm : ∃ t, X.mg x = some (.int i t)) (hd : (x == ("__debug__" : Str)) = false := by decide) : PE X (.Name x pos) (tC (.int i)) := by
  obtain ⟨t, e⟩ := hm
  exact pe_glob hg e ⟨t, rfl⟩ hd

/-! ### heaps: all that stands but d stands as before -/
def Fr (d : Addr) (H H' : Hp) : Prop := ∀ b o, H b = some o → b ≠ d → H' b = some o
theorem Fr.refl (d : Addr) (H : Hp) : Fr d H H := fun _ _ h _ => h
theorem Fr.trans {d : Addr} {H H1 H2 : Hp} (a : Fr d H H1) (b : Fr d H1 H2) : Fr d H H2 := fun x o h n => b x o (a x o h n) n
theorem Fr.self {d : Addr} {H : Hp} {o : HO} : Fr d H (upd H d o) := fun b u h n => by
  rw [upd_ne n]
  exact h
theorem Fr.new {d p : Addr} {H : Hp} {o : HO} (e : H p = none) : Fr d H (upd H p o) := fun b u h n => by
  rw [upd_ne (ne_of_none h e)]
  exact h
/-- an object that the first heap does not know may change -/
theorem Fr.mut {d p : Addr} {H H1 : Hp} {o : HO} (a : Fr d H H1) (e : H p = none) : Fr d H (upd H1 p o) := fun b u h n => by
  rw [upd_ne (ne_of_none h e)]
  exact a b u h n
theorem Fr.of_same {d : Addr} {H H' : Hp} (a : Same H H') : Fr d H H' := fun b o h _ => a b o h
theorem Fr.lst {d a : Addr} {H H' : Hp} {K : PySem.W.Frag} {xs : List V} (f : Fr d H H') (n : a ≠ d) (h : SqL K H a xs) : SqL K H' a xs := by
  rcases h with (h | ⟨o, h⟩) | h
  · exact .inl (.inl (f _ _ h n))
  · exact .inl (.inr ⟨o, f _ _ h n⟩)
  · exact .inr h
theorem Fr.tup {d a : Addr} {H H' : Hp} {K : PySem.W.Frag} {xs : List V} (f : Fr d H H') (n : a ≠ d) (h : SqT K H a xs) : SqT K H' a xs := by
  rcases h with (h | ⟨o, h⟩) | h
  · exact .inl (.inl (f _ _ h n))
  · exact .inl (.inr ⟨o, f _ _ h n⟩)
  · exact .inr h
/-- what was there ahead of d is there behind -/
theorem same_fr {H0 H H' : Hp} {d : Addr} (s : Same H0 H) (f : Fr d H H') (e : H0 d = none) : Same H0 H' := fun b o h => f b o (s b o h) (ne_of_none h e)
theorem same_new {H : Hp} {p : Addr} {o : HO} (h : H p = none) : Same H (upd H p o) := fun b x e => by
  rw [upd_ne (ne_of_none e h)]
  exact e
theorem same_mut {H H1 : Hp} {p : Addr} {o : HO} (a : Same H H1) (h : H p = none) : Same H (upd H1 p o) := fun b x e => by
  rw [upd_ne (ne_of_none e h)]
  exact a b x e
theorem free_fr {d p : Addr} {H H' : Hp} (f : Fr d H H') (e : H' p = none) (n : p ≠ d) : H p = none := by
  cases q : H p with
  | none => rfl
  | some o =>
    rw [f p o q n] at e
    cases e
theorem sql {K : PySem.W.Frag} {H : Hp} {a : Addr} {xs : List V} (h : H a = some (.lst xs)) : SqL K H a xs := .inl (.inl h)
theorem sqt {K : PySem.W.Frag} {H : Hp} {a : Addr} {xs : List V} (h : H a = some (.tup xs)) : SqT K H a xs := .inl (.inl h)
/-! ### the dice: a list of three numbers that stands at d -/
def DiceAt (H : Hp) (d : Addr) : Prop := ∃ g e c : Int, H d = some (.lst [.int g, .int e, .int c])
theorem DiceAt.new {H : Hp} {d p : Addr} {o : HO} (h : DiceAt H d) (e : H p = none) : DiceAt (upd H p o) d := by
  obtain ⟨g, x, c, h⟩ := h
  exact ⟨g, x, c, by rw [upd_ne (ne_of_none h e)]; exact h⟩
theorem DiceAt.mut {H : Hp} {d p : Addr} {o : HO} (h : DiceAt H d) (e : p ≠ d) : DiceAt (upd H p o) d := by
  obtain ⟨g, x, c, h⟩ := h
  exact ⟨g, x, c, by rw [upd_ne e.symm]; exact h⟩
theorem DiceAt.same {H H' : Hp} {d : Addr} (h : DiceAt H d) (s : Same H H') : DiceAt H' d := by
  obtain ⟨g, x, c, h⟩ := h
  exact ⟨g, x, c, s _ _ h⟩
theorem DiceAt.ne {H : Hp} {d p : Addr} (h : DiceAt H d) (e : H p = none) : p ≠ d := by
  obtain ⟨g, x, c, h⟩ := h
  exact fun z => by
    rw [z, h] at e
    cases e
def spDice (K : PySem.W.Frag) : Sp := fun vs H Q _ => ∃ (a : Addr) (i : Int) (ns : List Int), vs = [.ref a, .int i] ∧ SqL K H a (ns.map V.int) ∧ 0 ≤ i ∧ i ≤ 1000 ∧ ∀ d H', H d = none → DiceAt H' d → Same H H' → Q (.ref d) H'
def spRoll : Sp := fun vs H Q _ => ∃ (d : Addr) (t : Int), vs = [.ref d, .int t] ∧ DiceAt H d ∧ 0 < t ∧ t.natAbs < 2 ^ 4000 ∧ ∀ n H', 0 ≤ n → n < t → DiceAt H' d → Fr d H H' → Q (.int n) H'
def spPick (K : PySem.W.Frag) : Sp := fun vs H Q _ => ∃ (d l : Addr) (ys : List V), vs = [.ref d, .ref l] ∧ DiceAt H d ∧ SqL K H l ys ∧ l ≠ d ∧ 0 < ys.length ∧ ys.length ≤ 100000 ∧ ∀ v H', v ∈ ys → DiceAt H' d → Fr d H H' → Q v H'
theorem big_div {t : Int} (h : 0 < t) (b : t.natAbs < 2 ^ 4000) {i : Int} : CDivW i t := wide_div h b (by decide) (by decide)
theorem getD_at {α : Type} {l : List α} {n : Int} (h0 : 0 ≤ n) (h1 : n < l.length) : ∃ x, l[n.toNat]? = some x ∧ x ∈ l := by
  have hn : n.toNat < l.length := by omega
  exact ⟨l[n.toNat], by simp [hn], List.getElem_mem hn⟩
theorem at_nat {xs : List V} {n : Int} {v : V} (h0 : 0 ≤ n) (h : xs[n.toNat]? = some v) : atI xs n = some v := at_of (j := n.toNat) (by omega) h
/-- both ways of an if without else come together: J is what follows, for any state of the form F x -/
theorem y_join {α : Type} {σ : L2.St} {H : Hp} {k : Bool} {t : TS} {n b c : L2.St → Hp → Prop} {rt : VK} (F : α → L2.St) (x : α) (e : σ = F x) (hJ : ∀ x, n (F x) H) (h : k = true → (∀ x, n (F x) H) → t ⟨n, rt, b, c⟩ σ H) :
    if k = true then t ⟨n, rt, b, c⟩ σ H else tNext ⟨n, rt, b, c⟩ σ H := by
  cases k with
  | true => exact iteT (h rfl hJ)
  | false => exact iteF (show n σ H by rw [e]; exact hJ x)
theorem y_ite {k : Bool} {A B : Prop} (h1 : k = true → A) (h2 : k = false → B) : if k = true then A else B := by
  cases k with
  | true => exact iteT (h1 rfl)
  | false => exact iteF (h2 rfl)
/-! ### rules with the written part by its own name (a comprehension's block has it by another) -/
section
variable {X : Cx} {K : PySem.W.Frag}
theorem x_list (h : X.K = K := by rfl) : IxR X (rIxL K) := h ▸ ix_list
theorem x_tup (h : X.K = K := by rfl) : IxR X (rIxT K) := h ▸ ix_tup
theorem w_list {tg l : Expr} {tl : TE} (hl : PE X l tl) (h : X.K = K := by rfl) : PI X tg l (iList K tl) := h ▸ pi_list hl
theorem w_tup {tg l : Expr} {tl : TE} (hl : PE X l tl) (h : X.K = K := by rfl) : PI X tg l (iTup K tl) := h ▸ pi_tup hl
theorem c_isi (h : X.K = K := by rfl) : CallR X (.builtin "isinstance") (rIsi K) := h ▸ call_isi
theorem c_all (hc : X.calm = true) (h : X.K = K := by rfl) : CallR X (.builtin "all") (rAll K) := h ▸ cr_all hc
theorem o_eqD (hu : X.A.units + 64 < cLine) (h : X.K = K := by rfl) : OpR X (compareOp .Eq) (rEqD K) := h ▸ op_eqD hu
theorem o_neD (hu : X.A.units + 64 < cLine) (h : X.K = K := by rfl) : OpR X (compareOp .NotEq) (rNeD K) := h ▸ op_neD hu
theorem e_bm {o e : Expr} {es : List Expr} {to : TE} {t : TA} {name : Str} {apos cpos : Pos} {T id : String} {r : V → List V → Hp → VK → Prop} (pa : PlainAttrs T) (slot : Slot T name id) (hty : typeOf (.builtin id) = pure (.type "method_descriptor")) (hm : MtR X id r) (ho : PE X o to) (ha : PA X (e :: es) t) (h : X.K = K := by rfl)
    (hbase : attributeBase o name X.env (eval o X.env) = eval o X.env := by rfl)
    (hfew : ((backTo cpos (starEach (e :: es) X.env)).all (fun x => !x.1) && (backToKw cpos (keywordEach [] X.env)).all (fun x => x.1.isSome)
      && decide ((e :: es).length + ([] : List Keyword).length + (if ([] : List Keyword).isEmpty then 0 else 1) < 30)) = true := by rfl)
    (hline : (apos.endLine == cpos.line) = true := by rfl) (hs : starEach (e :: es) X.env = (false, eval e X.env) :: starEach es X.env := by rfl) (hplain : (backTo cpos (starEach es X.env)).any (·.1) = false := by rfl) :
    PE X (.Call (.Attribute o name apos) (e :: es) [] cpos) (tBM K T r to t) := h ▸ pe_bm pa slot hty hm ho ha hbase hfew hline hs hplain
theorem y_bm {σ : L2.St} {H : Hp} {Q : VK} {T : String} {r : V → List V → Hp → VK → Prop} {to : TE} {t : TA} (h : to σ H fun x H1 => tyV K T x H1 ∧ t σ H1 fun xs H2 => r x xs H2 Q) : tBM K T r to t σ H Q := h
theorem y_m1 {σ : L2.St} {H : Hp} {Q : VK} {r : V → List V → Hp → VK → Prop} {to te : TE} (h : to σ H fun x H1 => (∃ a, x = .str a) ∧ te σ H1 fun y H2 => r x [y] H2 Q) : tM1 r to te σ H Q := h
theorem ty_l {H : Hp} {p : Addr} {xs : List V} (h : H p = some (.lst xs)) : tyV K "list" (.ref p) H := .inl ⟨rfl, _, .inl (.inl h)⟩
end
theorem y_lc {σ : L2.St} {H : Hp} {Q : VK} {wi : TI} {g : TG} {tt : TT} {te : TE} {vs : List Nat} (h : wi σ H fun J H1 => ∀ D, H1 D = none → ∃ W : Nat → Nat → Hp → Prop, (∃ m, W 0 m (upd H1 D (.lst []))) ∧ ∀ i m H, W i m H →
  (J.stop i H ∧ Q (.ref D) H) ∨ (J.go i H ∧ ∃ Nx : Hp → Prop, (∀ H', Nx H' → ∃ m', m' < m ∧ W (i + 1) m' H') ∧ ∀ x H', J.yld i H x H' → g x (wipe σ vs) H' fun σ2 H2 => wipe σ2 vs = wipe σ vs ∧ tt σ2 H2 fun b H3 =>
    if b = true then te σ2 H3 fun y H4 => ∃ acc, H4 D = some (.lst acc) ∧ acc.length < sizeLine ∧ Nx (upd H4 D (.lst (acc ++ [y]))) else Nx H3)) : tLc wi g tt te vs σ H Q := h
theorem ix_seq {i : Int} {n : Nat} (h0 : 0 ≤ i) (h1 : i < n) : seqIndex? i n = some i.toNat := by
  unfold seqIndex?
  have e : ¬ i < 0 := by omega
  simp [e, h0, h1]
theorem big_of {t : Int} (h : t.natAbs ≤ 1000000) : t.natAbs < 2 ^ 4000 := Nat.lt_of_le_of_lt h (by decide +kernel)
theorem sz_le {n : Nat} (h : n ≤ 100000) : n ≤ sizeLine := Nat.le_trans h (by decide)
theorem sz_lt {n : Nat} (h : n < 100000) : n < sizeLine := Nat.lt_of_lt_of_le h (by decide)
theorem y_isi {H : Hp} {Q : VK} {K : PySem.W.Frag} {x : V} {t : Value} {T : String} {k : Bool} (ty : TyX K H x t) (e : PySem.W.kitOne K t (.type T) = some k) (h : Q (.bl k) H) : rIsi K [x, .ty T] H Q := ⟨x, .ty T, t, .type T, k, rfl, .ty T, ty, e, h⟩
/-! ### join of texts -/
def rJoin (K : PySem.W.Frag) : V → List V → Hp → VK → Prop := fun x xs H Q => ∃ a p, ∃ ys : List Str, x = .str a ∧ xs = [.ref p] ∧ (SqL K H p (ys.map V.str) ∨ SqT K H p (ys.map V.str)) ∧ (ys.map (·.length)).sum + ys.length * a.length ≤ 16777216 ∧ Q (.str (Txt.join a ys)) H
theorem e_join {X : Cx} {K : PySem.W.Frag} {o e : Expr} {to te : TE} {apos pos : Pos} (ho : PE X o to) (he : PE X e te) (h : X.K = K := by rfl) (hs : starEach [e] X.env = [(false, eval e X.env)] := by rfl) (hbase : attributeBase o "join" X.env (eval o X.env) = eval o X.env := by rfl) (hline : (apos.endLine == pos.line) = true := by rfl) :
    PE X (.Call (.Attribute o "join" apos) [e] [] pos) (tM1 (rJoin K) to te) := by
  subst h
  exact pe_join ho he hs hbase hline
theorem tl_flat : ∀ ps : List (List Nat), TL.joinL [] ps = ps.flatten
  | [] => rfl
  | [p] => by simp [TL.joinL]
  | p :: q :: r => by
    show p ++ ([] ++ TL.joinL [] (q :: r)) = _
    rw [tl_flat (q :: r), List.nil_append]
    rfl
theorem join_nil (ys : List Str) : (Txt.join "" ys).cps.toList = (ys.map fun y => y.cps.toList).flatten := by
  have e : Txt.join "" ys = Str.join "" ys := StrLaws.glued_eq_join "" ys
  rw [e]
  have h := TL.tl_join "" ys
  have z : TL.tl "" = [] := by decide +kernel
  rw [z, tl_flat] at h
  exact h
theorem y_t {k : Bool} {A B : Prop} (e : k = true) (h : A) : if k = true then A else B := by
  rw [e]
  exact iteT h
theorem y_f {k : Bool} {A B : Prop} (e : k = false) (h : B) : if k = true then A else B := by
  rw [e]
  exact iteF h
/-- a for over a range, what stands behind it told part by part -/
theorem y_forR {lo : Int} {m : Nat} {g : TG} {t : TS} {n b c : L2.St → Hp → Prop} {rt : VK} {σ : L2.St} {H : Hp} (Pv : Nat → L2.St → Hp → Prop) (h0 : Pv 0 σ H)
    (hs : ∀ i σ H, i < m → Pv i σ H → g (.int (lo + i)) σ H fun σ2 H2 => t ⟨Pv (i + 1), rt, n, Pv (i + 1)⟩ σ2 H2) (hd : ∀ σ H, Pv m σ H → n σ H) :
    ∃ W : Nat → Nat → L2.St → Hp → Prop, (∃ m, W 0 m σ H) ∧ ∀ i k σ H, W i k σ H →
      ((Itr lo m).stop i H ∧ n σ H) ∨ ((Itr lo m).go i H ∧ ∃ N : L2.St → Hp → Prop, (∀ σ' H', N σ' H' → ∃ m', m' < k ∧ W (i + 1) m' σ' H') ∧ ∀ x H', (Itr lo m).yld i H x H' → g x σ H' fun σ2 H2 => t ⟨N, rt, n, N⟩ σ2 H2) :=
  for_range (D := ⟨n, rt, b, c⟩) Pv h0 hs hd
theorem y_rU {g : Int → V} {i : Int} {H : Hp} {Q : VK} (h : Q (g i) H) : rU g (.int i) H Q := ⟨i, rfl, h⟩
theorem y_ixT {p : Addr} {xs : List V} {i : Int} {v : V} {H : Hp} {Q : VK} {K : PySem.W.Frag} (e : SqT K H p xs) (a : atI xs i = some v) (h : Q v H) : rIxT K (.ref p) (.int i) H Q := ⟨p, xs, i, v, rfl, rfl, e, a, h⟩
/-- x = e; rest: the rest once, for all that P says of the value -/
theorem y_seqAsg {te : TE} {i : Nat} {u : TS} {n b c : L2.St → Hp → Prop} {rt : VK} {σ : L2.St} {H : Hp} (P : V → Hp → Prop) (rest : ∀ v H1, P v H1 → u ⟨n, rt, b, c⟩ (σ.set i (some v)) H1)
    (h : (∀ v H1, P v H1 → u ⟨n, rt, b, c⟩ (σ.set i (some v)) H1) → te σ H (fun v H1 => u ⟨n, rt, b, c⟩ (σ.set i (some v)) H1)) : tSeq (tAsg te (gName i)) u ⟨n, rt, b, c⟩ σ H := h rest
end Ow
/-! Operators upon instances of the text's own classes: the special method's promise. -/
namespace Ow
open PySem PySem.Spec PyProof.Rows L2
section
variable {X : Cx} {CX : CXT} {k : Nat} {C f : Addr} {fd : FuncData} {ps : List Str} {sp : Sp} {E : XK}
/-- a def called from within a built-in, with room -/
theorem run_sub {A : Around} {pins : List (Addr × Obj)} {s : Shared} {σ : L2.St} {H : Hp} {Q : VK} {us : List Value} {vs : List V} (F : FnOk X.prog X.w X.K X.mg X.base CX k f fd ps sp) (sb : Sub X k A) (hb : Binds X.K fd ps []) (hx : Passes CX X E)
    (I : Inv X pins σ H s) (r : Vals vs us) (h : sp vs H Q E) : wpAny (model X.prog X.w) A (call (.ref f) us) (EP X pins σ Q) X.xe s := by
  have e0 : Env0 X.prog X.w X.K X.mg X.base A X.stack s H := by
    have e := I.env0
    exact ⟨by rw [sb.fr]; exact e.frames, e.mod, e.bs, e.bsz, e.funs, e.frf, e.hok, e.bare⟩
  have hl := F.len _ _ _ _ h
  have hl2 : us.length = ps.length := by rw [← r.length]; exact hl
  refine wpAny_call (codeAny_mono (F.run A X.stack s H ⟨us, []⟩ us vs Q E sb.room e0 (by
    have := hb s us I.kIn (by simpa using hl2)
    simpa using this) r h) fun r s' hq => ?_)
  cases r with
  | error e => exact hx pins σ H s e s' I hq
  | ok fl =>
    cases fl with
    | ret w =>
      obtain ⟨z, H', I', rz, q⟩ := I.after hq
      exact ⟨z, H', I', rz, q⟩
    | next => exact False.elim hq
    | brk => exact False.elim hq
    | cont => exact False.elim hq
theorem sub_here (hr : Room k X.A) : Sub X k X.A := ⟨hr, rfl⟩
theorem back_of {Q : Value → Shared → Prop} {z : V} {v : Value} {s' : Shared} (r : RelV z v) (h : Q v s') : PySem.W.CmpBack Q v s' := by
  cases v with
  | notImplemented =>
    exfalso
    cases z <;> first
      | (cases (show Value.notImplemented = _ from r); done)
      | (obtain ⟨t, e⟩ := (show ∃ t, Value.notImplemented = _ from r); cases e)
  | _ => exact h
/-- the class (or one above it) has the name as the def at f -/
structure Spc (K : PySem.W.Frag) (C : Addr) (m : Str) (f : Addr) : Prop where
  at_ : PySem.W.findIn K (.ref C) m = some (some (.ref f))
  fn : PySem.W.isFn K (.ref f) = true
/-- both operands instances of the class -/
def rOwn2 (C : Addr) (sp : Sp) : R2 := fun x y H Q => ∃ a b dx dy fs gs, x = .ref a ∧ y = .ref b ∧ H a = some (.ins C dx fs) ∧ H b = some (.ins C dy gs) ∧ sp [.ref a, .ref b] H Q E0
/-- the right operand an int -/
def rOwnI (C : Addr) (sp : Sp) : R2 := fun x y H Q => ∃ a dx fs i, x = .ref a ∧ y = .int i ∧ H a = some (.ins C dx fs) ∧ sp [.ref a, .int i] H Q E0
def rOwn1 (C : Addr) (sp : Sp) : V → Hp → VK → Prop := fun x H Q => ∃ a dx fs, x = .ref a ∧ H a = some (.ins C dx fs) ∧ sp [.ref a] H Q E0
theorem inst_at {pins : List (Addr × Obj)} {s : Shared} {σ : L2.St} {H : Hp} {a dx : Addr} {fs : List (Str × V)} (I : Inv X pins σ H s) (ha : H a = some (.ins C dx fs)) : ∃ ox od, PySem.W.InstAt s.heap a ox C (some od) := by
  obtain ⟨mA, J, _⟩ := ins_get I.hok ha
  obtain ⟨od, J, _⟩ := J.look
  exact ⟨_, _, J⟩
theorem o_own2 {op : Operator} (F : FnOk X.prog X.w X.K X.mg X.base CX0 k f fd ps sp) (hr : Room k X.A) (hb : Binds X.K fd ps []) (hc : PySem.W.selfFirst X.K C = true) (M : Spc X.K C (PySem.dunder op.info.2) f) : OpR X (binaryOp op) (rOwn2 C sp) := by
  intro pins s σ H x y v u Q I rx ry h
  obtain ⟨a, b, dx, dy, fs, gs, rfl, rfl, ha, hb', hs⟩ := h
  cases rx
  cases ry
  obtain ⟨ox, od, J⟩ := inst_at I ha
  obtain ⟨oy, oe, J'⟩ := inst_at I hb'
  obtain ⟨m, hF⟩ := I.fr
  refine PySem.W.binop_K hF I.ok.mod.kin J J'.type hc M.at_ M.fn ?_
  refine wpAny_mono (run_sub (vs := [.ref a, .ref b]) F (sub_here hr) hb pass0 I (.cons rfl (.cons rfl .nil)) hs) (fun v s' hv => ?_) fun _ _ e => e
  obtain ⟨z, H', I', rz, q⟩ := hv
  exact back_of rz ⟨z, H', I', rz, q⟩
/-- what is asked of int and the class, for an operator -/
structure IntSide (K : PySem.W.Frag) (C : Addr) (nm : String) : Prop where
  hr : PySem.W.findIn K (.ref C) (dunderR nm) = some none
  h1 : ∃ fo, PySem.W.findIn K (.type "int") (PySem.dunder nm) = some fo
  h2 : ∃ ro, PySem.W.findIn K (.type "int") (dunderR nm) = some ro
  sub : PySem.W.subIn K (.type "int") (.ref C) = some false
theorem o_ownI {op : Operator} (F : FnOk X.prog X.w X.K X.mg X.base CX0 k f fd ps sp) (hr : Room k X.A) (hb : Binds X.K fd ps []) (hc : PySem.W.selfFirst X.K C = true) (M : Spc X.K C (PySem.dunder op.info.2) f) (S : IntSide X.K C op.info.2) : OpR X (binaryOp op) (rOwnI C sp) := by
  intro pins s σ H x y v u Q I rx ry h
  obtain ⟨a, dx, fs, i, rfl, rfl, ha, hs⟩ := h
  cases rx
  obtain ⟨t, rfl⟩ := (show ∃ t, u = Value.int i t from ry)
  obtain ⟨ox, od, J⟩ := inst_at I ha
  obtain ⟨m, hF⟩ := I.fr
  obtain ⟨fo, h1⟩ := S.h1
  obtain ⟨ro, h2⟩ := S.h2
  refine PySem.W.ksp_binT (T := "int") hF I.ok.mod.kin J rfl hc M.at_ M.fn S.hr (.inl rfl) h1 h2 S.sub ?_
  refine wpAny_mono (run_sub (vs := [.ref a, .int i]) F (sub_here hr) hb pass0 I (.cons rfl (.cons ⟨t, rfl⟩ .nil)) hs) (fun v s' hv => ?_) fun _ _ e => e
  obtain ⟨z, H', I', rz, q⟩ := hv
  exact back_of rz ⟨z, H', I', rz, q⟩
theorem o_ownNeg (F : FnOk X.prog X.w X.K X.mg X.base CX0 k f fd ps sp) (hr : Room k X.A) (hb : Binds X.K fd ps []) (M : Spc X.K C "__neg__" f) : UnR X (unaryOp .USub) (rOwn1 C sp) := by
  intro pins s σ H x v Q I rx h
  obtain ⟨a, dx, fs, rfl, ha, hs⟩ := h
  cases rx
  obtain ⟨ox, od, J⟩ := inst_at I ha
  obtain ⟨m, hF⟩ := I.fr
  exact PySem.W.ksp_neg hF I.ok.mod.kin J M.at_ M.fn (run_sub (vs := [.ref a]) F (sub_here hr) hb pass0 I (.cons rfl .nil) hs)
/-- a == b, a an instance, b any value whose type is told and is first in nothing -/
def rOwnEq (C : Addr) (sp : Sp) : R2 := fun x y H Q => ∃ a b dx dy fs gs, x = .ref a ∧ y = .ref b ∧ H a = some (.ins C dx fs) ∧ H b = some (.ins C dy gs) ∧ sp [.ref a, .ref b] H Q E0
theorem o_ownEq (F : FnOk X.prog X.w X.K X.mg X.base CX0 k f fd ps sp) (hr : Room k X.A) (hb : Binds X.K fd ps []) (M : Spc X.K C "__eq__" f) : OpR X (compareOp .Eq) (rOwn2 C sp) := by
  intro pins s σ H x y v u Q I rx ry h
  obtain ⟨a, b, dx, dy, fs, gs, rfl, rfl, ha, hb', hs⟩ := h
  cases rx
  cases ry
  obtain ⟨ox, od, J⟩ := inst_at I ha
  obtain ⟨oy, oe, J'⟩ := inst_at I hb'
  obtain ⟨m, hF⟩ := I.fr
  show wpAny _ _ (richCompare .Eq (.ref a) (.ref b)) _ _ _
  refine PySem.W.cmp_K (op := .Eq) (tb := .ref C) hr.units0 hF I.ok.mod.kin J J'.type (by simp [PySem.W.notFirst]) M.at_ M.fn ?_
  refine wpAny_mono (run_sub (vs := [.ref a, .ref b]) F (sub_here hr) hb pass0 I (.cons rfl (.cons rfl .nil)) hs) (fun v s' hv => ?_) fun _ _ e => e
  obtain ⟨z, H', I', rz, q⟩ := hv
  exact back_of rz ⟨z, H', I', rz, q⟩
/-- a special method that is a built-in -/
theorem ifBound_B {M : Model} {A : Around} {E : Value → Shared → Prop} {s : Shared} {K : PySem.W.Frag} {x C : Addr} {ox : Obj} {od : Option Obj} {name : Str} {id : String} {args : List Value} {Q : Option Value → Shared → Prop} (Y : K.In s.heap) (I : PySem.W.InstAt s.heap x ox C od) (hs : PySem.W.findIn K (.ref C) name = some (some (.builtin id)))
    (hb : ∀ self, bindSpecial (.builtin id) self = pure (.builtin id, [self])) (h : wpAny M A (call (.builtin id) (.ref x :: args)) (fun v => Q (some v)) E s) : wpAny M A (callSpecialIfBound? (.ref x) name args) Q E s := by
  simp only [callSpecialIfBound?, bindSpecialIfBound?]
  refine wpAny_holding (wpAny_bind (wpAny_bind (wpAny_bind (I.type.here ((PySem.W.looks_findIn Y hs).here ?_)))))
  refine wpAny_bind (wpAny_askSetting (wpAny_ite ?_))
  have fin : wpAny M A (call (.builtin id) ([.ref x] ++ args) >>= fun v => pure (some v)) Q E s := wpAny_bind (wpAny_mono h (fun v s' h' => wpAny_pure h') fun _ _ h' => h')
  split
  · exact wpAny_bind ((PySem.W.Looks.of_pure (hb _)).here (wpAny_pure (by exact fin)))
  · exact wpAny_tryCatch (wpAny_bind ((PySem.W.Looks.of_pure (hb _)).here (wpAny_pure (by exact fin))))
/-- != by object's own: the own == turned; what the promise gives is a truth value -/
def rOwnNe (C : Addr) (sp : Sp) : R2 := fun x y H Q => ∃ a b dx dy fs gs, x = .ref a ∧ y = .ref b ∧ H a = some (.ins C dx fs) ∧ H b = some (.ins C dy gs) ∧ sp [.ref a, .ref b] H (fun v H' => ∃ t, v = .bl t ∧ Q (.bl (!t)) H') E0
theorem o_ownNe (F : FnOk X.prog X.w X.K X.mg X.base CX0 k f fd ps sp) (hr : Room (k + 1) X.A) (hb : Binds X.K fd ps []) (M : Spc X.K C "__eq__" f) (hn : PySem.W.findIn X.K (.ref C) "__ne__" = some (some (.builtin "object.__ne__"))) (hm : PySem.W.mroIn X.K C (.type "object") = some true) :
    OpR X (compareOp .NotEq) (rOwnNe C sp) := by
  intro pins s σ H x y v u Q I rx ry h
  obtain ⟨a, b, dx, dy, fs, gs, rfl, rfl, ha, hb', hs⟩ := h
  cases rx
  cases ry
  obtain ⟨ox, od, J⟩ := inst_at I ha
  obtain ⟨oy, oe, J'⟩ := inst_at I hb'
  show wpAny _ _ (richCompare .NotEq (.ref a) (.ref b)) _ _ _
  have hu : X.A.units < cLine := hr.units0
  have hu1 : X.A.in1.units < cLine := hr.in1.units0
  have one : wpAny (model X.prog X.w) X.A (tryCompare (.ref a) "__ne__" (.ref b)) (fun r s' => ∃ v, r = some v ∧ EP X pins σ Q v s') X.xe s := by
    unfold tryCompare
    refine wpAny_bind (ifBound_B I.kIn J hn PySem.F.slot_object_ne.bind ?_)
    refine wpAny_call (codeAny_call_builtin PySem.F.slot_object_ne.plain PySem.F.cmpEntry_ne (PySem.W.check_slot (i := "object.__ne__") (owner := "object") (n := "__ne__") PySem.F.cmpKind_ne PySem.F.cmpSplit_ne (J.type.andThen (PySem.W.looks_mroIn I.kIn hm)) (PySem.F.cmpArgs_ne _ _) ?_))
    unfold Builtin.«object.__ne__»
    refine wpAny_bind (m := slotArgs "__ne__" 1 _) (wpAny_pure ?_)
    refine wpAny_bind (m := cRoomFor _ _) (wpAny_cRoomFor hu1 ?_)
    refine wpAny_bind (m := callSpecialIfBound? (.ref a) (Str.ofString "__eq__") _) (PySem.W.ifBound_K I.kIn J M.at_ M.fn (wpAny_mono (run_sub (vs := [.ref a, .ref b]) F (sub_here hr).in1 hb pass0 I (.cons rfl (.cons rfl .nil)) hs) (fun v s' hv => ?_) fun _ _ e => e))
    obtain ⟨z, H', I', rz, t, rfl, q⟩ := hv
    cases (show v = Value.bool t from rz)
    refine wpAny_bind (wpAny_truthy_bool ?_)
    first
      | exact wpAny_pure (wpAny_pure ⟨_, rfl, .bl (!t), H', I', rfl, q⟩)
      | (show wpAny _ _ (ret (Value.bool !t)) _ _ _; exact wpAny_pure (wpAny_pure ⟨_, rfl, .bl (!t), H', I', rfl, q⟩))
      | (refine wpAny_bind (wpAny_pure ?_); exact wpAny_pure (wpAny_pure ⟨_, rfl, .bl (!t), H', I', rfl, q⟩))
  unfold richCompare
  simp only [oneThing_ref]
  refine wpAny_holding (wpAny_bind (wpAny_cRoomFor hu ?_))
  refine wpAny_bind (J.type.here (wpAny_bind (J'.type.here ?_)))
  rw [show (Value.ref C != Value.ref C) = false from by simp]
  simp only [Bool.false_eq_true, if_false]
  refine wpAny_bind (wpAny_pure ?_)
  simp only [Bool.false_eq_true, if_false]
  refine wpAny_bind (wpAny_mono one (fun r s' z => ?_) fun _ _ e => e)
  obtain ⟨v, rfl, hq⟩ := z
  exact wpAny_pure hq
end
section
variable {X : Cx} {C : Addr} {K : PySem.W.Frag}
/-- o.f as a target among others -/
def gFld (K : PySem.W.Frag) (to : TE) (f : Str) : TG := fun v σ H Q => to σ H fun x H1 => ∃ a C dx fs, x = .ref a ∧ H1 a = some (.ins C dx fs) ∧ Cls K C ∧ NoAttr K C f ∧ fs.length < 1000 ∧ Q σ (upd H1 a (.ins C dx (putF f v fs)))
theorem pg_fld {o : Expr} {to : TE} {f : Str} {pos : Pos} (ho : PE X o to) (hk : X.K = K := by rfl) : PG X (.Attribute o f pos) (gFld K to f) := by
  subst hk
  refine ⟨fun pins s σ H v u Q I r h => ?_⟩
  rw [assign_Attribute]
  refine wpAny_bind (wpAny_holding (thn (ho.run pins s σ H _ I h) fun ov s1 ⟨x, H1, I1, r1, a, C, dx, fs, ex, ea, c, n, l, q⟩ => ?_))
  subst ex
  obtain rfl : ov = Value.ref a := r1
  refine wpAny_bind (wpAny_standAt (wpAny_bind (wpAny_holding (setattr_ok I1 ea c n l r fun s2 I2 => ?_))))
  exact wpAny_release ⟨σ, _, I2, q⟩
/-- an instance of the class that a local name holds: cls(..) within a classmethod -/
def tMakeL (i : Nat) (C : Addr) (sp : Sp) (t : TA) : TE := fun σ H Q => σ[i]? = some (some (.ref C)) ∧ t σ H fun vs H1 => ∀ x dx, H1 x = none → H1 dx = none → dx ≠ x →
  sp (.ref x :: vs) (upd (upd H1 dx (.own x)) x (.ins C dx [])) (fun v H2 => v = .non ∧ Q (.ref x) H2) E0
theorem pe_makeL {k i : Nat} {f : Addr} {fd : FuncData} {ps : List Str} {sp : Sp} {x : Str} {p pos : Pos} {e : Expr} {es : List Expr} {t : TA} (M : Mk X.K C f) (F : FnOk X.prog X.w X.K X.mg X.base CX0 k f fd ps sp) (hr : Room (k + 1) X.A) (hN : X.N[i]? = some x) (hv : Vis X.env.scope x) (hb : Binds X.K fd ps [])
    (ha : PA X (e :: es) t) (hdb : (x == ("__debug__" : Str)) = false := by decide) (hcd : (x == ("__classdict__" : Str)) = false := by decide)
    (he : starEach (e :: es) X.env = (false, eval e X.env) :: starEach es X.env := by rfl) (hpl : (backTo pos (starEach es X.env)).any (·.1) = false := by rfl) :
    PE X (.Call (.Name x p) (e :: es) [] pos) (tMakeL i C sp t) := by
  refine ⟨fun pins s σ H Q I h => ?_⟩
  obtain ⟨hs, ht⟩ := h
  refine wpAny_Call_Name_kw (thn ((pe_var (pos := p) hN hv hdb hcd).run pins s σ H (fun v H1 => v = .ref C ∧ H1 = H) I ⟨.ref C, hs, rfl, rfl⟩) fun u s1 ⟨v, H1, I1, r1, q1⟩ => ?_)
  obtain ⟨rfl, rfl⟩ := q1
  cases r1
  refine PySem.W.callWith_K (h₀ := X.base) I.ok.mod.kin M.kp (thn (ha.run pos pins s1 σ _ _ I1 ht) fun us s2 ⟨vs, H2, I2, r, q⟩ => ⟨I2.kIn, ?_⟩) he hpl
  exact run_make M F hr hb .nil pass0 I2 r (by
    intro x dx h1 h2 h3
    have := q x dx h1 h2 h3
    rw [List.append_nil]
    exact this)
end
end Ow
/-! Facts of the text's own classes, told by the head as one Bool. -/
namespace Ow
open PySem PySem.Spec PyProof.Rows L2
/-- o.m(e, ..): the method's promise -/
structure Mth (P : Program) (w : World) (K : PySem.W.Frag) (mg : Str → Option Value) (base : Heap) (k : Nat) (C : Addr) (m : Str) (ps : List Str) (sp : Sp) : Prop where
  ex : ∃ (f : Addr) (fd : FuncData), FnOk P w K mg base CX0 k f fd ps sp ∧ Meth K C m f ∧ Binds K fd ps []
/-- e.m, a property: the getter's promise -/
structure Prp (P : Program) (w : World) (K : PySem.W.Frag) (mg : Str → Option Value) (base : Heap) (k : Nat) (C : Addr) (m : Str) (sp : Sp) : Prop where
  ex : ∃ (p g : Addr) (fd : FuncData), FnOk P w K mg base CX0 k g fd ["self"] sp ∧ PropOf K C m p g ∧ Binds K fd ["self"] []
/-- C.m(e, ..), a classmethod -/
structure Cmt (P : Program) (w : World) (K : PySem.W.Frag) (mg : Str → Option Value) (base : Heap) (k : Nat) (C : Addr) (m : Str) (sp : Sp) : Prop where
  ex : ∃ (p g : Addr), ClX.CMet K C (.type "type") m p g ∧ ClX.CRead K C (.type "type") ∧ FnR P w K mg base CX0 k g sp
/-- C(e, ..): __init__'s promise; n: how many arguments are given, dv: those that fill up -/
structure Mkr (P : Program) (w : World) (K : PySem.W.Frag) (mg : Str → Option Value) (base : Heap) (k : Nat) (x : Str) (C : Addr) (sp : Sp) (dvs : List V) : Prop where
  ex : ∃ (f : Addr) (fd : FuncData) (ps : List Str) (ds : List Value), FnOk P w K mg base CX0 k f fd ps sp ∧ Mk K C f ∧ mg x = some (.ref C) ∧ Binds K fd ps ds ∧ Vals dvs ds
section
variable {X : Cx} {C : Addr} {k : Nat} {m x : Str} {ps : List Str} {sp : Sp} {dvs : List V} {o e : Expr} {es : List Expr} {to ta : TE} {t : TA} {pos apos p : Pos}
def tMth (C : Addr) (m : Str) (sp : Sp) (to : TE) (t : TA) : TE := fun σ H Q => to σ H fun x H1 => ∃ a dx fs, x = .ref a ∧ H1 a = some (.ins C dx fs) ∧ fs.lookup m = none ∧ t σ H1 fun vs H2 => sp (x :: vs) H2 Q E0
theorem e_mth {pl : Sem Bool} (c : Mth X.prog X.w X.K X.mg X.base k C m ps sp) (T : Cls X.K C) (hr : Room k X.A) (ho : PE X o to) (ha : PA X (e :: es) t)
    (hst : starEach (e :: es) X.env = (false, eval e X.env) :: starEach es X.env := by rfl) (hpl : (backTo pos (starEach es X.env)).any (·.1) = false := by rfl)
    (ht : eval (.Call (.Attribute o m apos) (e :: es) [] pos) X.env = (do
      let ov ← eval o X.env
      standAt apos.atName; let (f, first) ← holding [ov] (getMethod ov m pl); callWith pos f first (backTo pos (starEach (e :: es) X.env)) (backToKw pos (keywordEach [] X.env))) := by rfl) :
    PE X (.Call (.Attribute o m apos) (e :: es) [] pos) (tMth C m sp to t) := by
  obtain ⟨f, fd, F, hm, hb⟩ := c.ex
  have h := pe_meth (apos := apos) (pos := pos) (pl := pl) ho T hm F hr hb .nil pass0 ha hst hpl ht
  have e1 : tMeth C m sp [] E0 to t = tMth C m sp to t := by
    funext σ H Q
    show to σ H (fun x H1 => ∃ a dx fs, x = .ref a ∧ H1 a = some (.ins C dx fs) ∧ fs.lookup m = none ∧ t σ H1 fun vs H2 => sp (x :: (vs ++ [])) H2 Q E0) = to σ H (fun x H1 => ∃ a dx fs, x = .ref a ∧ H1 a = some (.ins C dx fs) ∧ fs.lookup m = none ∧ t σ H1 fun vs H2 => sp (x :: vs) H2 Q E0)
    simp only [List.append_nil]
  rw [← e1]
  exact h
def tPrp (C : Addr) (sp : Sp) (ta : TE) : TE := fun σ H Q => ta σ H fun x H1 => ∃ a dx fs, x = .ref a ∧ H1 a = some (.ins C dx fs) ∧ sp [.ref a] H1 Q E0
theorem e_prp (c : Prp X.prog X.w X.K X.mg X.base k C m sp) (T : Cls X.K C) (hr : Room (k + 1) X.A) (he : PE X e ta) (hab : attributeBase e m X.env (eval e X.env) = eval e X.env := by rfl) : PE X (.Attribute e m pos) (tPrp C sp ta) := by
  obtain ⟨p, g, fd, F, hp, hb⟩ := c.ex
  exact pe_prop he T hp F hr hb .nil pass0 hab
def tCmt (C : Addr) (sp : Sp) (ta : TE) (t : TA) : TE := fun σ H Q => ta σ H fun x H1 => x = .ref C ∧ t σ H1 fun vs H2 => sp (.ref C :: vs) H2 Q E0
theorem e_cmt {pl : Sem Bool} (c : Cmt X.prog X.w X.K X.mg X.base k C m sp) (hr : Room k X.A) (ho : PE X o ta) (ha : PA X (e :: es) t)
    (hst : starEach (e :: es) X.env = (false, eval e X.env) :: starEach es X.env := by rfl) (hpl : (backTo pos (starEach es X.env)).any (·.1) = false := by rfl)
    (ht : eval (.Call (.Attribute o m apos) (e :: es) [] pos) X.env = (do
      let ov ← eval o X.env
      standAt apos.atName; let (f, first) ← holding [ov] (getMethod ov m pl); callWith pos f first (backTo pos (starEach (e :: es) X.env)) (backToKw pos (keywordEach [] X.env))) := by rfl) :
    PE X (.Call (.Attribute o m apos) (e :: es) [] pos) (tCmt C sp ta t) := by
  obtain ⟨p, g, hc, hrd, F⟩ := c.ex
  exact ClX.pe_cmeth (pl := pl) ho hrd hc F hr pass0 ha hst hpl ht
def tMkr (C : Addr) (sp : Sp) (dvs : List V) (t : TA) : TE := fun σ H Q => t σ H fun vs H1 => ∀ x dx, H1 x = none → H1 dx = none → dx ≠ x → sp (.ref x :: (vs ++ dvs)) (upd (upd H1 dx (.own x)) x (.ins C dx [])) (fun v H2 => v = .non ∧ Q (.ref x) H2) E0
theorem e_mkr (c : Mkr X.prog X.w X.K X.mg X.base k x C sp dvs) (hr : Room (k + 1) X.A) (hg : Gl X x) (ha : PA X (e :: es) t)
    (hdb : (x == ("__debug__" : Str)) = false := by decide) (he : starEach (e :: es) X.env = (false, eval e X.env) :: starEach es X.env := by rfl) (hpl : (backTo pos (starEach es X.env)).any (·.1) = false := by rfl) :
    PE X (.Call (.Name x p) (e :: es) [] pos) (tMkr C sp dvs t) := by
  obtain ⟨f, fd, ps, ds, F, M, hm, hb, hd⟩ := c.ex
  exact pe_make M F hr hg hm hb hd pass0 ha hdb he hpl
end
section
variable {X : Cx} {K : PySem.W.Frag} {C : Addr} {k : Nat} {nm x : Str} {ps : List Str} {sp : Sp} {e o : Expr} {es : List Expr} {ta : TE} {t : TA} {pos apos p : Pos}
theorem e_fld {f : Str} (he : PE X e ta) (h : X.K = K := by rfl) (hab : attributeBase e f X.env (eval e X.env) = eval e X.env := by rfl) : PE X (.Attribute e f pos) (tFld K ta f) := by
  subst h
  exact pe_fld he hab
theorem g_tup {es : List Expr} {n : Nat} {t : TGs} {j : Nat} (hc : X.calm = true) (h : PGs X es t) (hk : X.K = K := by rfl)
    (hn : (assignEach es X.env).length = n := by rfl) (hst : (assignEach es X.env).findIdx? (·.1) = none := by rfl) : PG X (.Tuple es j pos) (gTup K n t) := by
  subst hk
  exact pg_tup hc h hn hst
/-- cls(e, ..) -/
theorem e_mkl {i : Nat} {y : Str} (c : Mkr X.prog X.w X.K X.mg X.base k x C sp []) (hr : Room (k + 1) X.A) (hN : X.N[i]? = some y) (hv : Vis X.env.scope y) (ha : PA X (e :: es) t)
    (hdb : (y == ("__debug__" : Str)) = false := by decide) (hcd : (y == ("__classdict__" : Str)) = false := by decide)
    (he : starEach (e :: es) X.env = (false, eval e X.env) :: starEach es X.env := by rfl) (hpl : (backTo pos (starEach es X.env)).any (·.1) = false := by rfl) :
    PE X (.Call (.Name y p) (e :: es) [] pos) (tMakeL i C sp t) := by
  obtain ⟨f, fd, ps, ds, F, M, hm, hb, hd⟩ := c.ex
  cases hd
  exact pe_makeL M F hr hN hv hb ha hdb hcd he hpl
theorem q_op2 {op : Operator} (c : Mth X.prog X.w X.K X.mg X.base k C nm ps sp) (hc : PySem.W.selfFirst X.K C = true) (hr : Room k X.A) (hn : PySem.dunder op.info.2 = nm := by decide +kernel) : OpR X (binaryOp op) (rOwn2 C sp) := by
  obtain ⟨f, fd, F, hm, hb⟩ := c.ex
  subst hn
  exact o_own2 F hr hb hc ⟨hm.at_, hm.fn⟩
theorem q_opI {op : Operator} (c : Mth X.prog X.w X.K X.mg X.base k C nm ps sp) (hc : PySem.W.selfFirst X.K C = true) (S : IntSide X.K C op.info.2) (hr : Room k X.A) (hn : PySem.dunder op.info.2 = nm := by decide +kernel) : OpR X (binaryOp op) (rOwnI C sp) := by
  obtain ⟨f, fd, F, hm, hb⟩ := c.ex
  subst hn
  exact o_ownI F hr hb hc ⟨hm.at_, hm.fn⟩ S
theorem q_neg (c : Mth X.prog X.w X.K X.mg X.base k C "__neg__" ps sp) (hr : Room k X.A) : UnR X (unaryOp .USub) (rOwn1 C sp) := by
  obtain ⟨f, fd, F, hm, hb⟩ := c.ex
  exact o_ownNeg F hr hb ⟨hm.at_, hm.fn⟩
theorem q_eq (c : Mth X.prog X.w X.K X.mg X.base k C "__eq__" ps sp) (hr : Room k X.A) : OpR X (compareOp .Eq) (rOwn2 C sp) := by
  obtain ⟨f, fd, F, hm, hb⟩ := c.ex
  exact o_ownEq F hr hb ⟨hm.at_, hm.fn⟩
theorem q_ne (c : Mth X.prog X.w X.K X.mg X.base k C "__eq__" ps sp) (hr : Room (k + 1) X.A) (hn : PySem.W.findIn X.K (.ref C) "__ne__" = some (some (.builtin "object.__ne__"))) (hm : PySem.W.mroIn X.K C (.type "object") = some true) : OpR X (compareOp .NotEq) (rOwnNe C sp) := by
  obtain ⟨f, fd, F, hm2, hb⟩ := c.ex
  exact o_ownNe F hr hb ⟨hm2.at_, hm2.fn⟩ hn hm
theorem cmt_of {P : Program} {w : World} {mg : Str → Option Value} {base : Heap} {g pp : Addr} {fd : FuncData} (F : FnOk P w K mg base CX0 k g fd ps sp) (hb : Binds K fd ps []) (hc : ClX.CMet K C (.type "type") nm pp g) (hr : ClX.CRead K C (.type "type")) : Cmt P w K mg base k C nm sp :=
  ⟨pp, g, hc, hr, (F.raw hb .nil).imp fun vs H Q E h => by rw [List.append_nil]; exact h⟩
/-- // by a great divisor of any sign -/
def CDivWN (_ j : Int) : Prop := j ≠ 0 ∧ j.natAbs.log2 < 9000
theorem op_fdivWN : OpR X (binaryOp .FloorDiv) (rI CDivWN fun i j => .int (i.fdiv j)) := opI fun i j _ _ _ _ _ hc q => floordiv_int hc.1 q (.inl (PyProof.noPylong_of_log2 hc.2))
end
section
variable {σ : L2.St} {H : Hp} {Q : VK} {K : PySem.W.Frag} {C : Addr} {sp : Sp} {ta to : TE} {t : TA} {n b c : L2.St → Hp → Prop} {rt : VK}
theorem y_fld {f : Str} (h : ta σ H fun x H1 => ∃ a C dx fs v, x = .ref a ∧ H1 a = some (.ins C dx fs) ∧ Cls K C ∧ NoAttr K C f ∧ fs.lookup f = some v ∧ Q v H1) : tFld K ta f σ H Q := h
theorem y_prp (h : ta σ H fun x H1 => ∃ a dx fs, x = .ref a ∧ H1 a = some (.ins C dx fs) ∧ sp [.ref a] H1 Q E0) : tPrp C sp ta σ H Q := h
theorem y_mth {m : Str} (h : to σ H fun x H1 => ∃ a dx fs, x = .ref a ∧ H1 a = some (.ins C dx fs) ∧ fs.lookup m = none ∧ t σ H1 fun vs H2 => sp (x :: vs) H2 Q E0) : tMth C m sp to t σ H Q := h
theorem y_cmt (h : ta σ H fun x H1 => x = .ref C ∧ t σ H1 fun vs H2 => sp (.ref C :: vs) H2 Q E0) : tCmt C sp ta t σ H Q := h
theorem y_mkr {dvs : List V} (h : t σ H fun vs H1 => ∀ x dx, H1 x = none → H1 dx = none → dx ≠ x → sp (.ref x :: (vs ++ dvs)) (upd (upd H1 dx (.own x)) x (.ins C dx [])) (fun v H2 => v = .non ∧ Q (.ref x) H2) E0) : tMkr C sp dvs t σ H Q := h
theorem y_mkl {i : Nat} (e : σ[i]? = some (some (.ref C))) (h : t σ H fun vs H1 => ∀ x dx, H1 x = none → H1 dx = none → dx ≠ x → sp (.ref x :: vs) (upd (upd H1 dx (.own x)) x (.ins C dx [])) (fun v H2 => v = .non ∧ Q (.ref x) H2) E0) : tMakeL i C sp t σ H Q := ⟨e, h⟩
theorem y_par {i j : Nat} (h : t σ H fun vs H1 => ∃ v w, vs = [v, w] ∧ n ((σ.set i (some v)).set j (some w)) H1) : tPar i j t ⟨n, rt, b, c⟩ σ H := h
theorem y_par2 {i j : Nat} {v w : V} {R : L2.St → Hp → Prop} (h : R ((σ.set i (some v)).set j (some w)) H) : ∃ v' w', [v, w] = [v', w'] ∧ R ((σ.set i (some v')).set j (some w')) H := ⟨v, w, rfl, h⟩
theorem y_gtup {m : Nat} {g : TGs} {v : V} {R : L2.St → Hp → Prop} {a : Addr} {xs : List V} (e : v = .ref a) (s : SqT K H a xs) (l : xs.length = m) (h : g xs σ H R) : gTup K m g v σ H R := ⟨a, xs, e, s, l, h⟩
theorem y_gcons {g : TG} {u : TGs} {v : V} {vs : List V} {R : L2.St → Hp → Prop} (h : g v σ H fun σ' H' => u vs σ' H' R) : gCons g u (v :: vs) σ H R := ⟨v, vs, rfl, h⟩
theorem y_gnil {R : L2.St → Hp → Prop} (h : R σ H) : gNil [] σ H R := ⟨rfl, h⟩
theorem y_gfld {f : Str} {v : V} {R : L2.St → Hp → Prop} (h : to σ H fun x H1 => ∃ a C dx fs, x = .ref a ∧ H1 a = some (.ins C dx fs) ∧ Cls K C ∧ NoAttr K C f ∧ fs.length < 1000 ∧ R σ (upd H1 a (.ins C dx (putF f v fs)))) : gFld K to f v σ H R := h
theorem y_negI {i : Int} (h : Q (.int (-i)) H) : (∃ j, V.int i = .int j ∧ Q (.int (-j)) H) := ⟨i, rfl, h⟩
theorem y_gcd {i j : Int} (h : Q (.int ((Nat.gcd i.natAbs j.natAbs : Nat) : Int)) H) : rGcd [.int i, .int j] H Q := ⟨i, j, rfl, h⟩
theorem y_rng2 {R : It → Hp → Prop} (h : t σ H fun vs H1 => ∃ i j : Int, vs = [.int i, .int j] ∧ (-(2 ^ 62) ≤ i ∧ i < 2 ^ 62 ∧ -(2 ^ 62) ≤ j ∧ j < 2 ^ 62) ∧ R (Itr i (j - i).toNat) H1) : iRng2 t σ H R := h
theorem y_while {tc : TT} {tb : TS} (h : ∃ W : Nat → L2.St → Hp → Prop, (∃ m, W m σ H) ∧ ∀ m σ H, W m σ H →
  tc σ H fun k H1 => if k = true then ∃ N : L2.St → Hp → Prop, (∀ σ' H', N σ' H' → ∃ m', m' < m ∧ W m' σ' H') ∧ tb ⟨N, rt, n, N⟩ σ H1 else n σ H1) : tWhile tc tb ⟨n, rt, b, c⟩ σ H := h
end
theorem w_rev {X : Cx} {K : PySem.W.Frag} {tg e : Expr} {ta : TA} {p pos : Pos} (hg : Gl X "reversed") (hm : X.mg "reversed" = none) (ha : PA X [e] ta) (h : X.K = K := by rfl) (hs : starEach [e] X.env = [(false, eval e X.env)] := by rfl) : PI X tg (.Call (.Name "reversed" p) [e] [] pos) (iRev K ta) := by
  subst h
  exact pi_reversed hg hm ha hs
theorem y_iRev {σ : L2.St} {H : Hp} {K : PySem.W.Frag} {ta : TA} {R : It → Hp → Prop} (h : ta σ H fun vs H1 => ∃ (a : Addr) (xs : List V), vs = [.ref a] ∧ SqL K H1 a xs ∧ R (Itv K a xs.length) H1) : iRev K ta σ H R := h
theorem e_revL {X : Cx} {K : PySem.W.Frag} {e : Expr} {te : TE} {k : Nat} {p1 p2 p3 pos : Pos} (he : PE X e te) (h : X.K = K := by rfl) : PE X (.Subscript e (.Slice none none (some (.UnaryOp .USub (.Constant (.int 1) k p1) p2)) p3) pos) (tRevL K te) := by
  subst h
  exact pe_revL he
theorem y_revL {σ : L2.St} {H : Hp} {Q : VK} {K : PySem.W.Frag} {te : TE} (h : te σ H fun x H1 => ∃ a xs, x = .ref a ∧ SqL K H1 a xs ∧ ∀ p, H1 p = none → Q (.ref p) (upd H1 p (.lst xs.reverse))) : tRevL K te σ H Q := h
theorem y_forW {J : It} {m : Nat} {G : Hp → Prop} {Y : Nat → Hp → V → Hp → Prop} (w : Walk J m G Y) {g : TG} {t : TS} {n b c : L2.St → Hp → Prop} {rt : VK} {σ : L2.St} {H : Hp} (Pv : Nat → L2.St → Hp → Prop) (h0 : Pv 0 σ H) (hG : ∀ i σ H, i ≤ m → Pv i σ H → G H)
    (hs : ∀ i x σ H H', i < m → Pv i σ H → Y i H x H' → g x σ H' fun σ2 H2 => t ⟨Pv (i + 1), rt, n, Pv (i + 1)⟩ σ2 H2) (hd : ∀ σ H, Pv m σ H → n σ H) :
    ∃ W : Nat → Nat → L2.St → Hp → Prop, (∃ m, W 0 m σ H) ∧ ∀ i k σ H, W i k σ H →
      (J.stop i H ∧ n σ H) ∨ (J.go i H ∧ ∃ N : L2.St → Hp → Prop, (∀ σ' H', N σ' H' → ∃ m', m' < k ∧ W (i + 1) m' σ' H') ∧ ∀ x H', J.yld i H x H' → g x σ H' fun σ2 H2 => t ⟨N, rt, n, N⟩ σ2 H2) :=
  for_it (D := ⟨n, rt, b, c⟩) w Pv h0 hG hs hd
end Ow
/-! str, bool, abs of own objects; == with values of other types. -/
namespace Ow
open PySem PySem.Spec PyProof.Rows L2
section
variable {X : Cx} {k : Nat} {C f : Addr} {fd : FuncData} {ps : List Str} {sp : Sp}
/-- a built-in's argument: one instance, whose special method gives what R says -/
def rOwnT (C : Addr) (sp : Sp) (R : V → Prop) : List V → Hp → VK → Prop := fun xs H Q => ∃ a dx fs, xs = [.ref a] ∧ H a = some (.ins C dx fs) ∧ sp [.ref a] H (fun v H' => R v ∧ Q v H') E0
def isTxt (v : V) : Prop := ∃ x, v = .str x
def isTru (v : V) : Prop := ∃ x, v = .bl x
theorem k_strO (F : FnOk X.prog X.w X.K X.mg X.base CX0 k f fd ps sp) (hr : Room (k + 2) X.A) (hb : Binds X.K fd ps []) (M : Spc X.K C "__str__" f) : CallR X (.type "str") (rOwnT C sp isTxt) := by
  intro pins s σ H xs us Q I r h
  obtain ⟨a, dx, fs, rfl, ha, hs⟩ := h
  obtain ⟨u, rfl, rx⟩ := vals1 r
  cases rx
  obtain ⟨ox, od, J⟩ := inst_at I ha
  refine PySem.W.kso_call (hr.in1.in1.units0) I.kIn J M.at_ M.fn ?_
  refine wpAny_mono (run_sub (vs := [.ref a]) F (sub_here hr).in1.in1 hb pass0 I (.cons rfl .nil) hs) (fun v s' hv => ?_) fun _ _ e => e
  obtain ⟨z, H', I', rz, ⟨x, rfl⟩, q⟩ := hv
  obtain ⟨t, rfl⟩ := (show ∃ t, v = Value.str x t from rz)
  exact ⟨.str x, H', I', ⟨t, rfl⟩, q⟩
theorem k_boolO (F : FnOk X.prog X.w X.K X.mg X.base CX0 k f fd ps sp) (hr : Room (k + 2) X.A) (hb : Binds X.K fd ps []) (M : Spc X.K C "__bool__" f) : CallR X (.type "bool") (rOwnT C sp isTru) := by
  intro pins s σ H xs us Q I r h
  obtain ⟨a, dx, fs, rfl, ha, hs⟩ := h
  obtain ⟨u, rfl, rx⟩ := vals1 r
  cases rx
  obtain ⟨ox, od, J⟩ := inst_at I ha
  obtain ⟨m, hF⟩ := I.fr
  have tru : wpAny (model X.prog X.w) X.A.in1.in1 (truthy (.ref a)) (fun b s' => EP X pins σ Q (.bool b) s') X.xe s := by
    refine PySem.W.truthy_K hF I.ok.mod.kin J M.at_ M.fn ?_
    refine wpAny_mono (run_sub (vs := [.ref a]) F (sub_here hr).in1.in1 hb pass0 I (.cons rfl .nil) hs) (fun v s' hv => ?_) fun _ _ e => e
    obtain ⟨z, H', I', rz, ⟨x, rfl⟩, q⟩ := hv
    cases (show v = Value.bool x from rz)
    exact ⟨.bl x, H', I', rfl, q⟩
  refine PySem.callType_codes (T := "bool") (Bi := Builtin.«object.__init__») (Q₁ := fun r s₁ => ∃ b, r = .bool b ∧ EP X pins σ Q r s₁) PySem.F.called_bool (PySem.F.typeCall_bool_1 _) PySem.F.entry_object_init ?_ ?_
  · refine codeAny_of_tree ?_
    show wpAny _ _ (do checkBuiltinCall "bool.__new__" ⟨[.type "bool", .ref a], []⟩; again (.builtin "bool.__new__" ⟨[.type "bool", .ref a], []⟩)) _ _ s
    refine wpAny_bind (wpAny_of_eq (PySem.F.newCall_bool_1 _) (wpAny_pure ⟨plainId_quiet (by decide +kernel) _, codeAny_builtin PySem.F.entry_bool_new ?_⟩))
    rw [Around.under_plainId (by decide +kernel) _]
    have f1 := PySem.F.conv_sub_bool
    have fin : ∀ b s', EP X pins σ Q (.bool b) s' → (fun r s₁ => ∃ b, r = Value.bool b ∧ EP X pins σ Q r s₁) (.bool b) s' := fun b s' h => ⟨b, rfl, h⟩
    unfold Builtin.«bool.__new__»
    obtain ⟨hp, g, d, tk, os⟩ := s
    repeat (any_goals (first | assumption | (with_reducible refine wpAny_mono tru (fun b s' h => ?_) (fun _ _ e => e)) | wp_step))
    all_goals first | exact ⟨_, rfl, h⟩ | skip
  · rintro obj s₁ ⟨b, rfl, hq⟩
    exact ⟨rfl, PySem.F.args_object_init_2 _ _, object_init_meets PySem.F.called_bool.init.lookup PySem.F.called_bool.made (by decide +kernel) X.prog X.w X.A.in1 _ s₁ ⟨rfl, rfl, hq⟩⟩
theorem k_absO (F : FnOk X.prog X.w X.K X.mg X.base CX0 k f fd ps sp) (hr : Room (k + 1) X.A) (hb : Binds X.K fd ps []) (M : Spc X.K C "__abs__" f) : CallR X (.builtin "abs") (fun xs H Q => ∃ a dx fs, xs = [.ref a] ∧ H a = some (.ins C dx fs) ∧ sp [.ref a] H Q E0) := by
  intro pins s σ H xs us Q I r h
  obtain ⟨a, dx, fs, rfl, ha, hs⟩ := h
  obtain ⟨u, rfl, rx⟩ := vals1 r
  cases rx
  obtain ⟨ox, od, J⟩ := inst_at I ha
  refine PySem.Calls.call_function_entry kind_abs plain_abs entry_abs (args_abs _) ?_
  unfold Builtin.«abs»
  refine wpAny_bind (m := oneArg "abs" _) (wpAny_pure ?_)
  refine wpAny_bind (m := callSpecial? (.ref a) (Str.ofString "__abs__")) (PySem.W.special_fn I.kIn J M.at_ (beq_iff_eq.mp M.fn) (wpAny_mono (run_sub (vs := [.ref a]) F (sub_here hr).in1 hb pass0 I (.cons rfl .nil) hs) (fun v s' hv => ?_) fun _ _ e => e))
  exact wpAny_pure ⟨_, rfl, hv⟩
/-- x == y, y of another type, which is not first -/
def rOwnEqX (K : PySem.W.Frag) (C : Addr) (sp : Sp) : R2 := fun x y H Q => ∃ a dx fs t, x = .ref a ∧ H a = some (.ins C dx fs) ∧ TyX K H y t ∧ PySem.W.notFirst K C t = true ∧ sp [.ref a, y] H Q E0
theorem k_eqX (F : FnOk X.prog X.w X.K X.mg X.base CX0 k f fd ps sp) (hr : Room k X.A) (hb : Binds X.K fd ps []) (M : Spc X.K C "__eq__" f) : OpR X (compareOp .Eq) (rOwnEqX X.K C sp) := by
  intro pins s σ H x y v u Q I rx ry h
  obtain ⟨a, dx, fs, t, rfl, ha, ty, nf, hs⟩ := h
  cases rx
  obtain ⟨ox, od, J⟩ := inst_at I ha
  obtain ⟨m, hF⟩ := I.fr
  obtain ⟨P, kx, hp, _⟩ := kit_of I ry ty
  show wpAny _ _ (richCompare .Eq (.ref a) u) _ _ _
  refine PySem.W.cmp_K (op := .Eq) (tb := t) hr.units0 hF I.ok.mod.kin J (kx.ty _ _ I.kIn hp) nf M.at_ M.fn ?_
  refine wpAny_mono (run_sub (vs := [.ref a, y]) F (sub_here hr) hb pass0 I (.cons rfl (.cons ry .nil)) hs) (fun v s' hv => ?_) fun _ _ e => e
  obtain ⟨z, H', I', rz, q⟩ := hv
  exact back_of rz ⟨z, H', I', rz, q⟩
end
end Ow
/-! Fractions: the mathematics of lowest terms, what a Ratio looks like, the promises. -/
namespace Ow
open PySem PySem.Spec PyProof.Rows L2
/-! ### lowest terms -/
def gI (t b : Int) : Int := (Nat.gcd t.natAbs b.natAbs : Nat)
def lowT (t b : Int) : Int := t.fdiv (if b < 0 then -gI t b else gI t b)
def lowB (t b : Int) : Int := b.fdiv (if b < 0 then -gI t b else gI t b)
def low (t b : Int) : Int × Int := (lowT t b, lowB t b)
theorem gI_pos {t b : Int} (h : b ≠ 0) : 0 < gI t b := by
  unfold gI
  have : 0 < Nat.gcd t.natAbs b.natAbs := Nat.gcd_pos_of_pos_right _ (by omega)
  omega
theorem gI_le {t b : Int} (h : b ≠ 0) : (gI t b).natAbs ≤ b.natAbs := by
  unfold gI
  have : Nat.gcd t.natAbs b.natAbs ≤ b.natAbs := Nat.gcd_le_right _ (by omega)
  omega
theorem gI_dvd_t {t b : Int} : gI t b ∣ t := Int.ofNat_dvd_left.mpr (Nat.gcd_dvd_left _ _)
theorem gI_dvd_b {t b : Int} : gI t b ∣ b := Int.ofNat_dvd_left.mpr (Nat.gcd_dvd_right _ _)
/-- t and b are the lowest terms times one number -/
theorem low_ex {t b : Int} (h : b ≠ 0) : ∃ c : Int, c ≠ 0 ∧ t = c * lowT t b ∧ b = c * lowB t b ∧ (0 < c ↔ 0 < b) ∧ c.natAbs = Nat.gcd t.natAbs b.natAbs := by
  have hg := gI_pos (t := t) h
  obtain ⟨u, hu⟩ := gI_dvd_t (t := t) (b := b)
  obtain ⟨v, hv⟩ := gI_dvd_b (t := t) (b := b)
  have hn : (gI t b).natAbs = Nat.gcd t.natAbs b.natAbs := by unfold gI; exact Int.natAbs_natCast _
  by_cases hb : b < 0
  · refine ⟨-gI t b, by omega, ?_, ?_, by omega, by rw [Int.natAbs_neg]; exact hn⟩
    · unfold lowT
      rw [if_pos hb]
      rw [Int.mul_fdiv_cancel' ]
      exact Int.neg_dvd.mpr gI_dvd_t
    · unfold lowB
      rw [if_pos hb]
      rw [Int.mul_fdiv_cancel' ]
      exact Int.neg_dvd.mpr gI_dvd_b
  · refine ⟨gI t b, by omega, ?_, ?_, by omega, hn⟩
    · unfold lowT
      rw [if_neg hb, Int.mul_fdiv_cancel' gI_dvd_t]
    · unfold lowB
      rw [if_neg hb, Int.mul_fdiv_cancel' gI_dvd_b]
/-- a fraction in lowest terms -/
def Low (p : Int × Int) : Prop := 0 < p.2 ∧ Nat.gcd p.1.natAbs p.2.natAbs = 1
theorem low_low {t b : Int} (h : b ≠ 0) : Low (low t b) := by
  obtain ⟨c, hc, ht, hb, hp, hn⟩ := low_ex (t := t) h
  have hB : 0 < lowB t b := by
    rcases Int.lt_trichotomy (lowB t b) 0 with q | q | q
    · exfalso
      rcases Int.lt_trichotomy c 0 with z | z | z
      · have := Int.mul_pos_of_neg_of_neg z q
        omega
      · exact hc z
      · have := Int.mul_neg_of_pos_of_neg z q
        omega
    · rw [q, Int.mul_zero] at hb
      exact absurd hb h
    · exact q
  refine ⟨hB, ?_⟩
  have e1 : t.natAbs = c.natAbs * (lowT t b).natAbs := by rw [← Int.natAbs_mul, ← ht]
  have e2 : b.natAbs = c.natAbs * (lowB t b).natAbs := by rw [← Int.natAbs_mul, ← hb]
  have hc2 : 0 < c.natAbs := by omega
  have e3 : c.natAbs * Nat.gcd (lowT t b).natAbs (lowB t b).natAbs = c.natAbs * 1 := by
    rw [← Nat.gcd_mul_left, ← e1, ← e2, hn, Nat.mul_one]
  exact Nat.eq_of_mul_eq_mul_left hc2 e3
theorem low_fix {p : Int × Int} (h : Low p) : low p.1 p.2 = p := by
  obtain ⟨h1, h2⟩ := h
  have e : gI p.1 p.2 = 1 := by unfold gI; rw [h2]; rfl
  unfold low lowT lowB
  rw [e, if_neg (by omega), Int.fdiv_one, Int.fdiv_one]
theorem low_le {t b : Int} (h : b ≠ 0) : (lowT t b).natAbs ≤ t.natAbs ∧ (lowB t b).natAbs ≤ b.natAbs := by
  obtain ⟨c, hc, ht, hb, hp, hn⟩ := low_ex (t := t) h
  have hc2 : 0 < c.natAbs := by omega
  have e1 : t.natAbs = c.natAbs * (lowT t b).natAbs := by rw [← Int.natAbs_mul, ← ht]
  have e2 : b.natAbs = c.natAbs * (lowB t b).natAbs := by rw [← Int.natAbs_mul, ← hb]
  exact ⟨by rw [e1]; exact Nat.le_mul_of_pos_left _ hc2, by rw [e2]; exact Nat.le_mul_of_pos_left _ hc2⟩
/-! ### lengths -/
def LONG : Int := 10 ^ 300
def okI (i : Int) : Bool := if decide (-(10 ^ 300) < i) = true then decide (i < 10 ^ 300) else false
theorem okI_iff {i : Int} : okI i = true ↔ i.natAbs < 10 ^ 300 := by
  unfold okI
  have e : ((10 : Int) ^ 300) = ((10 ^ 300 : Nat) : Int) := by rw [Int.natCast_pow]; rfl
  rw [e]
  constructor
  · intro h
    split at h
    · rename_i h1
      have h1 := of_decide_eq_true h1
      have h2 := of_decide_eq_true h
      omega
    · cases h
  · intro h
    have h1 : -((10 ^ 300 : Nat) : Int) < i := by omega
    have h2 : i < ((10 ^ 300 : Nat) : Int) := by omega
    rw [decide_eq_true h1, decide_eq_true h2]
    rfl
theorem okI_nat {i : Int} (h : okI i = true) : i.natAbs < 2 ^ 1000 := Nat.lt_trans (okI_iff.mp h) (by decide +kernel)
theorem okI_mono {i j : Int} (h : okI i = true) (l : j.natAbs ≤ i.natAbs) : okI j = true := okI_iff.mpr (Nat.lt_of_le_of_lt l (okI_iff.mp h))
theorem okI_small {i : Int} (h : i.natAbs ≤ 2 ^ 64) : okI i = true := okI_iff.mpr (Nat.lt_of_le_of_lt h (by decide +kernel))
theorem mulW {i j : Int} (hi : i.natAbs < 2 ^ 4000) (hj : j.natAbs < 2 ^ 4000) : CMulW i j := wide_mul hi hj (by decide) (by decide) (by decide)
theorem mul_lt {i j : Int} {a b : Nat} (hi : i.natAbs < 2 ^ a) (hj : j.natAbs < 2 ^ b) : (i * j).natAbs < 2 ^ (a + b) := wide_lt hi hj
theorem up_lt {i : Int} {a b : Nat} (h : i.natAbs < 2 ^ a) (l : a ≤ b) : i.natAbs < 2 ^ b := Nat.lt_of_lt_of_le h (Nat.pow_le_pow_right (by decide) l)
theorem add_lt {i j : Int} {a : Nat} (hi : i.natAbs < 2 ^ a) (hj : j.natAbs < 2 ^ a) : (i + j).natAbs < 2 ^ (a + 1) := by
  rw [Nat.pow_succ]
  omega
theorem sub_lt {i j : Int} {a : Nat} (hi : i.natAbs < 2 ^ a) (hj : j.natAbs < 2 ^ a) : (i - j).natAbs < 2 ^ (a + 1) := by
  rw [Nat.pow_succ]
  omega
theorem divWN {t b : Int} (h : b ≠ 0) (hb : b.natAbs < 2 ^ 4000) {i : Int} : CDivWN i (if b < 0 then -gI t b else gI t b) := by
  have hg := gI_pos (t := t) h
  have hl := gI_le (t := t) h
  refine ⟨by split <;> omega, ?_⟩
  have e : (if b < 0 then -gI t b else gI t b).natAbs = (gI t b).natAbs := by split <;> simp
  rw [e]
  exact Nat.lt_of_lt_of_le (PySem.Flt.log2_lt_of (show 0 < 4000 by decide) (Nat.lt_of_le_of_lt hl hb)) (by decide)
/-! ### what a Ratio looks like -/
def rf (p : Int × Int) : List (Str × V) := [("_top", .int p.1), ("_bottom", .int p.2)]
theorem ktb : (("_bottom" : Str) == ("_top" : Str)) = false := by decide +kernel
theorem ktt : (("_top" : Str) == ("_top" : Str)) = true := by decide +kernel
theorem kbb : (("_bottom" : Str) == ("_bottom" : Str)) = true := by decide +kernel
theorem rf_t (p : Int × Int) : (rf p).lookup ("_top" : Str) = some (V.int p.1) := by simp [rf, List.lookup, ktt]
theorem rf_b (p : Int × Int) : (rf p).lookup ("_bottom" : Str) = some (V.int p.2) := by simp [rf, List.lookup, ktb, kbb]
theorem rf_no {m : Str} (h1 : (m == ("_top" : Str)) = false) (h2 : (m == ("_bottom" : Str)) = false) (p : Int × Int) : (rf p).lookup m = none := by simp [rf, List.lookup, h1, h2]
theorem rf_put (p : Int × Int) : putF "_bottom" (.int p.2) (putF "_top" (.int p.1) []) = rf p := by
  show (if ("_top" : Str) = "_bottom" then _ else (("_top" : Str), V.int p.1) :: putF "_bottom" (V.int p.2) []) = _
  rw [if_neg (by decide +kernel)]
  rfl
def RAt (H : Hp) (C x : Addr) (p : Int × Int) : Prop := ∃ dx, H x = some (.ins C dx (rf p))
theorem RAt.same {H H' : Hp} {C x : Addr} {p : Int × Int} (s : Same H H') (h : RAt H C x p) : RAt H' C x p := let ⟨dx, h⟩ := h; ⟨dx, s _ _ h⟩
theorem RAt.fr {H H' : Hp} {C x d : Addr} {p : Int × Int} (s : Fr d H H') (n : x ≠ d) (h : RAt H C x p) : RAt H' C x p := let ⟨dx, h⟩ := h; ⟨dx, s _ _ h n⟩
/-- a fraction that a Ratio holds -/
structure Fine (p : Int × Int) : Prop where
  t : okI p.1 = true
  b : okI p.2 = true
  l : Low p
/-- an operand: a Ratio, or an int -/
def Opn (H : Hp) (C : Addr) (v : V) (q : Int × Int) : Prop := (∃ x, v = .ref x ∧ RAt H C x q) ∨ ∃ i, v = .int i ∧ q = (i, 1)
/-- what the head tells of the class -/
structure RatioC (K : PySem.W.Frag) (mg : Str → Option Value) (C : Addr) : Prop where
  cls : Cls K C
  nT : NoAttr K C "_top"
  nB : NoAttr K C "_bottom"
  g : mg "Ratio" = some (.ref C)
  first : PySem.W.selfFirst K C = true
  ne : PySem.W.findIn K (.ref C) "__ne__" = some (some (.builtin "object.__ne__"))
  obj : PySem.W.mroIn K C (.type "object") = some true
  rd : ClX.CRead K C (.type "type")
  cl : PySem.W.findIn K (.ref C) "__class__" = some (some (.builtin "object.__class__"))
  cg : PySem.W.specialIn K (.builtin "object.__class__") "__get__" = some (some (.builtin "getset_descriptor.__get__"))
  ct : PySem.W.takesIn K (.builtin "object.__class__") = some true
  ki : PySem.W.kitOne K (.type "int") (.ref C) = some false
  kt : PySem.W.kitOne K (.type "tuple") (.ref C) = some false
  gcd : mg "gcd" = some (.builtin "math.gcd")
theorem RatioC.ty {K : PySem.W.Frag} {mg : Str → Option Value} {C x : Addr} {H : Hp} {p : Int × Int} (T : RatioC K mg C) (h : RAt H C x p) : TyX K H (.ref x) (.ref C) := let ⟨_, h⟩ := h; .base (.ins h T.cls T.cl T.cg T.ct T.obj)
theorem kit_self {K : PySem.W.Frag} {v : Value} : PySem.W.kitOne K v v = some true := by
  unfold PySem.W.kitOne
  rw [if_pos (by simp)]
theorem y_isC {H : Hp} {Q : VK} {K : PySem.W.Frag} {x : V} {t : Value} {C : Addr} {k : Bool} (ty : TyX K H x t) (e : PySem.W.kitOne K t (.ref C) = some k) (h : Q (.bl k) H) : rIsi K [x, .ref C] H Q := ⟨x, .ref C, t, .ref C, k, rfl, .own C, ty, e, h⟩
theorem y_top {H : Hp} {K : PySem.W.Frag} {mg : Str → Option Value} {C x : Addr} {p : Int × Int} {Q : VK} (T : RatioC K mg C) (h : RAt H C x p) (q : Q (.int p.1) H) : ∃ a C dx fs v, V.ref x = .ref a ∧ H a = some (.ins C dx fs) ∧ Cls K C ∧ NoAttr K C "_top" ∧ fs.lookup ("_top" : Str) = some v ∧ Q v H :=
  let ⟨dx, h⟩ := h; ⟨x, C, dx, rf p, .int p.1, rfl, h, T.cls, T.nT, rf_t p, q⟩
theorem y_bot {H : Hp} {K : PySem.W.Frag} {mg : Str → Option Value} {C x : Addr} {p : Int × Int} {Q : VK} (T : RatioC K mg C) (h : RAt H C x p) (q : Q (.int p.2) H) : ∃ a C dx fs v, V.ref x = .ref a ∧ H a = some (.ins C dx fs) ∧ Cls K C ∧ NoAttr K C "_bottom" ∧ fs.lookup ("_bottom" : Str) = some v ∧ Q v H :=
  let ⟨dx, h⟩ := h; ⟨x, C, dx, rf p, .int p.2, rfl, h, T.cls, T.nB, rf_b p, q⟩
/-! ### promises -/
/-- a new tuple of two ints -/
def New2 (H : Hp) (p : Int × Int) (Q : VK) : Prop := ∀ a H', H a = none → H' a = some (.tup [.int p.1, .int p.2]) → Same H H' → Q (.ref a) H'
/-- a new Ratio -/
def NewR (H : Hp) (C : Addr) (p : Int × Int) (Q : VK) : Prop := ∀ a H', H a = none → RAt H' C a p → Same H H' → Q (.ref a) H'
def spIsInt : Sp := fun vs H Q _ => ∃ i : Int, vs = [.int i] ∧ Q (.bl (okI i)) H
def fracB (p : Int × Int) : Bool := okI p.1 && okI p.2 && decide (1 ≤ p.2) && decide (Nat.gcd p.1.natAbs p.2.natAbs = 1)
def spIsFrac (K : PySem.W.Frag) : Sp := fun vs H Q _ => ∃ (a : Addr) (p : Int × Int), vs = [.ref a] ∧ H a = some (.tup [.int p.1, .int p.2]) ∧ Q (.bl (fracB p)) H
def spLowest : Sp := fun vs H Q _ => ∃ t b : Int, vs = [.int t, .int b] ∧ b ≠ 0 ∧ t.natAbs < 2 ^ 4000 ∧ b.natAbs < 2 ^ 4000 ∧ New2 H (low t b) Q
def spShort : Sp := fun vs H Q _ => ∃ (a : Addr) (p : Int × Int), vs = [.ref a] ∧ H a = some (.tup [.int p.1, .int p.2]) ∧ okI p.1 = true ∧ okI p.2 = true ∧ Q (.ref a) H
def spInit (C : Addr) : Sp := fun vs H Q _ => ∃ (x dx : Addr) (t b : Int), vs = [.ref x, .int t, .int b] ∧ H x = some (.ins C dx []) ∧ okI t = true ∧ okI b = true ∧ b ≠ 0 ∧
  ∀ H', RAt H' C x (low t b) → (∀ c o, H c = some o → c ≠ x → H' c = some o) → Q .non H'
def spRatio (C : Addr) : Sp := fun vs H Q _ => ∃ t b : Int, vs = [.int t, .int b] ∧ b ≠ 0 ∧ t.natAbs < 2 ^ 4000 ∧ b.natAbs < 2 ^ 4000 ∧ okI (lowT t b) = true ∧ okI (lowB t b) = true ∧ NewR H C (low t b) Q
def spOper (C : Addr) : Sp := fun vs H Q _ => ∃ (v : V) (q : Int × Int), vs = [v] ∧ Opn H C v q ∧ okI q.1 = true ∧ New2 H q Q
def spPair (C : Addr) : Sp := fun vs H Q _ => ∃ (x : Addr) (p : Int × Int), vs = [.ref x] ∧ RAt H C x p ∧ New2 H p Q
def spTop (C : Addr) : Sp := fun vs H Q _ => ∃ (x : Addr) (p : Int × Int), vs = [.ref x] ∧ RAt H C x p ∧ Q (.int p.1) H
def spBot (C : Addr) : Sp := fun vs H Q _ => ∃ (x : Addr) (p : Int × Int), vs = [.ref x] ∧ RAt H C x p ∧ Q (.int p.2) H
def addP (p q : Int × Int) : Int × Int := low (p.1 * q.2 + q.1 * p.2) (p.2 * q.2)
def spAdd (C : Addr) : Sp := fun vs H Q _ => ∃ (x : Addr) (v : V) (p q : Int × Int), vs = [.ref x, v] ∧ RAt H C x p ∧ Fine p ∧ Opn H C v q ∧ Fine q ∧ okI (addP p q).1 = true ∧ okI (addP p q).2 = true ∧ NewR H C (addP p q) Q
def negP (p : Int × Int) : Int × Int := (-p.1, p.2)
def spNeg (C : Addr) : Sp := fun vs H Q _ => ∃ (x : Addr) (p : Int × Int), vs = [.ref x] ∧ RAt H C x p ∧ Fine p ∧ NewR H C (negP p) Q
def spEqR (C : Addr) : Sp := fun vs H Q _ => ∃ (x y : Addr) (p q : Int × Int), vs = [.ref x, .ref y] ∧ RAt H C x p ∧ RAt H C y q ∧ Q (.bl (decide (p = q))) H
def lessP (p q : Int × Int) : Bool := decide (p.1 * q.2 < q.1 * p.2)
def spBelow (C : Addr) : Sp := fun vs H Q _ => ∃ (x : Addr) (v : V) (p q : Int × Int), vs = [.ref x, v] ∧ RAt H C x p ∧ Fine p ∧ Opn H C v q ∧ Fine q ∧ ∀ H', Same H H' → Q (.bl (lessP p q)) H'
def spOf (C : Addr) : Sp := fun vs H Q _ => ∃ (a : Addr) (p : Int × Int), vs = [.ref C, .ref a] ∧ H a = some (.tup [.int p.1, .int p.2]) ∧ Fine p ∧ NewR H C p Q
/-! ### the laws' own fractions -/
theorem lowT_eq {t b : Int} (h : b ≠ 0) : ((if b < 0 then -1 else 1) * t) / gI t b = lowT t b := by
  obtain ⟨c, hc, ht, hb, hp, hn⟩ := low_ex (t := t) h
  have hg := gI_pos (t := t) h
  have e : (if b < 0 then -1 else 1) * c = gI t b := by
    have : (gI t b) = (c.natAbs : Int) := by unfold gI; rw [hn]
    rw [this]
    split <;> omega
  have e2 : (if b < 0 then -1 else 1) * t = gI t b * lowT t b := by
    rw [← e, Int.mul_assoc, ← ht]
  rw [e2, Int.mul_ediv_cancel_left _ (by omega)]
theorem lowB_eq {t b : Int} (h : b ≠ 0) : ((if b < 0 then -1 else 1) * b) / gI t b = lowB t b := by
  obtain ⟨c, hc, ht, hb, hp, hn⟩ := low_ex (t := t) h
  have hg := gI_pos (t := t) h
  have e : (if b < 0 then -1 else 1) * c = gI t b := by
    have : (gI t b) = (c.natAbs : Int) := by unfold gI; rw [hn]
    rw [this]
    split <;> omega
  have e2 : (if b < 0 then -1 else 1) * b = gI t b * lowB t b := by
    rw [← e, Int.mul_assoc, ← hb]
  rw [e2, Int.mul_ediv_cancel_left _ (by omega)]
def spLRatio : Sp := fun vs H Q _ => ∃ t b : Int, vs = [.int t, .int b] ∧ b ≠ 0 ∧ t.natAbs < 2 ^ 4000 ∧ b.natAbs < 2 ^ 4000 ∧ New2 H (low t b) Q
def spLPlus (K : PySem.W.Frag) : Sp := fun vs H Q _ => ∃ (a b : Addr) (p q : Int × Int), vs = [.ref a, .ref b] ∧ SqT K H a [.int p.1, .int p.2] ∧ SqT K H b [.int q.1, .int q.2] ∧ Fine p ∧ Fine q ∧ New2 H (addP p q) Q
/-- the small fractions that the laws draw -/
def fracs : List (Int × Int) := ((List.range 13).map fun (i : Nat) => ((i : Int) - 6)).flatMap fun t => [1, 2, 3, 4, 5, 6].map fun b => low t b
def spLFrac : Sp := fun vs H Q _ => ∃ d, vs = [.ref d] ∧ DiceAt H d ∧ ∀ (p : Int × Int) (a : Addr) (H' : Hp), p ∈ fracs → H a = none → H' a = some (.tup [.int p.1, .int p.2]) → DiceAt H' d → Fr d H H' → Q (.ref a) H'
theorem fracs_mem {t b : Int} (h0 : -6 ≤ t) (h1 : t ≤ 6) (hb : b ∈ [1, 2, 3, 4, 5, (6 : Int)]) : low t b ∈ fracs := by
  unfold fracs
  refine List.mem_flatMap.mpr ⟨t, List.mem_map.mpr ⟨(t + 6).toNat, List.mem_range.mpr (by omega), by omega⟩, List.mem_map.mpr ⟨b, hb, rfl⟩⟩
def smallP (p : Int × Int) : Bool := decide (p.1.natAbs ≤ 2 ^ 60) && decide (p.2.natAbs ≤ 2 ^ 60) && decide (0 < p.2) && decide (Nat.gcd p.1.natAbs p.2.natAbs = 1)
theorem fine_small {p : Int × Int} (h : smallP p = true) : Fine p := by
  unfold smallP at h
  simp only [Bool.and_eq_true, decide_eq_true_eq] at h
  exact ⟨okI_small (by omega), okI_small (by omega), h.1.2, h.2⟩
theorem fracs_small : ∀ p ∈ fracs, smallP p = true := by decide +kernel
/-! ### a sorted list of pairs -/
theorem c_sortP {X : Cx} {K : PySem.W.Frag} (h : X.K = K := by rfl) : CallR X (.builtin "sorted") (rSortedPO K) := h ▸ cr_sortedPO
/-- the pair that stands at a reference -/
def keyAt (H : Hp) (v : V) : Int × Int := match v with
  | .ref t => (match H t with
    | some (.tup [.int i, .int j]) => (i, j)
    | _ => (0, 0))
  | _ => (0, 0)
theorem keyAt_of {H : Hp} {t : Addr} {i j : Int} (h : H t = some (.tup [.int i, .int j])) : keyAt H (.ref t) = (i, j) := by
  unfold keyAt
  simp only [h]
def spLaw (K : PySem.W.Frag) : Sp := fun vs H Q _ => ∃ (a : Addr) (ns : List Int), vs = [.ref a] ∧ SqL K H a (ns.map V.int) ∧ ns.length ≤ 63 ∧ ∀ H', Q (.bl true) H'
/-- behind C(..): all that stood stands -/
theorem ini_same {H H2 : Hp} {x dx : Addr} {o : HO} {u : HO} (n1 : H x = none) (n2 : H dx = none) (n3 : dx ≠ x) (c : ∀ c o', (upd (upd H dx u) x o) c = some o' → c ≠ x → H2 c = some o') : Same H H2 := fun b o' h => by
  have nb : b ≠ x := fun e => by
    rw [e, n1] at h
    cases h
  have nd : b ≠ dx := fun e => by
    rw [e, n2] at h
    cases h
  exact c b o' (by rw [upd_ne nb, upd_ne nd]; exact h) nb
/-! ### facts that the head tells as truth values -/
theorem ex_at {l : List Bool} {n : Nat} {b : Bool} (h : l = List.replicate n true) (i' : Nat) (e : l[i']? = some b) : b = true := by
  rw [h] at e
  exact (List.eq_of_mem_replicate (List.mem_of_getElem? e))
def propB (K : PySem.W.Frag) (C : Addr) (m : Str) : Bool := decide (PySem.W.findIn K (.ref C) m = some (some (.ref (He.ma K C m)))) && (decide (PySem.W.specialIn K (.ref (He.ma K C m)) "__get__" = some (some (.builtin "property.__get__"))) && (decide (PySem.W.takesIn K (.ref (He.ma K C m)) = some true) && (match PySem.W.recIn K (He.ma K C m) "property" with
    | some (.ref _ :: _) => true
    | _ => false)))
theorem propB_ok {K : PySem.W.Frag} {C : Addr} {m : Str} (h : propB K C m = true) : PropOf K C m (He.ma K C m) (He5.wf K C "property" m) := by
  obtain ⟨h1, h⟩ := He.ba h
  obtain ⟨h2, h⟩ := He.ba h
  obtain ⟨h3, h4⟩ := He.ba h
  refine ⟨of_decide_eq_true h1, of_decide_eq_true h2, of_decide_eq_true h3, ?_⟩
  unfold He5.wf
  split at h4
  · rename_i g r e
    exact ⟨r, by rw [e]⟩
  · cases h4
end Ow
/-! Fractions: what reckoning keeps, more promises. -/
namespace Ow
open PySem PySem.Spec PyProof.Rows L2
/-! ### lowest terms of multiples -/
theorem div_mul {c x y : Int} (hc : c ≠ 0) (hy : y ≠ 0) : (if c * y < 0 then -gI (c * x) (c * y) else gI (c * x) (c * y)) = c * (if y < 0 then -gI x y else gI x y) := by
  have e : gI (c * x) (c * y) = (c.natAbs : Int) * gI x y := by
    unfold gI
    rw [Int.natAbs_mul, Int.natAbs_mul, Nat.gcd_mul_left, Int.natCast_mul]
  rw [e]
  rcases Int.lt_or_gt_of_ne hc with h | h <;> rcases Int.lt_or_gt_of_ne hy with g | g
  · have p := Int.mul_pos_of_neg_of_neg h g
    have a : (c.natAbs : Int) = -c := by omega
    rw [if_neg (by omega), if_pos g, a, Int.neg_mul, Int.mul_neg]
  · have p := Int.mul_neg_of_neg_of_pos h g
    have a : (c.natAbs : Int) = -c := by omega
    rw [if_pos p, if_neg (by omega), a, Int.neg_mul, Int.neg_neg]
  · have p := Int.mul_neg_of_pos_of_neg h g
    have a : (c.natAbs : Int) = c := by omega
    rw [if_pos p, if_pos g, a, Int.mul_neg]
  · have p := Int.mul_pos h g
    have a : (c.natAbs : Int) = c := by omega
    rw [if_neg (by omega), if_neg (by omega), a]
theorem low_mul {c x y : Int} (hc : c ≠ 0) (hy : y ≠ 0) : low (c * x) (c * y) = low x y := by
  have hd : (if y < 0 then -gI x y else gI x y) ≠ 0 := by
    have := gI_pos (t := x) hy
    split <;> omega
  have hcd : c * (if y < 0 then -gI x y else gI x y) ≠ 0 := Int.mul_ne_zero hc hd
  obtain ⟨u, hu⟩ : (if y < 0 then -gI x y else gI x y) ∣ x := by
    split
    · exact Int.neg_dvd.mpr gI_dvd_t
    · exact gI_dvd_t
  obtain ⟨v, hv⟩ : (if y < 0 then -gI x y else gI x y) ∣ y := by
    split
    · exact Int.neg_dvd.mpr gI_dvd_b
    · exact gI_dvd_b
  unfold low lowT lowB
  rw [div_mul hc hy]
  generalize (if y < 0 then -gI x y else gI x y) = D at *
  subst hu
  subst hv
  rw [← Int.mul_assoc, ← Int.mul_assoc, Int.mul_fdiv_cancel_left _ hcd, Int.mul_fdiv_cancel_left _ hcd, Int.mul_fdiv_cancel_left _ hd, Int.mul_fdiv_cancel_left _ hd]
theorem low_of {t b u v : Int} (hb : b ≠ 0) (hv : v ≠ 0) (h : t * v = u * b) : low t b = low u v := by
  rw [← low_mul (x := t) hv hb, ← low_mul (x := u) hb hv, Int.mul_comm v t, h, Int.mul_comm u b, Int.mul_comm v b]
def subP (p q : Int × Int) : Int × Int := low (p.1 * q.2 - q.1 * p.2) (p.2 * q.2)
def mulP (p q : Int × Int) : Int × Int := low (p.1 * q.1) (p.2 * q.2)
def overP (p q : Int × Int) : Int × Int := low (p.1 * q.2) (p.2 * q.1)
def absP (p : Int × Int) : Int × Int := ((p.1.natAbs : Int), p.2)
section
variable {t b : Int} {p q r : Int × Int}
theorem sub_low (hb : b ≠ 0) (hq : q.2 ≠ 0) : subP (low t b) q = low (t * q.2 - q.1 * b) (b * q.2) := by
  obtain ⟨c, hc, h1, h2, _, _⟩ := low_ex (t := t) hb
  have hB : lowB t b ≠ 0 := fun e => hb (by rw [h2, e, Int.mul_zero])
  have e : low (t * q.2 - q.1 * b) (b * q.2) = low (c * (lowT t b * q.2 - q.1 * lowB t b)) (c * (lowB t b * q.2)) := by
    congr 1
    · conv => lhs; rw [h1, h2]
      grind
    · conv => lhs; rw [h2]
      grind
  rw [e, low_mul hc (Int.mul_ne_zero hB hq)]
  rfl
theorem add_low (hb : b ≠ 0) (hq : q.2 ≠ 0) : addP (low t b) q = low (t * q.2 + q.1 * b) (b * q.2) := by
  obtain ⟨c, hc, h1, h2, _, _⟩ := low_ex (t := t) hb
  have hB : lowB t b ≠ 0 := fun e => hb (by rw [h2, e, Int.mul_zero])
  have e : low (t * q.2 + q.1 * b) (b * q.2) = low (c * (lowT t b * q.2 + q.1 * lowB t b)) (c * (lowB t b * q.2)) := by
    congr 1
    · conv => lhs; rw [h1, h2]
      grind
    · conv => lhs; rw [h2]
      grind
  rw [e, low_mul hc (Int.mul_ne_zero hB hq)]
  rfl
theorem mul_low (hb : b ≠ 0) (hq : q.2 ≠ 0) : mulP (low t b) q = low (t * q.1) (b * q.2) := by
  obtain ⟨c, hc, h1, h2, _, _⟩ := low_ex (t := t) hb
  have hB : lowB t b ≠ 0 := fun e => hb (by rw [h2, e, Int.mul_zero])
  have e : low (t * q.1) (b * q.2) = low (c * (lowT t b * q.1)) (c * (lowB t b * q.2)) := by
    congr 1
    · conv => lhs; rw [h1]
      grind
    · conv => lhs; rw [h2]
      grind
  rw [e, low_mul hc (Int.mul_ne_zero hB hq)]
  rfl
theorem over_low (hb : b ≠ 0) (hq : q.1 ≠ 0) : overP (low t b) q = low (t * q.2) (b * q.1) := by
  obtain ⟨c, hc, h1, h2, _, _⟩ := low_ex (t := t) hb
  have hB : lowB t b ≠ 0 := fun e => hb (by rw [h2, e, Int.mul_zero])
  have e : low (t * q.2) (b * q.1) = low (c * (lowT t b * q.2)) (c * (lowB t b * q.1)) := by
    congr 1
    · conv => lhs; rw [h1]
      grind
    · conv => lhs; rw [h2]
      grind
  rw [e, low_mul hc (Int.mul_ne_zero hB hq)]
  rfl
theorem add_comm' : addP p q = addP q p := by
  unfold addP
  rw [Int.add_comm, Int.mul_comm p.2 q.2]
theorem mul_comm' : mulP p q = mulP q p := by
  unfold mulP
  rw [Int.mul_comm p.1 q.1, Int.mul_comm p.2 q.2]
theorem nz (h : Low p) : p.2 ≠ 0 := Int.ne_of_gt h.1
theorem add_sub (hp : Low p) (hq : Low q) : subP (addP p q) q = p := by
  have h1 := nz hp
  have h2 := nz hq
  unfold addP
  rw [sub_low (Int.mul_ne_zero h1 h2) h2, low_of (Int.mul_ne_zero (Int.mul_ne_zero h1 h2) h2) h1 (u := p.1) (by grind), low_fix hp]
theorem sub_self' (hp : Low p) : subP p p = (0, 1) := by
  have h1 := nz hp
  unfold subP
  rw [low_of (Int.mul_ne_zero h1 h1) (show (1 : Int) ≠ 0 by decide) (u := 0) (by grind)]
  decide
theorem mul_over (hp : Low p) (hq : Low q) (h0 : q.1 ≠ 0) : overP (mulP p q) q = p := by
  have h1 := nz hp
  have h2 := nz hq
  unfold mulP
  rw [over_low (Int.mul_ne_zero h1 h2) h0, low_of (Int.mul_ne_zero (Int.mul_ne_zero h1 h2) h0) h1 (u := p.1) (by grind), low_fix hp]
theorem mul_add' (hp : Low p) (hq : Low q) (hr : Low r) : mulP p (addP q r) = addP (mulP p q) (mulP p r) := by
  have h1 := nz hp
  have h2 := nz hq
  have h3 := nz hr
  have hm : (mulP p r).2 ≠ 0 := nz (low_low (Int.mul_ne_zero h1 h3))
  rw [mul_comm']
  unfold addP
  rw [mul_low (Int.mul_ne_zero h2 h3) h1]
  show _ = addP (mulP p q) (mulP p r)
  rw [show mulP p q = low (p.1 * q.1) (p.2 * q.2) from rfl, add_low (Int.mul_ne_zero h1 h2) hm]
  have e : low ((p.1 * q.1) * (mulP p r).2 + (mulP p r).1 * (p.2 * q.2)) ((p.2 * q.2) * (mulP p r).2) = addP (mulP p r) (p.1 * q.1, p.2 * q.2) := by
    unfold addP
    congr 1
    · grind
    · grind
  rw [e, show mulP p r = low (p.1 * r.1) (p.2 * r.2) from rfl, add_low (Int.mul_ne_zero h1 h3) (Int.mul_ne_zero h1 h2)]
  exact low_of (Int.mul_ne_zero (Int.mul_ne_zero h2 h3) h1) (Int.mul_ne_zero (Int.mul_ne_zero h1 h3) (Int.mul_ne_zero h1 h2)) (by grind)
end
/-- powers by multiplying, before lowest terms -/
def pw (p : Int × Int) : Nat → Int × Int
  | 0 => (1, 1)
  | n + 1 => ((pw p n).1 * p.1, (pw p n).2 * p.2)
theorem pw_nz {p : Int × Int} (h : p.2 ≠ 0) : ∀ n, (pw p n).2 ≠ 0
  | 0 => by show (1 : Int) ≠ 0; decide
  | n + 1 => Int.mul_ne_zero (pw_nz h n) h
theorem pw_nz1 {p : Int × Int} (h : p.1 ≠ 0) : ∀ n, (pw p n).1 ≠ 0
  | 0 => by show (1 : Int) ≠ 0; decide
  | n + 1 => Int.mul_ne_zero (pw_nz1 h n) h
theorem pw_mul {p : Int × Int} (h : p.2 ≠ 0) (n : Nat) : mulP (low (pw p n).1 (pw p n).2) p = low (pw p (n + 1)).1 (pw p (n + 1)).2 := mul_low (pw_nz h n) h
theorem pw_over {p : Int × Int} (h : p.1 ≠ 0) (n : Nat) : overP (low (pw p n).2 (pw p n).1) p = low (pw p (n + 1)).2 (pw p (n + 1)).1 := over_low (pw_nz1 h n) h
/-- digits -/
def Bd (n : Nat) (p : Int × Int) : Prop := p.1.natAbs < 2 ^ n ∧ p.2.natAbs < 2 ^ n
theorem Bd.up {n m : Nat} {p : Int × Int} (h : Bd n p) (l : n ≤ m) : Bd m p := ⟨up_lt h.1 l, up_lt h.2 l⟩
theorem bd_low {n : Nat} {t b : Int} (h0 : b ≠ 0) (h : Bd n (t, b)) : Bd n (low t b) := ⟨Nat.lt_of_le_of_lt (low_le h0).1 h.1, Nat.lt_of_le_of_lt (low_le h0).2 h.2⟩
theorem okI_bd {i : Int} {n : Nat} (h : i.natAbs < 2 ^ n) (l : n ≤ 990) : okI i = true := okI_iff.mpr (Nat.lt_of_lt_of_le (up_lt h l) (by decide +kernel))
theorem Bd.ok {n : Nat} {p : Int × Int} (h : Bd n p) (l : n ≤ 990) : okI p.1 = true ∧ okI p.2 = true := ⟨okI_bd h.1 l, okI_bd h.2 l⟩
theorem Bd.fine {n : Nat} {p : Int × Int} (h : Bd n p) (l : n ≤ 990) (L : Low p) : Fine p := ⟨(h.ok l).1, (h.ok l).2, L⟩
section
variable {n m : Nat} {p q : Int × Int}
theorem bd_add (hp : Bd n p) (hq : Bd m q) (lp : Low p) (lq : Low q) : Bd (n + m + 1) (addP p q) ∧ Low (addP p q) := by
  have h := Int.mul_ne_zero (nz lp) (nz lq)
  have x := mul_lt hq.1 hp.2
  rw [Nat.add_comm m n] at x
  exact ⟨bd_low h ⟨add_lt (mul_lt hp.1 hq.2) x, up_lt (mul_lt hp.2 hq.2) (by omega)⟩, low_low h⟩
theorem bd_sub (hp : Bd n p) (hq : Bd m q) (lp : Low p) (lq : Low q) : Bd (n + m + 1) (subP p q) ∧ Low (subP p q) := by
  have h := Int.mul_ne_zero (nz lp) (nz lq)
  have x := mul_lt hq.1 hp.2
  rw [Nat.add_comm m n] at x
  exact ⟨bd_low h ⟨sub_lt (mul_lt hp.1 hq.2) x, up_lt (mul_lt hp.2 hq.2) (by omega)⟩, low_low h⟩
theorem bd_mul (hp : Bd n p) (hq : Bd m q) (lp : Low p) (lq : Low q) : Bd (n + m) (mulP p q) ∧ Low (mulP p q) := by
  have h := Int.mul_ne_zero (nz lp) (nz lq)
  exact ⟨bd_low h ⟨mul_lt hp.1 hq.1, mul_lt hp.2 hq.2⟩, low_low h⟩
theorem bd_over (hp : Bd n p) (hq : Bd m q) (lp : Low p) (h0 : q.1 ≠ 0) : Bd (n + m) (overP p q) ∧ Low (overP p q) := by
  have h := Int.mul_ne_zero (nz lp) h0
  exact ⟨bd_low h ⟨mul_lt hp.1 hq.2, mul_lt hp.2 hq.1⟩, low_low h⟩
theorem bd_pw (hp : Bd n p) : ∀ k, Bd (n * k + 1) (pw p k)
  | 0 => ⟨by show Int.natAbs 1 < 2 ^ (0 + 1); decide, by show Int.natAbs 1 < 2 ^ (0 + 1); decide⟩
  | k + 1 => by
    have h := bd_pw hp k
    have e : n * (k + 1) + 1 = n * k + 1 + n := by rw [Nat.mul_succ]; omega
    rw [e]
    exact ⟨mul_lt h.1 hp.1, mul_lt h.2 hp.2⟩
end
/-! ### texts -/
def tI (i : Int) : Str := (toString i : String)
def txt (p : Int × Int) : Str := if p.2 = 1 then tI p.1 else tI p.1 ++ "/" ++ tI p.2
theorem tI_len {i : Int} (h : okI i = true) : (tI i).length ≤ 301 := by
  have e := int_text_length_le10 (k := 300) (by decide) (okI_iff.mp h)
  unfold tI
  show (Str.ofString _).length ≤ _
  rw [PySem.ofString_length]
  exact e
theorem tI_log {i : Int} (h : okI i = true) : i.natAbs.log2 < 1920 := PySem.Flt.log2_lt_of (by decide) (Nat.lt_trans (okI_nat h) (by decide))
theorem strOk_iff {x : Str} : PyData.strOk x = true ↔ ∀ c ∈ x.cps.toList, c < 0x110000 := by
  unfold PyData.strOk
  rw [← Array.all_toList, List.all_eq_true]
  exact ⟨fun h c m => of_decide_eq_true (h c m), fun h c m => decide_eq_true (h c m)⟩
theorem tI_ok (i : Int) : PyData.strOk (tI i) = true := strOk_iff.mpr fun c m => by
  apply Decidable.byContradiction
  intro h
  exact int_text_free' c ⟨by omega, by omega⟩ i m
theorem ok_app {x y : Str} (h : PyData.strOk x = true) (g : PyData.strOk y = true) : PyData.strOk (x ++ y) = true := strOk_iff.mpr fun c m => by
  rw [Str.cps_append, Array.toList_append] at m
  rcases List.mem_append.mp m with m | m
  · exact strOk_iff.mp h c m
  · exact strOk_iff.mp g c m
theorem txt_ok (p : Int × Int) : PyData.strOk (txt p) = true := by
  unfold txt
  split
  · exact tI_ok _
  · exact ok_app (ok_app (tI_ok _) (by decide +kernel)) (tI_ok _)
/-! ### promises -/
def powP (p : Int × Int) (e : Int) : Int × Int := if e < 0 then low (pw p e.natAbs).2 (pw p e.natAbs).1 else low (pw p e.natAbs).1 (pw p e.natAbs).2
def sgn (i : Int) : Int := if i < 0 then -1 else if 0 < i then 1 else 0
def spSign (C : Addr) : Sp := fun vs H Q _ => ∃ (x : Addr) (p : Int × Int), vs = [.ref x] ∧ RAt H C x p ∧ Q (.int (sgn p.1)) H
def spWhole (C : Addr) : Sp := fun vs H Q _ => ∃ (x : Addr) (p : Int × Int), vs = [.ref x] ∧ RAt H C x p ∧ Fine p ∧ Q (.int (p.1 / p.2)) H
def spTextOf : Sp := fun vs H Q _ => ∃ (a : Addr) (p : Int × Int), vs = [.ref a] ∧ H a = some (.tup [.int p.1, .int p.2]) ∧ okI p.1 = true ∧ okI p.2 = true ∧ Q (.str (txt p)) H
def spText (C : Addr) : Sp := fun vs H Q _ => ∃ (x : Addr) (p : Int × Int), vs = [.ref x] ∧ RAt H C x p ∧ Fine p ∧ ∀ H', Same H H' → Q (.str (txt p)) H'
def spBool (C : Addr) : Sp := fun vs H Q _ => ∃ (x : Addr) (p : Int × Int), vs = [.ref x] ∧ RAt H C x p ∧ Q (.bl (p.1 != 0)) H
def spSub (C : Addr) : Sp := fun vs H Q _ => ∃ (x : Addr) (v : V) (p q : Int × Int), vs = [.ref x, v] ∧ RAt H C x p ∧ Fine p ∧ Opn H C v q ∧ Fine q ∧ okI (subP p q).1 = true ∧ okI (subP p q).2 = true ∧ NewR H C (subP p q) Q
def spMul (C : Addr) : Sp := fun vs H Q _ => ∃ (x : Addr) (v : V) (p q : Int × Int), vs = [.ref x, v] ∧ RAt H C x p ∧ Fine p ∧ Opn H C v q ∧ Fine q ∧ okI (mulP p q).1 = true ∧ okI (mulP p q).2 = true ∧ NewR H C (mulP p q) Q
def spDiv (C : Addr) : Sp := fun vs H Q _ => ∃ (x : Addr) (v : V) (p q : Int × Int), vs = [.ref x, v] ∧ RAt H C x p ∧ Fine p ∧ Opn H C v q ∧ Fine q ∧ q.1 ≠ 0 ∧ okI (overP p q).1 = true ∧ okI (overP p q).2 = true ∧ NewR H C (overP p q) Q
def spAbs (C : Addr) : Sp := fun vs H Q _ => ∃ (x : Addr) (p : Int × Int), vs = [.ref x] ∧ RAt H C x p ∧ Fine p ∧ NewR H C (absP p) Q
def spEqX (K : PySem.W.Frag) (C : Addr) : Sp := fun vs H Q _ => ∃ (x : Addr) (v : V) (p : Int × Int), vs = [.ref x, v] ∧ RAt H C x p ∧ ((∃ y q, v = .ref y ∧ RAt H C y q ∧ Q (.bl (decide (p = q))) H) ∨ ∃ t, TyX K H v t ∧ PySem.W.kitOne K t (.ref C) = some false ∧ Q (.bl false) H)
def spPow (C : Addr) : Sp := fun vs H Q _ => ∃ (x : Addr) (p : Int × Int) (e : Int), vs = [.ref x, .int e] ∧ RAt H C x p ∧ Low p ∧ Bd 140 p ∧ e.natAbs ≤ 3 ∧ (e < 0 → p.1 ≠ 0) ∧ NewR H C (powP p e) Q
def spLMinus (K : PySem.W.Frag) : Sp := fun vs H Q _ => ∃ (a b : Addr) (p q : Int × Int), vs = [.ref a, .ref b] ∧ SqT K H a [.int p.1, .int p.2] ∧ SqT K H b [.int q.1, .int q.2] ∧ Fine p ∧ Fine q ∧ New2 H (subP p q) Q
def spLTimes (K : PySem.W.Frag) : Sp := fun vs H Q _ => ∃ (a b : Addr) (p q : Int × Int), vs = [.ref a, .ref b] ∧ SqT K H a [.int p.1, .int p.2] ∧ SqT K H b [.int q.1, .int q.2] ∧ Fine p ∧ Fine q ∧ New2 H (mulP p q) Q
def spLOver (K : PySem.W.Frag) : Sp := fun vs H Q _ => ∃ (a b : Addr) (p q : Int × Int), vs = [.ref a, .ref b] ∧ SqT K H a [.int p.1, .int p.2] ∧ SqT K H b [.int q.1, .int q.2] ∧ Fine p ∧ Fine q ∧ q.1 ≠ 0 ∧ New2 H (overP p q) Q
def spLLess (K : PySem.W.Frag) : Sp := fun vs H Q _ => ∃ (a b : Addr) (p q : Int × Int), vs = [.ref a, .ref b] ∧ SqT K H a [.int p.1, .int p.2] ∧ SqT K H b [.int q.1, .int q.2] ∧ Fine p ∧ Fine q ∧ Q (.bl (lessP p q)) H
def spLText (K : PySem.W.Frag) : Sp := fun vs H Q _ => ∃ (a : Addr) (p : Int × Int), vs = [.ref a] ∧ SqT K H a [.int p.1, .int p.2] ∧ Fine p ∧ Q (.str (txt p)) H
def spLPow (K : PySem.W.Frag) : Sp := fun vs H Q _ => ∃ (a : Addr) (p : Int × Int) (e : Int), vs = [.ref a, .int e] ∧ H a = some (.tup [.int p.1, .int p.2]) ∧ Low p ∧ Bd 140 p ∧ e.natAbs ≤ 3 ∧ (e < 0 → p.1 ≠ 0) ∧ New2 H (powP p e) Q
def spLGreat : Sp := fun vs H Q _ => ∃ d, vs = [.ref d] ∧ DiceAt H d ∧ ∀ (p : Int × Int) (a : Addr) (H' : Hp), Low p → Bd 140 p → H a = none → H' a = some (.tup [.int p.1, .int p.2]) → DiceAt H' d → Fr d H H' → Q (.ref a) H'
def spLTold (C : Addr) : Sp := fun vs H Q _ => ∃ (x a : Addr) (p : Int × Int), vs = [.ref x, .ref a] ∧ RAt H C x p ∧ H a = some (.tup [.int p.1, .int p.2]) ∧ Fine p ∧ ∀ H', Same H H' → Q (.bl true) H'
def spLRight : Sp := fun vs H Q _ => ∃ d, vs = [.ref d] ∧ DiceAt H d ∧ ∀ H', DiceAt H' d → Fr d H H' → Q (.bl true) H'
theorem fracs_fine {p : Int × Int} (h : p ∈ fracs) : Low p ∧ Bd 140 p := by
  have a : (fracs.all fun p => decide (0 < p.2) && (decide (Nat.gcd p.1.natAbs p.2.natAbs = 1) && (decide (p.1.natAbs < 100) && decide (p.2.natAbs < 100)))) = true := by decide +kernel
  have a := List.all_eq_true.mp a p h
  simp only [Bool.and_eq_true, decide_eq_true_eq] at a
  exact ⟨⟨a.1, a.2.1⟩, Nat.lt_trans a.2.2.1 (by decide), Nat.lt_trans a.2.2.2 (by decide)⟩
theorem low_abs {p : Int × Int} (h : Low p) : low (p.1.natAbs : Int) p.2 = absP p := low_fix (p := absP p) ⟨h.1, h.2⟩
theorem q_str {X : Cx} {k : Nat} {C : Addr} {ps : List Str} {sp : Sp} (c : Mth X.prog X.w X.K X.mg X.base k C "__str__" ps sp) (hr : Room (k + 2) X.A) : CallR X (.type "str") (rOwnT C sp isTxt) := by
  obtain ⟨f, fd, F, hm, hb⟩ := c.ex
  exact k_strO F hr hb ⟨hm.at_, hm.fn⟩
theorem q_bool {X : Cx} {k : Nat} {C : Addr} {ps : List Str} {sp : Sp} (c : Mth X.prog X.w X.K X.mg X.base k C "__bool__" ps sp) (hr : Room (k + 2) X.A) : CallR X (.type "bool") (rOwnT C sp isTru) := by
  obtain ⟨f, fd, F, hm, hb⟩ := c.ex
  exact k_boolO F hr hb ⟨hm.at_, hm.fn⟩
def rOwnA (C : Addr) (sp : Sp) : List V → Hp → VK → Prop := fun xs H Q => ∃ a dx fs, xs = [.ref a] ∧ H a = some (.ins C dx fs) ∧ sp [.ref a] H Q E0
theorem q_abs {X : Cx} {k : Nat} {C : Addr} {ps : List Str} {sp : Sp} (c : Mth X.prog X.w X.K X.mg X.base k C "__abs__" ps sp) (hr : Room (k + 1) X.A) : CallR X (.builtin "abs") (rOwnA C sp) := by
  obtain ⟨f, fd, F, hm, hb⟩ := c.ex
  exact k_absO F hr hb ⟨hm.at_, hm.fn⟩
theorem q_eqX {X : Cx} {K : PySem.W.Frag} {k : Nat} {C : Addr} {ps : List Str} {sp : Sp} (c : Mth X.prog X.w X.K X.mg X.base k C "__eq__" ps sp) (hr : Room k X.A) (h : X.K = K := by rfl) : OpR X (compareOp .Eq) (rOwnEqX K C sp) := by
  subst h
  obtain ⟨f, fd, F, hm, hb⟩ := c.ex
  exact k_eqX F hr hb ⟨hm.at_, hm.fn⟩
theorem y_absI {i : Int} {H : Hp} {Q : VK} (h : Q (.int (i.natAbs : Int)) H) : rAbs [.int i] H Q := y_abs h
theorem y_neB {i j : Bool} {H : Hp} {Q : VK} (h : Q (.bl (!decide (i = j))) H) : rNe (.bl i) (.bl j) H Q := ⟨rfl, by
  have e : decide (V.bl i = V.bl j) = decide (i = j) := by
    rw [decide_eq_decide]
    exact ⟨fun z => V.bl.inj z, fun z => by rw [z]⟩
  rw [e]
  exact h⟩
theorem dice_neT {H : Hp} {d a : Addr} {xs : List V} (hD : DiceAt H d) (h : H a = some (.tup xs)) : a ≠ d := fun e => by
  obtain ⟨_, _, _, hd⟩ := hD
  rw [e, hd] at h
  cases h
theorem dice_neR {H : Hp} {d a C : Addr} {p : Int × Int} (hD : DiceAt H d) (h : RAt H C a p) : a ≠ d := fun e => by
  obtain ⟨_, _, _, hd⟩ := hD
  obtain ⟨dx, h⟩ := h
  rw [e, hd] at h
  cases h
def tq (t : Int × Int) : PyData := .tuple [.int t.1, .int t.2]
theorem tp {K : PySem.W.Frag} {H : Hp} {a : Addr} {p : Int × Int} (h : H a = some (.tup [.int p.1, .int p.2])) : Dp K H (.ref a) (tq p) := .tup (sqt h) (.cons (.int _) (.cons (.int _) .nil))
theorem dp_pairs {K : PySem.W.Frag} {H : Hp} : ∀ (rs : List Addr) (ps : List (Int × Int)), rs.length = ps.length → (∀ (m : Nat) (r : Addr), rs[m]? = some r → ∃ t, ps[m]? = some t ∧ H r = some (.tup [.int t.1, .int t.2])) → DpAll K H (rs.map V.ref) (ps.map tq)
  | [], [], _, _ => .nil
  | [], _ :: _, h, _ => by cases h
  | _ :: _, [], h, _ => by cases h
  | r :: rs, t :: ts, h, g => by
    obtain ⟨t', e, h'⟩ := g 0 r rfl
    cases Option.some.inj (show some t = some t' from e)
    exact .cons (tp h') (dp_pairs rs ts (Nat.succ.inj h) fun m r hm => g (m + 1) r hm)
theorem eqvT (t : Int × Int) : PyData.eqv (tq t) (tq t) = true := PySem.SeqAt.eqv_refl _ rfl
theorem shT (t : Int × Int) : SeqAt.shaped (tq t) = true := rfl
theorem neg_bd {n : Nat} {p : Int × Int} (h : Bd n p) (l : Low p) : Bd n (negP p) ∧ Low (negP p) :=
  ⟨⟨by show (-p.1).natAbs < _; rw [Int.natAbs_neg]; exact h.1, h.2⟩, l.1, by show Nat.gcd (-p.1).natAbs _ = 1; rw [Int.natAbs_neg]; exact l.2⟩
theorem low_int (n : Int) : Low (n, 1) := ⟨by show (0 : Int) < 1; decide, Nat.gcd_one_right _⟩
theorem bd_int {n : Int} (h : n.natAbs ≤ 4) : Bd 3 (n, 1) := ⟨by show n.natAbs < 2 ^ 3; omega, by show Int.natAbs 1 < 2 ^ 3; decide⟩
theorem nsd {α : Type} [DecidableEq α] {a b : α} (h : a = b) : (!decide (a = b)) = false := by rw [decide_eq_true h]; rfl
theorem less_self (p : Int × Int) : lessP p p = false := decide_eq_false (Int.lt_irrefl _)
theorem sml_fine5 {p : Int × Int} (h : (decide (0 < p.2) && (decide (Nat.gcd p.1.natAbs p.2.natAbs = 1) && (decide (p.1.natAbs ≤ 10000) && decide (p.2.natAbs ≤ 10000)))) = true) : Fine p := by
  simp only [Bool.and_eq_true, decide_eq_true_eq] at h
  exact ⟨okI_small (by omega), okI_small (by omega), h.1, h.2.1⟩
end Ow

namespace K05
open PySem PySem.Spec PyProof.Rows L2 Ow 
local macro_rules | `(tactic| walk_at "y1") => `(tactic| with_reducible first | refine y_seq ?_ | refine y_asg ?_ | refine y_name ?_ | refine y_con ?_ | refine y_op ?_ | refine y_un ?_ | refine y_cons ?_ | refine y_nil ?_ | refine y_cb ?_ | refine y_fn ?_ | refine y_I0 ?_ | refine y_ret ?_ | refine y_drop ?_ | refine y_ifs ?_ | refine y_test ?_ | refine y_bl ?_ | refine y_not ?_ | refine y_and ?_ | refine y_or ?_ | refine y_if ?_ | refine y_chain ?_ | refine y_andV ?_ | refine y_orV ?_ | refine y_yes ?_ | refine y_lst ?_ | refine y_tup ?_ | refine y_intI ?_ | refine y_intB ?_ | refine y_abs ?_ | refine y_max2 ?_ | refine y_min2 ?_ | refine y_eqI ?_ | refine y_neI ?_ | refine y_eqS ?_ | refine y_neS ?_ | refine y_reprB ?_ | refine y_sub ?_ | refine y_bm ?_ | refine y_m1 ?_ | refine y_lc ?_ | refine y_for ?_ | refine y_rng1 ?_ | refine y_iStr ?_ | refine y_iList ?_ | refine y_next ?_ | refine y_B ?_ | refine y_rU ?_ | refine y_fld ?_ | refine y_prp ?_ | refine y_mth ?_ | refine y_mkr ?_ | refine y_par ?_ | refine y_par2 ?_ | refine y_gcons ?_ | refine y_gnil ?_ | refine y_gfld ?_ | refine y_gcd ?_ | refine y_rng2 ?_ | refine y_iRev ?_ | refine y_revL ?_ | refine y_ef ?_ | refine y_iTup ?_ | refine y_sl ?_ | refine y_iZipA ?_ | refine y_noP ?_ | refine y_prt ?_)
local macro_rules | `(tactic| walk_at "yy") => `(tactic| repeat (first | walk_at "y1" | ((with_reducible refine y_var2 ?_); refine ⟨_, rfl, ?_⟩)))
local macro_rules | `(tactic| walk_at "yi") => `(tactic| first
  | refine y_I (show CMul _ _ from .inl ⟨by decide, by decide⟩) ?_ | refine y_I (show CMul _ _ from .inl ⟨by omega, by omega⟩) ?_ | refine y_I (show CMul _ _ from .inr ⟨by omega, by omega⟩) ?_
  | refine y_I (show (0 : Int) < _ by decide) ?_ | refine y_I (show (0 : Int) < _ by omega) ?_ | refine y_I (show CPowW _ _ from ⟨by decide, by decide +kernel⟩) ?_ | refine y_I (show (0 : Int) < _ by decide +kernel) ?_ | refine y_I (big_div (by decide) (by decide)) ?_)
local macro_rules | `(tactic| walk_at "yt") => `(tactic| (with_reducible refine y_t ?_ ?_; · decide))
local macro_rules | `(tactic| walk_at "yf") => `(tactic| (with_reducible refine y_f ?_ ?_; · decide))
def top (i : Nat) : Stmt := PySem.Challenge.pw_wonbyturns_k05_whole_ratios_reckoned.main.body.getD i (.Pass ⟨0, 0, 0, 0⟩)
abbrev s_wall : Stmt := top 1
abbrev s_ParseError___init__ : Stmt := inClass (top 6) 0
abbrev s_TooMany___init__ : Stmt := inClass (top 7) 0
abbrev s_is_integer : Stmt := top 11
abbrev s_is_fraction : Stmt := top 12
abbrev s_lowest : Stmt := top 14
abbrev s_short : Stmt := top 15
abbrev s_text_of : Stmt := top 16
abbrev s_pair_read : Stmt := top 17
abbrev s_are_digits : Stmt := top 18
abbrev s_Ratio___init__ : Stmt := inClass (top 21) 0
abbrev s_Ratio_of : Stmt := inClass (top 21) 1
abbrev s_Ratio_read : Stmt := inClass (top 21) 2
abbrev s_Ratio_top : Stmt := inClass (top 21) 3
abbrev s_Ratio_bottom : Stmt := inClass (top 21) 4
abbrev s_Ratio_pair : Stmt := inClass (top 21) 5
abbrev s_Ratio_text : Stmt := inClass (top 21) 6
abbrev s_Ratio_sign : Stmt := inClass (top 21) 7
abbrev s_Ratio_whole : Stmt := inClass (top 21) 8
abbrev s_Ratio___add__ : Stmt := inClass (top 21) 9
abbrev s_Ratio___sub__ : Stmt := inClass (top 21) 10
abbrev s_Ratio___mul__ : Stmt := inClass (top 21) 11
abbrev s_Ratio___neg__ : Stmt := inClass (top 21) 12
abbrev s_Ratio___abs__ : Stmt := inClass (top 21) 13
abbrev s_Ratio___bool__ : Stmt := inClass (top 21) 14
abbrev s_Ratio___eq__ : Stmt := inClass (top 21) 15
abbrev s_Ratio___str__ : Stmt := inClass (top 21) 16
abbrev s_Ratio_divided : Stmt := inClass (top 21) 17
abbrev s_Ratio_power : Stmt := inClass (top 21) 18
abbrev s_Ratio_is_below : Stmt := inClass (top 21) 19
abbrev s_Ratio_between : Stmt := inClass (top 21) 20
abbrev s_ratio : Stmt := top 22
abbrev s_operand : Stmt := top 23
abbrev s_law_dice : Stmt := top 25
abbrev s_law_roll : Stmt := top 26
abbrev s_law_pick : Stmt := top 27
abbrev s_law_ratio : Stmt := top 28
abbrev s_law_plus : Stmt := top 29
abbrev s_law_minus : Stmt := top 30
abbrev s_law_times : Stmt := top 31
abbrev s_law_less : Stmt := top 32
abbrev s_law_fraction : Stmt := top 33
abbrev s_law_text : Stmt := top 34
abbrev s_law_great : Stmt := top 35
abbrev s_law_over : Stmt := top 36
abbrev s_law_told_right : Stmt := top 37
abbrev s_law_power : Stmt := top 38
abbrev s_law_right : Stmt := top 39
abbrev s_law : Stmt := top 40
/-- the built-in names are the built-ins -/
structure Blt (mg : Str → Option Value) : Prop where
  n_abs : mg "abs" = none
  n_bool : mg "bool" = none
  n_int : mg "int" = none
  n_isinstance : mg "isinstance" = none
  n_len : mg "len" = none
  n_max : mg "max" = none
  n_min : mg "min" = none
  n_range : mg "range" = none
  n_str : mg "str" = none
structure Con (mg : Str → Option Value) : Prop where
  g_MAX_DIGITS : ∃ t, mg "MAX_DIGITS" = some (.int 300 t)
  g_LEAST_LONG : ∃ t, mg "LEAST_LONG" = some (.int (10 ^ 300) t)
  g_MAX_POWER : ∃ t, mg "MAX_POWER" = some (.int 30 t)
section
variable {P : Program} {w : World} {K : PySem.W.Frag} {mg : Str → Option Value} {base : Heap}
theorem sc_is_integer : FnScope ["value"] ["value"] (defScope s_is_integer) := ⟨rfl, rfl, rfl, by decide +kernel, rfl, by decide +kernel, by decide +kernel⟩
-- 0 value
theorem ok_is_integer {f : Addr} {fd : FuncData} (F : FunD K "is_integer" "is_integer" (defArgs s_is_integer) (defBody s_is_integer) (defScope s_is_integer) [] [] f fd) (B : Blt mg) (Z : Con mg) {C : Addr} (T : RatioC K mg C) : FnOk P w K mg base CX0 1 f fd ["value"] spIsInt := by
  refine F.ok sc_is_integer (fun vs H Q E h => ?_) (fun cdv A outer s H vs Q E hr h => ?_)
  · obtain ⟨i, rfl, _⟩ := h
    rfl
  · obtain ⟨i, rfl, k⟩ := h
    refine ⟨_, PSs.nox (pss_cons (ps_if (PW.pt (pw_or (pt_not (pt_val (pe_callB (c_isi (K := K)) (by rfl) B.n_isinstance (by decide +kernel) (pa_cons (pv 0) (pa_cons (pe_bltn (v := .ty "int") (by rfl) B.n_int (by decide +kernel) rfl) pa_nil))))) (pw_or1 (pt_val (pe_callB (c_isi (K := K)) (by rfl) B.n_isinstance (by decide +kernel) (pa_cons (pv 0) (pa_cons (pe_bltn (v := .ty "bool") (by rfl) B.n_bool (by decide +kernel) rfl) pa_nil))))))) (pss_one (ps_ret pe_bl)) pss_nil) (pss_one (ps_ret (pe_chain op_lt op_lt (pe_un un_neg (pe_globI (by rfl) Z.g_LEAST_LONG)) (pv 0) (pe_globI (by rfl) Z.g_LEAST_LONG))))), ?_⟩
    walk_at "yy"
    refine y_isi (k := true) (.base (.int i)) (kit_ty (by decide +kernel)) ?_
    walk_at "yy"
    walk_at "yf"
    walk_at "yy"
    refine y_isi (k := false) (.base (.int i)) (kit_ty (by decide +kernel)) ?_
    walk_at "yy"
    walk_at "yf"
    walk_at "yy"
    refine y_ite (fun h => ?_) (fun h => ?_)
    · walk_at "yy"
      have e : okI i = decide (i < 10 ^ 300) := by
        unfold okI
        rw [if_pos h]
      rw [← e]
      exact k
    · have e : okI i = false := by
        unfold okI
        rw [if_neg (by rw [h]; exact Bool.false_ne_true)]
      rw [← e]
      exact k
theorem sc_lowest : FnScope ["top", "bottom", "common"] ["top", "bottom"] (defScope s_lowest) := ⟨rfl, rfl, rfl, by decide +kernel, rfl, by decide +kernel, by decide +kernel⟩
-- 0 top, 1 bottom, 2 common
theorem ok_lowest {f : Addr} {fd : FuncData} (F : FunD K "lowest" "lowest" (defArgs s_lowest) (defBody s_lowest) (defScope s_lowest) [] [] f fd) (B : Blt mg) (Z : Con mg) {C : Addr} (T : RatioC K mg C) : FnOk P w K mg base CX0 1 f fd ["top", "bottom"] spLowest := by
  refine F.ok sc_lowest (fun vs H Q E h => ?_) (fun cdv A outer s H vs Q E hr h => ?_)
  · obtain ⟨t, b, rfl, _⟩ := h
    rfl
  · obtain ⟨t, b, rfl, h0, ht, hb, k⟩ := h
    refine ⟨_, PSs.nox (pss_cons (ps_set (i := 2) sc_lowest.nd rfl (Or.inl rfl) (pe_callBfun cr_gcd (by rfl) T.gcd (pa_cons (pv 0) (pa_cons (pv 1) pa_nil)))) (pss_cons (ps_if (pt_cmpR op_lt (pv 1) pe_int (nomark _)) (pss_one (ps_set (i := 2) sc_lowest.nd rfl (Or.inl rfl) (pe_un un_neg (pv 2)))) pss_nil) (pss_one (ps_ret (pe_tup (pa_cons (pe_op op_fdivWN (pv 0) (pv 2)) (pa_cons (pe_op op_fdivWN (pv 1) (pv 2)) pa_nil))))))), ?_⟩
    walk_at "yy"
    have hd := fun i : Int => divWN (t := t) h0 hb (i := i)
    by_cases hn : b < 0
    · refine y_t (decide_eq_true hn) ?_
      rw [if_pos hn] at hd
      walk_at "yy"
      refine y_I (hd _) ?_
      walk_at "yy"
      refine y_I (hd _) ?_
      walk_at "yy"
      refine ⟨by show 2 ≤ sizeLine; decide, fun p hp => k p _ hp ?_ (same_new hp)⟩
      rw [upd_same]
      unfold low lowT lowB
      rw [if_pos hn]
      rfl
    · refine y_f (decide_eq_false hn) ?_
      rw [if_neg hn] at hd
      walk_at "yy"
      refine y_I (hd _) ?_
      walk_at "yy"
      refine y_I (hd _) ?_
      walk_at "yy"
      refine ⟨by show 2 ≤ sizeLine; decide, fun p hp => k p _ hp ?_ (same_new hp)⟩
      rw [upd_same]
      unfold low lowT lowB
      rw [if_neg hn]
      rfl
theorem sc_short : FnScope ["pair"] ["pair"] (defScope s_short) := ⟨rfl, rfl, rfl, by decide +kernel, rfl, by decide +kernel, by decide +kernel⟩
-- 0 pair
theorem ok_short {f : Addr} {fd : FuncData} (F : FunD K "short" "short" (defArgs s_short) (defBody s_short) (defScope s_short) [] [] f fd) (B : Blt mg) (Z : Con mg) {C : Addr} (T : RatioC K mg C) (C_is_integer : Cal P w K mg base 1 "is_integer" ["value"] spIsInt) : FnOk P w K mg base CX0 2 f fd ["pair"] spShort := by
  refine F.ok sc_short (fun vs H Q E h => ?_) (fun cdv A outer s H vs Q E hr h => ?_)
  · obtain ⟨a, p, rfl, _⟩ := h
    rfl
  · obtain ⟨a, p, rfl, ha, h1, h2, k⟩ := h
    refine ⟨_, PSs.nox (pss_cons (ps_if (PW.pt (pw_or (pt_not (pt_val (pe_fn C_is_integer (hr.mono (by decide)) (by rfl) (pa_cons (pe_ix (x_tup (K := K)) (pv 0) pe_int (fun _ _ => rfl)) pa_nil)))) (pw_or1 (pt_not (pt_val (pe_fn C_is_integer (hr.mono (by decide)) (by rfl) (pa_cons (pe_ix (x_tup (K := K)) (pv 0) pe_int (fun _ _ => rfl)) pa_nil))))))) (pss_one ps_never) pss_nil) (pss_one (ps_ret (pv 0)))), ?_⟩
    walk_at "yy"
    refine y_ixT (sqt ha) rfl ?_
    walk_at "yy"
    refine ⟨p.1, rfl, ?_⟩
    rw [h1]
    walk_at "yy"
    walk_at "yf"
    walk_at "yy"
    refine y_ixT (sqt ha) rfl ?_
    walk_at "yy"
    refine ⟨p.2, rfl, ?_⟩
    rw [h2]
    walk_at "yy"
    walk_at "yf"
    walk_at "yy"
    exact k
theorem sc_Ratio___init__ : FnScope ["self", "top", "bottom"] ["self", "top", "bottom"] (defScope s_Ratio___init__) := ⟨rfl, rfl, rfl, by decide +kernel, rfl, by decide +kernel, by decide +kernel⟩
-- 0 self, 1 top, 2 bottom
theorem ok_Ratio___init__ {f : Addr} {fd : FuncData} (F : FunD K "__init__" "Ratio.__init__" (defArgs s_Ratio___init__) (defBody s_Ratio___init__) (defScope s_Ratio___init__) [.int 1] [] f fd) (B : Blt mg) (Z : Con mg) {C : Addr} (T : RatioC K mg C) (C_is_integer : Cal P w K mg base 1 "is_integer" ["value"] spIsInt) (C_lowest : Cal P w K mg base 1 "lowest" ["top", "bottom"] spLowest) : FnOk P w K mg base CX0 2 f fd ["self", "top", "bottom"] (spInit C) := by
  refine F.ok sc_Ratio___init__ (fun vs H Q E h => ?_) (fun cdv A outer s H vs Q E hr h => ?_)
  · obtain ⟨x, dx, t, b, rfl, _⟩ := h
    rfl
  · obtain ⟨x, dx, t, b, rfl, hx, h1, h2, h0, k⟩ := h
    refine ⟨_, PSs.nox (pss_cons (ps_if (PW.pt (pw_or (pt_not (pt_val (pe_fn C_is_integer (hr.mono (by decide)) (by rfl) (pa_cons (pv 1) pa_nil)))) (pw_or1 (pt_not (pt_val (pe_fn C_is_integer (hr.mono (by decide)) (by rfl) (pa_cons (pv 2) pa_nil))))))) (pss_one ps_never) pss_nil) (pss_cons (ps_if (pt_cmpR op_eq (pv 2) pe_int (nomark _)) (pss_one ps_never) pss_nil) (pss_one (ps_asg (pe_fn C_lowest (hr.mono (by decide)) (by rfl) (pa_cons (pv 1) (pa_cons (pv 2) pa_nil))) (g_tup (K := K) (n := 2) (by rfl) (pgs_cons (pg_fld (K := K) (pv 0)) (pgs_cons (pg_fld (K := K) (pv 0)) pgs_nil))))))), ?_⟩
    walk_at "yy"
    refine ⟨t, rfl, ?_⟩
    rw [h1]
    walk_at "yy"
    walk_at "yf"
    walk_at "yy"
    refine ⟨b, rfl, ?_⟩
    rw [h2]
    walk_at "yy"
    walk_at "yf"
    walk_at "yy"
    refine y_f (decide_eq_false h0) ?_
    walk_at "yy"
    refine ⟨t, b, rfl, h0, up_lt (okI_nat h1) (by decide), up_lt (okI_nat h2) (by decide), fun a H1 na ea s1 => ?_⟩
    walk_at "yy"
    refine y_gtup rfl (sqt ea) rfl ?_
    walk_at "yy"
    refine ⟨x, C, dx, [], rfl, s1 _ _ hx, T.cls, T.nT, by decide, ?_⟩
    walk_at "yy"
    refine ⟨x, C, dx, _, rfl, upd_same, T.cls, T.nB, by show 1 < 1000; decide, ?_⟩
    walk_at "yy"
    refine k _ ⟨dx, ?_⟩ fun c o e n => ?_
    · rw [upd_same]
      exact congrArg (fun l => some (HO.ins C dx l)) (rf_put (low t b))
    · rw [upd_ne n, upd_ne n]
      exact s1 _ _ e
theorem sc_ratio : FnScope ["top", "bottom"] ["top", "bottom"] (defScope s_ratio) := ⟨rfl, rfl, rfl, by decide +kernel, rfl, by decide +kernel, by decide +kernel⟩
-- 0 top, 1 bottom
theorem ok_ratio {f : Addr} {fd : FuncData} (F : FunD K "_ratio" "_ratio" (defArgs s_ratio) (defBody s_ratio) (defScope s_ratio) [] [] f fd) (B : Blt mg) (Z : Con mg) {C : Addr} (T : RatioC K mg C) (C_lowest : Cal P w K mg base 1 "lowest" ["top", "bottom"] spLowest) (C_short : Cal P w K mg base 2 "short" ["pair"] spShort) (C_Ratio_2 : Mkr P w K mg base 2 "Ratio" C (spInit C) []) : FnOk P w K mg base CX0 4 f fd ["top", "bottom"] (spRatio C) := by
  refine F.ok sc_ratio (fun vs H Q E h => ?_) (fun cdv A outer s H vs Q E hr h => ?_)
  · obtain ⟨t, b, rfl, _⟩ := h
    rfl
  · obtain ⟨t, b, rfl, h0, ht, hb, h1, h2, k⟩ := h
    refine ⟨_, PSs.nox (pss_cons (ps_asg (pe_fn C_short (hr.mono (by decide)) (by rfl) (pa_cons (pe_fn C_lowest (hr.mono (by decide)) (by rfl) (pa_cons (pv 0) (pa_cons (pv 1) pa_nil))) pa_nil)) (g_tup (K := K) (n := 2) (by rfl) (pgs_cons (pg_name (i := 0) sc_ratio.nd rfl (Or.inl rfl)) (pgs_cons (pg_name (i := 1) sc_ratio.nd rfl (Or.inl rfl)) pgs_nil)))) (pss_one (ps_ret (e_mkr C_Ratio_2 (hr.mono (by decide)) (by rfl) (pa_cons (pv 0) (pa_cons (pv 1) pa_nil)))))), ?_⟩
    walk_at "yy"
    refine ⟨t, b, rfl, h0, ht, hb, fun a H1 na ea s1 => ?_⟩
    walk_at "yy"
    refine ⟨a, low t b, rfl, ea, h1, h2, ?_⟩
    walk_at "yy"
    refine y_gtup rfl (sqt ea) rfl ?_
    walk_at "yy"
    refine fun x dx nx ndx nxd => ?_
    have hp := (low_low (t := t) h0)
    refine ⟨x, dx, _, _, rfl, upd_same, h1, h2, by have := hp.1; show lowB t b ≠ 0; exact Int.ne_of_gt this, fun H2 hR fr => ⟨rfl, ?_⟩⟩
    refine k x H2 (Same.free s1 nx) ?_ fun c o e => ?_
    · have e : low (low t b).1 (low t b).2 = low t b := low_fix hp
      rw [← e]
      exact hR
    · have e1 := s1 _ _ e
      have n1 : c ≠ x := ne_of_none e1 nx
      have n2 : c ≠ dx := ne_of_none e1 ndx
      exact fr c o (by rw [upd_ne n1, upd_ne n2]; exact e1) n1
theorem sc_Ratio_pair : FnScope ["self"] ["self"] (defScope s_Ratio_pair) := ⟨rfl, rfl, rfl, by decide +kernel, rfl, by decide +kernel, by decide +kernel⟩
-- 0 self
theorem ok_Ratio_pair {f : Addr} {fd : FuncData} (F : FunD K "pair" "Ratio.pair" (defArgs s_Ratio_pair) (defBody s_Ratio_pair) (defScope s_Ratio_pair) [] [] f fd) (B : Blt mg) (Z : Con mg) {C : Addr} (T : RatioC K mg C) : FnOk P w K mg base CX0 1 f fd ["self"] (spPair C) := by
  refine F.ok sc_Ratio_pair (fun vs H Q E h => ?_) (fun cdv A outer s H vs Q E hr h => ?_)
  · obtain ⟨x, p, rfl, _⟩ := h
    rfl
  · obtain ⟨x, p, rfl, hx, k⟩ := h
    refine ⟨_, PSs.nox (pss_one (ps_ret (pe_tup (pa_cons (e_fld (K := K) (pv 0)) (pa_cons (e_fld (K := K) (pv 0)) pa_nil))))), ?_⟩
    walk_at "yy"
    refine ⟨_, C, _, _, _, rfl, hx.choose_spec, T.cls, T.nT, rf_t _, ?_⟩
    walk_at "yy"
    refine ⟨_, C, _, _, _, rfl, hx.choose_spec, T.cls, T.nB, rf_b _, ?_⟩
    walk_at "yy"
    exact ⟨by show 2 ≤ sizeLine; decide, fun a ha => k a _ ha upd_same (same_new ha)⟩
theorem sc_Ratio_bottom : FnScope ["self"] ["self"] (defScope s_Ratio_bottom) := ⟨rfl, rfl, rfl, by decide +kernel, rfl, by decide +kernel, by decide +kernel⟩
-- 0 self
theorem ok_Ratio_bottom {f : Addr} {fd : FuncData} (F : FunD K "bottom" "Ratio.bottom" (defArgs s_Ratio_bottom) (defBody s_Ratio_bottom) (defScope s_Ratio_bottom) [] [] f fd) (B : Blt mg) (Z : Con mg) {C : Addr} (T : RatioC K mg C) : FnOk P w K mg base CX0 1 f fd ["self"] (spBot C) := by
  refine F.ok sc_Ratio_bottom (fun vs H Q E h => ?_) (fun cdv A outer s H vs Q E hr h => ?_)
  · obtain ⟨x, p, rfl, _⟩ := h
    rfl
  · obtain ⟨x, p, rfl, hx, k⟩ := h
    refine ⟨_, PSs.nox (pss_one (ps_ret (e_fld (K := K) (pv 0)))), ?_⟩
    walk_at "yy"
    refine ⟨_, C, _, _, _, rfl, hx.choose_spec, T.cls, T.nB, rf_b _, ?_⟩
    exact k
theorem sc_operand : FnScope ["value"] ["value"] (defScope s_operand) := ⟨rfl, rfl, rfl, by decide +kernel, rfl, by decide +kernel, by decide +kernel⟩
-- 0 value
theorem ok_operand {f : Addr} {fd : FuncData} (F : FunD K "_operand" "_operand" (defArgs s_operand) (defBody s_operand) (defScope s_operand) [] [] f fd) (B : Blt mg) (Z : Con mg) {C : Addr} (T : RatioC K mg C) (C_Ratio_pair : Prp P w K mg base 1 C "pair" (spPair C)) (C_is_integer : Cal P w K mg base 1 "is_integer" ["value"] spIsInt) : FnOk P w K mg base CX0 3 f fd ["value"] (spOper C) := by
  refine F.ok sc_operand (fun vs H Q E h => ?_) (fun cdv A outer s H vs Q E hr h => ?_)
  · obtain ⟨v, q, rfl, _⟩ := h
    rfl
  · obtain ⟨v, q, rfl, ho, h1, k⟩ := h
    refine ⟨_, PSs.nox (pss_cons (ps_if (pt_val (pe_callB (c_isi (K := K)) (by rfl) B.n_isinstance (by decide +kernel) (pa_cons (pv 0) (pa_cons (pe_glob (v := .ref C) (by rfl) T.g rfl) pa_nil)))) (pss_one (ps_ret (e_prp C_Ratio_pair T.cls (hr.mono (by decide)) (pv 0)))) pss_nil) (pss_cons (ps_if (pt_not (pt_val (pe_fn C_is_integer (hr.mono (by decide)) (by rfl) (pa_cons (pv 0) pa_nil)))) (pss_one ps_never) pss_nil) (pss_one (ps_ret (pe_tup (pa_cons (pv 0) (pa_cons pe_int pa_nil))))))), ?_⟩
    walk_at "yy"
    rcases ho with ⟨x, rfl, hx⟩ | ⟨i, rfl, rfl⟩
    · refine y_isC (k := true) (T.ty hx) kit_self ?_
      walk_at "yy"
      walk_at "yt"
      walk_at "yy"
      obtain ⟨dx, hx'⟩ := id hx
      exact ⟨x, dx, _, rfl, hx', x, q, rfl, hx, k⟩
    · refine y_isC (k := false) (.base (.int i)) T.ki ?_
      walk_at "yy"
      walk_at "yf"
      walk_at "yy"
      refine ⟨i, rfl, ?_⟩
      rw [h1]
      walk_at "yy"
      walk_at "yf"
      walk_at "yy"
      exact ⟨by show 2 ≤ sizeLine; decide, fun a ha => k a _ ha upd_same (same_new ha)⟩
theorem sc_Ratio___add__ : FnScope ["self", "other", "top", "bottom"] ["self", "other"] (defScope s_Ratio___add__) := ⟨rfl, rfl, rfl, by decide +kernel, rfl, by decide +kernel, by decide +kernel⟩
-- 0 self, 1 other, 2 top, 3 bottom
theorem ok_Ratio___add__ {f : Addr} {fd : FuncData} (F : FunD K "__add__" "Ratio.__add__" (defArgs s_Ratio___add__) (defBody s_Ratio___add__) (defScope s_Ratio___add__) [] [] f fd) (B : Blt mg) (Z : Con mg) {C : Addr} (T : RatioC K mg C) (C_operand : Cal P w K mg base 3 "_operand" ["value"] (spOper C)) (C_ratio : Cal P w K mg base 4 "_ratio" ["top", "bottom"] (spRatio C)) : FnOk P w K mg base CX0 5 f fd ["self", "other"] (spAdd C) := by
  refine F.ok sc_Ratio___add__ (fun vs H Q E h => ?_) (fun cdv A outer s H vs Q E hr h => ?_)
  · obtain ⟨x, v, p, q, rfl, _⟩ := h
    rfl
  · obtain ⟨x, v, p, q, rfl, hx, fp, ho, fq, h1, h2, k⟩ := h
    refine ⟨_, PSs.nox (pss_cons (ps_asg (pe_fn C_operand (hr.mono (by decide)) (by rfl) (pa_cons (pv 1) pa_nil)) (g_tup (K := K) (n := 2) (by rfl) (pgs_cons (pg_name (i := 2) sc_Ratio___add__.nd rfl (Or.inl rfl)) (pgs_cons (pg_name (i := 3) sc_Ratio___add__.nd rfl (Or.inl rfl)) pgs_nil)))) (pss_one (ps_ret (pe_fn C_ratio (hr.mono (by decide)) (by rfl) (pa_cons (pe_op op_add (pe_op op_mulW (e_fld (K := K) (pv 0)) (pv 3)) (pe_op op_mulW (pv 2) (e_fld (K := K) (pv 0)))) (pa_cons (pe_op op_mulW (e_fld (K := K) (pv 0)) (pv 3)) pa_nil)))))), ?_⟩
    have b1 := okI_nat fp.t
    have b2 := okI_nat fp.b
    have b3 := okI_nat fq.t
    have b4 := okI_nat fq.b
    walk_at "yy"
    refine ⟨v, q, rfl, ho, fq.t, fun a H1 na ea s1 => ?_⟩
    walk_at "yy"
    refine y_gtup rfl (sqt ea) rfl ?_
    walk_at "yy"
    refine ⟨_, C, _, _, _, rfl, (hx.same s1).choose_spec, T.cls, T.nT, rf_t _, ?_⟩
    walk_at "yy"
    refine y_I (mulW (up_lt b1 (by decide)) (up_lt b4 (by decide))) ?_
    walk_at "yy"
    refine ⟨_, C, _, _, _, rfl, (hx.same s1).choose_spec, T.cls, T.nB, rf_b _, ?_⟩
    walk_at "yy"
    refine y_I (mulW (up_lt b3 (by decide)) (up_lt b2 (by decide))) ?_
    walk_at "yy"
    refine ⟨_, C, _, _, _, rfl, (hx.same s1).choose_spec, T.cls, T.nB, rf_b _, ?_⟩
    walk_at "yy"
    refine y_I (mulW (up_lt b2 (by decide)) (up_lt b4 (by decide))) ?_
    walk_at "yy"
    refine ⟨_, _, rfl, ?_, up_lt (add_lt (mul_lt b1 b4) (mul_lt b3 b2)) (by decide), up_lt (mul_lt b2 b4) (by decide), h1, h2, fun z H2 nz hz s2 => k z H2 (Same.free s1 nz) hz (s1.trans s2)⟩
    exact Int.ne_of_gt (Int.mul_pos fp.l.1 fq.l.1)
theorem sc_Ratio___neg__ : FnScope ["self"] ["self"] (defScope s_Ratio___neg__) := ⟨rfl, rfl, rfl, by decide +kernel, rfl, by decide +kernel, by decide +kernel⟩
-- 0 self
theorem ok_Ratio___neg__ {f : Addr} {fd : FuncData} (F : FunD K "__neg__" "Ratio.__neg__" (defArgs s_Ratio___neg__) (defBody s_Ratio___neg__) (defScope s_Ratio___neg__) [] [] f fd) (B : Blt mg) (Z : Con mg) {C : Addr} (T : RatioC K mg C) (C_ratio : Cal P w K mg base 4 "_ratio" ["top", "bottom"] (spRatio C)) : FnOk P w K mg base CX0 5 f fd ["self"] (spNeg C) := by
  refine F.ok sc_Ratio___neg__ (fun vs H Q E h => ?_) (fun cdv A outer s H vs Q E hr h => ?_)
  · obtain ⟨x, p, rfl, _⟩ := h
    rfl
  · obtain ⟨x, p, rfl, hx, fp, k⟩ := h
    refine ⟨_, PSs.nox (pss_one (ps_ret (pe_fn C_ratio (hr.mono (by decide)) (by rfl) (pa_cons (pe_un un_neg (e_fld (K := K) (pv 0))) (pa_cons (e_fld (K := K) (pv 0)) pa_nil))))), ?_⟩
    have b1 := okI_nat fp.t
    have b2 := okI_nat fp.b
    have e : low (-p.1) p.2 = negP p := low_fix (p := (-p.1, p.2)) ⟨fp.l.1, by show Nat.gcd (-p.1).natAbs p.2.natAbs = 1; rw [Int.natAbs_neg]; exact fp.l.2⟩
    have e1 : lowT (-p.1) p.2 = -p.1 := congrArg Prod.fst e
    have e2 : lowB (-p.1) p.2 = p.2 := congrArg Prod.snd e
    walk_at "yy"
    refine ⟨_, C, _, _, _, rfl, hx.choose_spec, T.cls, T.nT, rf_t _, ?_⟩
    walk_at "yy"
    refine ⟨_, C, _, _, _, rfl, hx.choose_spec, T.cls, T.nB, rf_b _, ?_⟩
    walk_at "yy"
    refine ⟨_, _, rfl, Int.ne_of_gt fp.l.1, by rw [Int.natAbs_neg]; exact up_lt b1 (by decide), up_lt b2 (by decide), ?_, ?_, ?_⟩
    · rw [e1]
      exact okI_mono fp.t (by rw [Int.natAbs_neg]; exact Nat.le_refl _)
    · rw [e2]
      exact fp.b
    · rw [e]
      exact k
theorem sc_Ratio_is_below : FnScope ["self", "other", "top", "bottom"] ["self", "other"] (defScope s_Ratio_is_below) := ⟨rfl, rfl, rfl, by decide +kernel, rfl, by decide +kernel, by decide +kernel⟩
-- 0 self, 1 other, 2 top, 3 bottom
theorem ok_Ratio_is_below {f : Addr} {fd : FuncData} (F : FunD K "is_below" "Ratio.is_below" (defArgs s_Ratio_is_below) (defBody s_Ratio_is_below) (defScope s_Ratio_is_below) [] [] f fd) (B : Blt mg) (Z : Con mg) {C : Addr} (T : RatioC K mg C) (C_operand : Cal P w K mg base 3 "_operand" ["value"] (spOper C)) : FnOk P w K mg base CX0 4 f fd ["self", "other"] (spBelow C) := by
  refine F.ok sc_Ratio_is_below (fun vs H Q E h => ?_) (fun cdv A outer s H vs Q E hr h => ?_)
  · obtain ⟨x, v, p, q, rfl, _⟩ := h
    rfl
  · obtain ⟨x, v, p, q, rfl, hx, fp, ho, fq, k⟩ := h
    refine ⟨_, PSs.nox (pss_cons (ps_asg (pe_fn C_operand (hr.mono (by decide)) (by rfl) (pa_cons (pv 1) pa_nil)) (g_tup (K := K) (n := 2) (by rfl) (pgs_cons (pg_name (i := 2) sc_Ratio_is_below.nd rfl (Or.inl rfl)) (pgs_cons (pg_name (i := 3) sc_Ratio_is_below.nd rfl (Or.inl rfl)) pgs_nil)))) (pss_one (ps_ret (pe_cmpR op_lt (pe_op op_mulW (e_fld (K := K) (pv 0)) (pv 3)) (pe_op op_mulW (pv 2) (e_fld (K := K) (pv 0))) (nomark _))))), ?_⟩
    have b1 := okI_nat fp.t
    have b2 := okI_nat fp.b
    have b3 := okI_nat fq.t
    have b4 := okI_nat fq.b
    walk_at "yy"
    refine ⟨v, q, rfl, ho, fq.t, fun a H1 na ea s1 => ?_⟩
    walk_at "yy"
    refine y_gtup rfl (sqt ea) rfl ?_
    walk_at "yy"
    refine ⟨_, C, _, _, _, rfl, (hx.same s1).choose_spec, T.cls, T.nT, rf_t _, ?_⟩
    walk_at "yy"
    refine y_I (mulW (up_lt b1 (by decide)) (up_lt b4 (by decide))) ?_
    walk_at "yy"
    refine ⟨_, C, _, _, _, rfl, (hx.same s1).choose_spec, T.cls, T.nB, rf_b _, ?_⟩
    walk_at "yy"
    refine y_I (mulW (up_lt b3 (by decide)) (up_lt b2 (by decide))) ?_
    walk_at "yy"
    exact k H1 s1
theorem sc_text_of : FnScope ["pair", "top", "bottom"] ["pair"] (defScope s_text_of) := ⟨rfl, rfl, rfl, by decide +kernel, rfl, by decide +kernel, by decide +kernel⟩
-- 0 pair, 1 top, 2 bottom
theorem ok_text_of {f : Addr} {fd : FuncData} (F : FunD K "text_of" "text_of" (defArgs s_text_of) (defBody s_text_of) (defScope s_text_of) [] [] f fd) (B : Blt mg) (Z : Con mg) {C : Addr} (T : RatioC K mg C) : FnOk P w K mg base CX0 1 f fd ["pair"] spTextOf := by
  refine F.ok sc_text_of (fun vs H Q E h => ?_) (fun cdv A outer s H vs Q E hr h => ?_)
  · obtain ⟨a, p, rfl, _⟩ := h
    rfl
  · obtain ⟨a, p, rfl, ha, h1, h2, k⟩ := h
    refine ⟨_, PSs.nox (pss_cons (ps_asg (pv 0) (g_tup (K := K) (n := 2) (by rfl) (pgs_cons (pg_name (i := 1) sc_text_of.nd rfl (Or.inl rfl)) (pgs_cons (pg_name (i := 2) sc_text_of.nd rfl (Or.inl rfl)) pgs_nil)))) (pss_one (ps_ret (pe_ifExp (pt_cmpR op_eq (pv 2) pe_int (nomark _)) (pe_callTy call_str_int (by rfl) B.n_str (by decide +kernel) (pa_cons (pv 1) pa_nil)) (pe_joined (.cons (pe_fmt (pv 1)) (.cons pe_str (.cons (pe_fmt (pv 2)) .nil)))))))), ?_⟩
    walk_at "yy"
    refine y_gtup rfl (sqt ha) rfl ?_
    walk_at "yy"
    refine y_ite (fun h => ?_) (fun h => ?_)
    · have h := of_decide_eq_true h
      walk_at "yy"
      refine ⟨p.1, rfl, tI_log h1, ?_⟩
      have e : txt p = tI p.1 := by
        unfold txt
        rw [if_pos h]
      rw [e] at k
      exact k
    · have h := of_decide_eq_false h
      have e : txt p = ((Str.empty ++ tI p.1) ++ "/") ++ tI p.2 := by
        unfold txt
        rw [if_neg h, Str.empty_append]
      rw [e] at k
      have l1 := tI_len h1
      have l2 := tI_len h2
      have l3 : (Str.empty ++ tI p.1).length ≤ 301 := by rw [Str.empty_append]; exact l1
      have l4 : ((Str.empty ++ tI p.1) ++ "/").length ≤ 302 := by
        rw [Str.length_append]
        have : (("/" : Str)).length = 1 := by decide +kernel
        omega
      have l5 : (((Str.empty ++ tI p.1) ++ "/") ++ tI p.2).length ≤ 603 := by
        rw [Str.length_append]
        omega
      refine ⟨_, rfl, .inr ⟨p.1, rfl, tI_log h1, ?_⟩⟩
      refine ⟨_, rfl, Nat.le_trans l3 (by decide), ?_⟩
      refine ⟨_, rfl, Nat.le_trans l4 (by decide), ?_⟩
      refine ⟨_, rfl, .inr ⟨p.2, rfl, tI_log h2, ?_⟩⟩
      exact ⟨_, rfl, Nat.le_trans l5 (by decide), k⟩
theorem sc_Ratio_top : FnScope ["self"] ["self"] (defScope s_Ratio_top) := ⟨rfl, rfl, rfl, by decide +kernel, rfl, by decide +kernel, by decide +kernel⟩
-- 0 self
theorem ok_Ratio_top {f : Addr} {fd : FuncData} (F : FunD K "top" "Ratio.top" (defArgs s_Ratio_top) (defBody s_Ratio_top) (defScope s_Ratio_top) [] [] f fd) (B : Blt mg) (Z : Con mg) {C : Addr} (T : RatioC K mg C) : FnOk P w K mg base CX0 1 f fd ["self"] (spTop C) := by
  refine F.ok sc_Ratio_top (fun vs H Q E h => ?_) (fun cdv A outer s H vs Q E hr h => ?_)
  · obtain ⟨x, p, rfl, _⟩ := h
    rfl
  · obtain ⟨x, p, rfl, hx, k⟩ := h
    refine ⟨_, PSs.nox (pss_one (ps_ret (e_fld (K := K) (pv 0)))), ?_⟩
    walk_at "yy"
    refine ⟨_, C, _, _, _, rfl, (hx).choose_spec, T.cls, T.nT, rf_t _, ?_⟩
    exact k
theorem sc_Ratio_text : FnScope ["self"] ["self"] (defScope s_Ratio_text) := ⟨rfl, rfl, rfl, by decide +kernel, rfl, by decide +kernel, by decide +kernel⟩
-- 0 self
theorem ok_Ratio_text {f : Addr} {fd : FuncData} (F : FunD K "text" "Ratio.text" (defArgs s_Ratio_text) (defBody s_Ratio_text) (defScope s_Ratio_text) [] [] f fd) (B : Blt mg) (Z : Con mg) {C : Addr} (T : RatioC K mg C) (C_Ratio_pair : Prp P w K mg base 1 C "pair" (spPair C)) (C_text_of : Cal P w K mg base 1 "text_of" ["pair"] spTextOf) : FnOk P w K mg base CX0 3 f fd ["self"] (spText C) := by
  refine F.ok sc_Ratio_text (fun vs H Q E h => ?_) (fun cdv A outer s H vs Q E hr h => ?_)
  · obtain ⟨x, p, rfl, _⟩ := h
    rfl
  · obtain ⟨x, p, rfl, hx, fp, k⟩ := h
    refine ⟨_, PSs.nox (pss_one (ps_ret (pe_fn C_text_of (hr.mono (by decide)) (by rfl) (pa_cons (e_prp C_Ratio_pair T.cls (hr.mono (by decide)) (pv 0)) pa_nil)))), ?_⟩
    walk_at "yy"
    obtain ⟨dx, hx'⟩ := id hx
    refine ⟨x, dx, _, rfl, hx', x, p, rfl, hx, fun a H1 na ea s1 => ?_⟩
    walk_at "yy"
    exact ⟨a, p, rfl, ea, fp.t, fp.b, k _ s1⟩
theorem sc_Ratio_sign : FnScope ["self"] ["self"] (defScope s_Ratio_sign) := ⟨rfl, rfl, rfl, by decide +kernel, rfl, by decide +kernel, by decide +kernel⟩
-- 0 self
theorem ok_Ratio_sign {f : Addr} {fd : FuncData} (F : FunD K "sign" "Ratio.sign" (defArgs s_Ratio_sign) (defBody s_Ratio_sign) (defScope s_Ratio_sign) [] [] f fd) (B : Blt mg) (Z : Con mg) {C : Addr} (T : RatioC K mg C) : FnOk P w K mg base CX0 1 f fd ["self"] (spSign C) := by
  refine F.ok sc_Ratio_sign (fun vs H Q E h => ?_) (fun cdv A outer s H vs Q E hr h => ?_)
  · obtain ⟨x, p, rfl, _⟩ := h
    rfl
  · obtain ⟨x, p, rfl, hx, k⟩ := h
    refine ⟨_, PSs.nox (pss_cons (ps_if (pt_cmpR op_eq (e_fld (K := K) (pv 0)) pe_int (nomark _)) (pss_one (ps_ret pe_int)) pss_nil) (pss_one (ps_ret (pe_ifExp (pt_cmpR op_gt (e_fld (K := K) (pv 0)) pe_int (nomark _)) pe_int (pe_un un_neg pe_int))))), ?_⟩
    walk_at "yy"
    refine ⟨_, C, _, _, _, rfl, (hx).choose_spec, T.cls, T.nT, rf_t _, ?_⟩
    walk_at "yy"
    refine y_ite (fun h => ?_) (fun h => ?_)
    · have h := of_decide_eq_true h
      walk_at "yy"
      have e : sgn p.1 = 0 := by unfold sgn; rw [if_neg (by omega), if_neg (by omega)]
      rw [e] at k
      exact k
    · have h := of_decide_eq_false h
      walk_at "yy"
      refine ⟨_, C, _, _, _, rfl, (hx).choose_spec, T.cls, T.nT, rf_t _, ?_⟩
      walk_at "yy"
      refine y_ite (fun g => ?_) (fun g => ?_)
      · have g := of_decide_eq_true g
        walk_at "yy"
        have e : sgn p.1 = 1 := by unfold sgn; rw [if_neg (by omega), if_pos (by omega)]
        rw [e] at k
        exact k
      · have g := of_decide_eq_false g
        walk_at "yy"
        have e : sgn p.1 = -1 := by unfold sgn; rw [if_pos (by omega)]
        rw [e] at k
        exact k
theorem sc_Ratio_whole : FnScope ["self"] ["self"] (defScope s_Ratio_whole) := ⟨rfl, rfl, rfl, by decide +kernel, rfl, by decide +kernel, by decide +kernel⟩
-- 0 self
theorem ok_Ratio_whole {f : Addr} {fd : FuncData} (F : FunD K "whole" "Ratio.whole" (defArgs s_Ratio_whole) (defBody s_Ratio_whole) (defScope s_Ratio_whole) [] [] f fd) (B : Blt mg) (Z : Con mg) {C : Addr} (T : RatioC K mg C) : FnOk P w K mg base CX0 1 f fd ["self"] (spWhole C) := by
  refine F.ok sc_Ratio_whole (fun vs H Q E h => ?_) (fun cdv A outer s H vs Q E hr h => ?_)
  · obtain ⟨x, p, rfl, _⟩ := h
    rfl
  · obtain ⟨x, p, rfl, hx, fp, k⟩ := h
    refine ⟨_, PSs.nox (pss_one (ps_ret (pe_op op_fdivW (e_fld (K := K) (pv 0)) (e_fld (K := K) (pv 0))))), ?_⟩
    walk_at "yy"
    refine ⟨_, C, _, _, _, rfl, (hx).choose_spec, T.cls, T.nT, rf_t _, ?_⟩
    walk_at "yy"
    refine ⟨_, C, _, _, _, rfl, (hx).choose_spec, T.cls, T.nB, rf_b _, ?_⟩
    refine y_I (big_div fp.l.1 (up_lt (okI_nat fp.b) (by decide))) ?_
    exact k
theorem sc_Ratio___sub__ : FnScope ["self", "other", "top", "bottom"] ["self", "other"] (defScope s_Ratio___sub__) := ⟨rfl, rfl, rfl, by decide +kernel, rfl, by decide +kernel, by decide +kernel⟩
-- 0 self, 1 other, 2 top, 3 bottom
theorem ok_Ratio___sub__ {f : Addr} {fd : FuncData} (F : FunD K "__sub__" "Ratio.__sub__" (defArgs s_Ratio___sub__) (defBody s_Ratio___sub__) (defScope s_Ratio___sub__) [] [] f fd) (B : Blt mg) (Z : Con mg) {C : Addr} (T : RatioC K mg C) (C_operand : Cal P w K mg base 3 "_operand" ["value"] (spOper C)) (C_ratio : Cal P w K mg base 4 "_ratio" ["top", "bottom"] (spRatio C)) : FnOk P w K mg base CX0 5 f fd ["self", "other"] (spSub C) := by
  refine F.ok sc_Ratio___sub__ (fun vs H Q E h => ?_) (fun cdv A outer s H vs Q E hr h => ?_)
  · obtain ⟨x, v, p, q, rfl, _⟩ := h
    rfl
  · obtain ⟨x, v, p, q, rfl, hx, fp, ho, fq, h1, h2, k⟩ := h
    refine ⟨_, PSs.nox (pss_cons (ps_asg (pe_fn C_operand (hr.mono (by decide)) (by rfl) (pa_cons (pv 1) pa_nil)) (g_tup (K := K) (n := 2) (by rfl) (pgs_cons (pg_name (i := 2) sc_Ratio___sub__.nd rfl (Or.inl rfl)) (pgs_cons (pg_name (i := 3) sc_Ratio___sub__.nd rfl (Or.inl rfl)) pgs_nil)))) (pss_one (ps_ret (pe_fn C_ratio (hr.mono (by decide)) (by rfl) (pa_cons (pe_op op_sub (pe_op op_mulW (e_fld (K := K) (pv 0)) (pv 3)) (pe_op op_mulW (pv 2) (e_fld (K := K) (pv 0)))) (pa_cons (pe_op op_mulW (e_fld (K := K) (pv 0)) (pv 3)) pa_nil)))))), ?_⟩
    have b1 := okI_nat fp.t
    have b2 := okI_nat fp.b
    have b3 := okI_nat fq.t
    have b4 := okI_nat fq.b
    walk_at "yy"
    refine ⟨v, q, rfl, ho, fq.t, fun a H1 na ea s1 => ?_⟩
    walk_at "yy"
    refine y_gtup rfl (sqt ea) rfl ?_
    walk_at "yy"
    refine ⟨_, C, _, _, _, rfl, (hx.same s1).choose_spec, T.cls, T.nT, rf_t _, ?_⟩
    walk_at "yy"
    refine y_I (mulW (up_lt b1 (by decide)) (up_lt b4 (by decide))) ?_
    walk_at "yy"
    refine ⟨_, C, _, _, _, rfl, (hx.same s1).choose_spec, T.cls, T.nB, rf_b _, ?_⟩
    walk_at "yy"
    refine y_I (mulW (up_lt b3 (by decide)) (up_lt b2 (by decide))) ?_
    walk_at "yy"
    refine ⟨_, C, _, _, _, rfl, (hx.same s1).choose_spec, T.cls, T.nB, rf_b _, ?_⟩
    walk_at "yy"
    refine y_I (mulW (up_lt b2 (by decide)) (up_lt b4 (by decide))) ?_
    walk_at "yy"
    refine ⟨_, _, rfl, ?_, up_lt (sub_lt (mul_lt b1 b4) (mul_lt b3 b2)) (by decide), up_lt (mul_lt b2 b4) (by decide), h1, h2, fun z H2 nz hz s2 => k z H2 (Same.free s1 nz) hz (s1.trans s2)⟩
    exact Int.ne_of_gt (Int.mul_pos fp.l.1 fq.l.1)
theorem sc_Ratio___mul__ : FnScope ["self", "other", "top", "bottom"] ["self", "other"] (defScope s_Ratio___mul__) := ⟨rfl, rfl, rfl, by decide +kernel, rfl, by decide +kernel, by decide +kernel⟩
-- 0 self, 1 other, 2 top, 3 bottom
theorem ok_Ratio___mul__ {f : Addr} {fd : FuncData} (F : FunD K "__mul__" "Ratio.__mul__" (defArgs s_Ratio___mul__) (defBody s_Ratio___mul__) (defScope s_Ratio___mul__) [] [] f fd) (B : Blt mg) (Z : Con mg) {C : Addr} (T : RatioC K mg C) (C_operand : Cal P w K mg base 3 "_operand" ["value"] (spOper C)) (C_ratio : Cal P w K mg base 4 "_ratio" ["top", "bottom"] (spRatio C)) : FnOk P w K mg base CX0 5 f fd ["self", "other"] (spMul C) := by
  refine F.ok sc_Ratio___mul__ (fun vs H Q E h => ?_) (fun cdv A outer s H vs Q E hr h => ?_)
  · obtain ⟨x, v, p, q, rfl, _⟩ := h
    rfl
  · obtain ⟨x, v, p, q, rfl, hx, fp, ho, fq, h1, h2, k⟩ := h
    refine ⟨_, PSs.nox (pss_cons (ps_asg (pe_fn C_operand (hr.mono (by decide)) (by rfl) (pa_cons (pv 1) pa_nil)) (g_tup (K := K) (n := 2) (by rfl) (pgs_cons (pg_name (i := 2) sc_Ratio___mul__.nd rfl (Or.inl rfl)) (pgs_cons (pg_name (i := 3) sc_Ratio___mul__.nd rfl (Or.inl rfl)) pgs_nil)))) (pss_one (ps_ret (pe_fn C_ratio (hr.mono (by decide)) (by rfl) (pa_cons (pe_op op_mulW (e_fld (K := K) (pv 0)) (pv 2)) (pa_cons (pe_op op_mulW (e_fld (K := K) (pv 0)) (pv 3)) pa_nil)))))), ?_⟩
    have b1 := okI_nat fp.t
    have b2 := okI_nat fp.b
    have b3 := okI_nat fq.t
    have b4 := okI_nat fq.b
    walk_at "yy"
    refine ⟨v, q, rfl, ho, fq.t, fun a H1 na ea s1 => ?_⟩
    walk_at "yy"
    refine y_gtup rfl (sqt ea) rfl ?_
    walk_at "yy"
    refine ⟨_, C, _, _, _, rfl, (hx.same s1).choose_spec, T.cls, T.nT, rf_t _, ?_⟩
    walk_at "yy"
    refine y_I (mulW (up_lt b1 (by decide)) (up_lt b3 (by decide))) ?_
    walk_at "yy"
    refine ⟨_, C, _, _, _, rfl, (hx.same s1).choose_spec, T.cls, T.nB, rf_b _, ?_⟩
    walk_at "yy"
    refine y_I (mulW (up_lt b2 (by decide)) (up_lt b4 (by decide))) ?_
    walk_at "yy"
    exact ⟨_, _, rfl, Int.ne_of_gt (Int.mul_pos fp.l.1 fq.l.1), up_lt (mul_lt b1 b3) (by decide), up_lt (mul_lt b2 b4) (by decide), h1, h2, fun z H2 nz hz s2 => k z H2 (Same.free s1 nz) hz (s1.trans s2)⟩
theorem sc_Ratio_divided : FnScope ["self", "other", "top", "bottom"] ["self", "other"] (defScope s_Ratio_divided) := ⟨rfl, rfl, rfl, by decide +kernel, rfl, by decide +kernel, by decide +kernel⟩
-- 0 self, 1 other, 2 top, 3 bottom
theorem ok_Ratio_divided {f : Addr} {fd : FuncData} (F : FunD K "divided" "Ratio.divided" (defArgs s_Ratio_divided) (defBody s_Ratio_divided) (defScope s_Ratio_divided) [] [] f fd) (B : Blt mg) (Z : Con mg) {C : Addr} (T : RatioC K mg C) (C_operand : Cal P w K mg base 3 "_operand" ["value"] (spOper C)) (C_ratio : Cal P w K mg base 4 "_ratio" ["top", "bottom"] (spRatio C)) : FnOk P w K mg base CX0 5 f fd ["self", "other"] (spDiv C) := by
  refine F.ok sc_Ratio_divided (fun vs H Q E h => ?_) (fun cdv A outer s H vs Q E hr h => ?_)
  · obtain ⟨x, v, p, q, rfl, _⟩ := h
    rfl
  · obtain ⟨x, v, p, q, rfl, hx, fp, ho, fq, h0, h1, h2, k⟩ := h
    refine ⟨_, PSs.nox (pss_cons (ps_asg (pe_fn C_operand (hr.mono (by decide)) (by rfl) (pa_cons (pv 1) pa_nil)) (g_tup (K := K) (n := 2) (by rfl) (pgs_cons (pg_name (i := 2) sc_Ratio_divided.nd rfl (Or.inl rfl)) (pgs_cons (pg_name (i := 3) sc_Ratio_divided.nd rfl (Or.inl rfl)) pgs_nil)))) (pss_cons (ps_if (pt_cmpR op_eq (pv 2) pe_int (nomark _)) (pss_one ps_never) pss_nil) (pss_one (ps_ret (pe_fn C_ratio (hr.mono (by decide)) (by rfl) (pa_cons (pe_op op_mulW (e_fld (K := K) (pv 0)) (pv 3)) (pa_cons (pe_op op_mulW (e_fld (K := K) (pv 0)) (pv 2)) pa_nil))))))), ?_⟩
    have b1 := okI_nat fp.t
    have b2 := okI_nat fp.b
    have b3 := okI_nat fq.t
    have b4 := okI_nat fq.b
    walk_at "yy"
    refine ⟨v, q, rfl, ho, fq.t, fun a H1 na ea s1 => ?_⟩
    walk_at "yy"
    refine y_gtup rfl (sqt ea) rfl ?_
    walk_at "yy"
    refine y_f (decide_eq_false h0) ?_
    walk_at "yy"
    refine ⟨_, C, _, _, _, rfl, (hx.same s1).choose_spec, T.cls, T.nT, rf_t _, ?_⟩
    walk_at "yy"
    refine y_I (mulW (up_lt b1 (by decide)) (up_lt b4 (by decide))) ?_
    walk_at "yy"
    refine ⟨_, C, _, _, _, rfl, (hx.same s1).choose_spec, T.cls, T.nB, rf_b _, ?_⟩
    walk_at "yy"
    refine y_I (mulW (up_lt b2 (by decide)) (up_lt b3 (by decide))) ?_
    walk_at "yy"
    exact ⟨_, _, rfl, Int.mul_ne_zero (Int.ne_of_gt fp.l.1) h0, up_lt (mul_lt b1 b4) (by decide), up_lt (mul_lt b2 b3) (by decide), h1, h2, fun z H2 nz hz s2 => k z H2 (Same.free s1 nz) hz (s1.trans s2)⟩
theorem sc_Ratio___abs__ : FnScope ["self"] ["self"] (defScope s_Ratio___abs__) := ⟨rfl, rfl, rfl, by decide +kernel, rfl, by decide +kernel, by decide +kernel⟩
-- 0 self
theorem ok_Ratio___abs__ {f : Addr} {fd : FuncData} (F : FunD K "__abs__" "Ratio.__abs__" (defArgs s_Ratio___abs__) (defBody s_Ratio___abs__) (defScope s_Ratio___abs__) [] [] f fd) (B : Blt mg) (Z : Con mg) {C : Addr} (T : RatioC K mg C) (C_ratio : Cal P w K mg base 4 "_ratio" ["top", "bottom"] (spRatio C)) : FnOk P w K mg base CX0 5 f fd ["self"] (spAbs C) := by
  refine F.ok sc_Ratio___abs__ (fun vs H Q E h => ?_) (fun cdv A outer s H vs Q E hr h => ?_)
  · obtain ⟨x, p, rfl, _⟩ := h
    rfl
  · obtain ⟨x, p, rfl, hx, fp, k⟩ := h
    refine ⟨_, PSs.nox (pss_one (ps_ret (pe_fn C_ratio (hr.mono (by decide)) (by rfl) (pa_cons (pe_callB c_abs (by rfl) B.n_abs (by decide +kernel) (pa_cons (e_fld (K := K) (pv 0)) pa_nil)) (pa_cons (e_fld (K := K) (pv 0)) pa_nil))))), ?_⟩
    have b1 := okI_nat fp.t
    have b2 := okI_nat fp.b
    have e := low_abs fp.l
    have e1 : lowT (p.1.natAbs : Int) p.2 = (p.1.natAbs : Int) := congrArg Prod.fst e
    have e2 : lowB (p.1.natAbs : Int) p.2 = p.2 := congrArg Prod.snd e
    walk_at "yy"
    refine ⟨_, C, _, _, _, rfl, (hx).choose_spec, T.cls, T.nT, rf_t _, ?_⟩
    walk_at "yy"
    refine ⟨_, C, _, _, _, rfl, (hx).choose_spec, T.cls, T.nB, rf_b _, ?_⟩
    walk_at "yy"
    refine ⟨_, _, rfl, Int.ne_of_gt fp.l.1, by rw [Int.natAbs_natCast]; exact up_lt b1 (by decide), up_lt b2 (by decide), ?_, ?_, ?_⟩
    · rw [e1]
      exact okI_mono fp.t (by rw [Int.natAbs_natCast]; exact Nat.le_refl _)
    · rw [e2]
      exact fp.b
    · rw [e]
      exact k
theorem sc_Ratio___bool__ : FnScope ["self"] ["self"] (defScope s_Ratio___bool__) := ⟨rfl, rfl, rfl, by decide +kernel, rfl, by decide +kernel, by decide +kernel⟩
-- 0 self
theorem ok_Ratio___bool__ {f : Addr} {fd : FuncData} (F : FunD K "__bool__" "Ratio.__bool__" (defArgs s_Ratio___bool__) (defBody s_Ratio___bool__) (defScope s_Ratio___bool__) [] [] f fd) (B : Blt mg) (Z : Con mg) {C : Addr} (T : RatioC K mg C) : FnOk P w K mg base CX0 1 f fd ["self"] (spBool C) := by
  refine F.ok sc_Ratio___bool__ (fun vs H Q E h => ?_) (fun cdv A outer s H vs Q E hr h => ?_)
  · obtain ⟨x, p, rfl, _⟩ := h
    rfl
  · obtain ⟨x, p, rfl, hx, k⟩ := h
    refine ⟨_, PSs.nox (pss_one (ps_ret (pe_callTy call_bool1 (by rfl) B.n_bool (by decide +kernel) (pa_cons (e_fld (K := K) (pv 0)) pa_nil)))), ?_⟩
    walk_at "yy"
    refine ⟨_, C, _, _, _, rfl, (hx).choose_spec, T.cls, T.nT, rf_t _, ?_⟩
    exact .inl ⟨_, rfl, k⟩
theorem sc_Ratio___str__ : FnScope ["self"] ["self"] (defScope s_Ratio___str__) := ⟨rfl, rfl, rfl, by decide +kernel, rfl, by decide +kernel, by decide +kernel⟩
-- 0 self
theorem ok_Ratio___str__ {f : Addr} {fd : FuncData} (F : FunD K "__str__" "Ratio.__str__" (defArgs s_Ratio___str__) (defBody s_Ratio___str__) (defScope s_Ratio___str__) [] [] f fd) (B : Blt mg) (Z : Con mg) {C : Addr} (T : RatioC K mg C) (C_Ratio_text : Prp P w K mg base 3 C "text" (spText C)) : FnOk P w K mg base CX0 5 f fd ["self"] (spText C) := by
  refine F.ok sc_Ratio___str__ (fun vs H Q E h => ?_) (fun cdv A outer s H vs Q E hr h => ?_)
  · obtain ⟨x, p, rfl, _⟩ := h
    rfl
  · obtain ⟨x, p, rfl, hx, fp, k⟩ := h
    refine ⟨_, PSs.nox (pss_one (ps_ret (pe_callTy SkE.call_str_str (by rfl) B.n_str (by decide +kernel) (pa_cons (e_prp C_Ratio_text T.cls (hr.mono (by decide)) (pv 0)) pa_nil)))), ?_⟩
    walk_at "yy"
    refine ⟨x, _, _, rfl, hx.choose_spec, x, p, rfl, hx, fp, fun H1 s1 => ?_⟩
    exact ⟨_, rfl, k _ s1⟩
theorem sc_Ratio___eq__ : FnScope ["self", "other"] ["self", "other"] (defScope s_Ratio___eq__) := ⟨rfl, rfl, rfl, by decide +kernel, rfl, by decide +kernel, by decide +kernel⟩
-- 0 self, 1 other
theorem ok_Ratio___eq__ {f : Addr} {fd : FuncData} (F : FunD K "__eq__" "Ratio.__eq__" (defArgs s_Ratio___eq__) (defBody s_Ratio___eq__) (defScope s_Ratio___eq__) [] [] f fd) (B : Blt mg) (Z : Con mg) {C : Addr} (T : RatioC K mg C) : FnOk P w K mg base CX0 1 f fd ["self", "other"] (spEqX K C) := by
  refine F.ok sc_Ratio___eq__ (fun vs H Q E h => ?_) (fun cdv A outer s H vs Q E hr h => ?_)
  · obtain ⟨x, v, p, rfl, _⟩ := h
    rfl
  · obtain ⟨x, v, p, rfl, hx, hor⟩ := h
    refine ⟨_, PSs.nox (pss_one (ps_ret (pe_and (pe_callB (c_isi (K := K)) (by rfl) B.n_isinstance (by decide +kernel) (pa_cons (pv 1) (pa_cons (pe_glob (v := .ref C) (by rfl) T.g rfl) pa_nil))) (pe_and (pe_cmpR op_eq (e_fld (K := K) (pv 0)) (e_fld (K := K) (pv 1)) (nomark _)) (pe_one (pe_cmpR op_eq (e_fld (K := K) (pv 0)) (e_fld (K := K) (pv 1)) (nomark _))))))), ?_⟩
    rcases hor with ⟨y, q, rfl, hy, k⟩ | ⟨t, ty, kt, k⟩
    · walk_at "yy"
      refine y_isC (k := true) (T.ty hy) kit_self ?_
      walk_at "yy"
      walk_at "yt"
      walk_at "yy"
      refine ⟨_, C, _, _, _, rfl, (hx).choose_spec, T.cls, T.nT, rf_t _, ?_⟩
      walk_at "yy"
      refine ⟨_, C, _, _, _, rfl, (hy).choose_spec, T.cls, T.nT, rf_t _, ?_⟩
      walk_at "yy"
      refine y_ite (fun h => ?_) (fun h => ?_)
      · walk_at "yy"
        refine ⟨_, C, _, _, _, rfl, (hx).choose_spec, T.cls, T.nB, rf_b _, ?_⟩
        walk_at "yy"
        refine ⟨_, C, _, _, _, rfl, (hy).choose_spec, T.cls, T.nB, rf_b _, ?_⟩
        walk_at "yy"
        have e : decide (p = q) = decide (p.2 = q.2) := by
          rw [decide_eq_decide]
          exact ⟨fun z => by rw [z], fun z => Prod.ext (of_decide_eq_true h) z⟩
        rw [← e]
        exact k
      · have e : decide (p = q) = false := decide_eq_false fun z => of_decide_eq_false h (by rw [z])
        rw [← e]
        exact k
    · walk_at "yy"
      refine y_isC (k := false) ty kt ?_
      walk_at "yy"
      walk_at "yf"
      exact k
theorem sc_Ratio_power : FnScope ["self", "exponent", "top", "bottom", "_"] ["self", "exponent"] (defScope s_Ratio_power) := ⟨rfl, rfl, rfl, by decide +kernel, rfl, by decide +kernel, by decide +kernel⟩
-- 0 self, 1 exponent, 2 top, 3 bottom, 4 _
theorem ok_Ratio_power {f : Addr} {fd : FuncData} (F : FunD K "power" "Ratio.power" (defArgs s_Ratio_power) (defBody s_Ratio_power) (defScope s_Ratio_power) [] [] f fd) (B : Blt mg) (Z : Con mg) {C : Addr} (T : RatioC K mg C) (C_is_integer : Cal P w K mg base 1 "is_integer" ["value"] spIsInt) (C_ratio : Cal P w K mg base 4 "_ratio" ["top", "bottom"] (spRatio C)) : FnOk P w K mg base CX0 5 f fd ["self", "exponent"] (spPow C) := by
  refine F.ok sc_Ratio_power (fun vs H Q E h => ?_) (fun cdv A outer s H vs Q E hr h => ?_)
  · obtain ⟨x, p, e, rfl, _⟩ := h
    rfl
  · obtain ⟨x, p, e, rfl, hx, lp, bp, he, h0, k⟩ := h
    refine ⟨_, PSs.nox (pss_cons (ps_if (PW.pt (pw_or (pt_not (pt_val (pe_fn C_is_integer (hr.mono (by decide)) (by rfl) (pa_cons (pv 1) pa_nil)))) (pw_or1 (pt_not (pt_chain op_le op_le (pe_un un_neg (pe_globI (by rfl) Z.g_MAX_POWER)) (pv 1) (pe_globI (by rfl) Z.g_MAX_POWER)))))) (pss_one ps_never) pss_nil) (pss_cons (ps_if (PW.pt (pw_and (pt_cmpR op_lt (pv 1) pe_int (nomark _)) (pw_and1 (pt_cmpR op_eq (e_fld (K := K) (pv 0)) pe_int (nomark _))))) (pss_one ps_never) pss_nil) (pss_cons (ps_asg (pe_tup (pa_cons pe_int (pa_cons pe_int pa_nil))) (g_tup (K := K) (n := 2) (by rfl) (pgs_cons (pg_name (i := 2) sc_Ratio_power.nd rfl (Or.inl rfl)) (pgs_cons (pg_name (i := 3) sc_Ratio_power.nd rfl (Or.inl rfl)) pgs_nil)))) (pss_cons (ps_for PassesOwn.never rfl (pi_range1 (by rfl) B.n_range (pa_cons (pe_callB c_abs (by rfl) B.n_abs (by decide +kernel) (pa_cons (pv 1) pa_nil)) pa_nil)) (pg_name (i := 4) sc_Ratio_power.nd rfl (Or.inl rfl)) (pss_one (ps_par (i := 2) (j := 3) (by rfl) sc_Ratio_power.nd rfl rfl (by decide) rfl rfl (pa_cons (pe_op op_mulW (pv 2) (e_fld (K := K) (pv 0))) (pa_cons (pe_op op_mulW (pv 3) (e_fld (K := K) (pv 0))) pa_nil)) (by rfl)))) (pss_one (ps_ret (pe_ifExp (pt_cmpR op_lt (pv 1) pe_int (nomark _)) (pe_fn C_ratio (hr.mono (by decide)) (by rfl) (pa_cons (pv 3) (pa_cons (pv 2) pa_nil))) (pe_fn C_ratio (hr.mono (by decide)) (by rfl) (pa_cons (pv 2) (pa_cons (pv 3) pa_nil)))))))))), ?_⟩
    have oe : okI e = true := okI_small (by omega)
    have bw := bd_pw bp
    have n0 := nz lp
    walk_at "yy"
    refine ⟨e, rfl, ?_⟩
    rw [oe]
    walk_at "yy"
    walk_at "yf"
    walk_at "yy"
    refine y_t (decide_eq_true (by omega)) ?_
    walk_at "yy"
    refine y_f (by rw [decide_eq_true (by omega)]; rfl) ?_
    walk_at "yy"
    refine y_ite (fun h => ?_) (fun h => ?_)
    · walk_at "yy"
      refine ⟨_, C, _, _, _, rfl, (hx).choose_spec, T.cls, T.nT, rf_t _, ?_⟩
      walk_at "yy"
      refine y_f (decide_eq_false (h0 (of_decide_eq_true h))) ?_
      walk_at "yy"
      refine ⟨by show 2 ≤ sizeLine; decide, fun t n => ?_⟩
      refine y_gtup rfl (sqt upd_same) rfl ?_
      walk_at "yy"
      refine ⟨_, rfl, by omega, by omega, y_forR (b := fun _ _ => False) (c := fun _ _ => False) (fun i σ H1 => ∃ u, σ = [some (.ref x), some (.int e), some (.int (pw p i).1), some (.int (pw p i).2), u] ∧ Same H H1) ⟨_, rfl, same_new n⟩ ?_ ?_⟩
      · rintro i σ H1 hi ⟨u, rfl, sm⟩
        have hi : i < 3 := by omega
        have c1 := (bw i).1
        have c2 := (bw i).2
        walk_at "yy"
        refine ⟨_, C, _, _, _, rfl, (hx.same sm).choose_spec, T.cls, T.nT, rf_t _, ?_⟩
        refine y_I (mulW (up_lt c1 (by omega)) (up_lt bp.1 (by decide))) ?_
        walk_at "yy"
        refine ⟨_, C, _, _, _, rfl, (hx.same sm).choose_spec, T.cls, T.nB, rf_b _, ?_⟩
        refine y_I (mulW (up_lt c2 (by omega)) (up_lt bp.2 (by decide))) ?_
        walk_at "yy"
        exact ⟨_, _, rfl, _, rfl, sm⟩
      · rintro σ H1 ⟨u, rfl, sm⟩
        have en : ((e.natAbs : Int)).toNat = e.natAbs := Int.toNat_natCast _
        rw [en]
        have bn := bw e.natAbs
        have c1 := up_lt (b := 430) bn.1 (by omega)
        have c2 := up_lt (b := 430) bn.2 (by omega)
        walk_at "yy"
        refine y_ite (fun g => ?_) (fun g => ?_)
        · have g := of_decide_eq_true g
          have d0 := pw_nz1 (h0 g) e.natAbs
          have bl := bd_low (n := 430) (t := (pw p e.natAbs).2) d0 ⟨c2, c1⟩
          walk_at "yy"
          refine ⟨_, _, rfl, d0, up_lt c2 (by decide), up_lt c1 (by decide), okI_bd bl.1 (by decide), okI_bd bl.2 (by decide), fun z H2 nz hz s2 => k z H2 (Same.free sm nz) ?_ (sm.trans s2)⟩
          unfold powP
          rw [if_pos g]
          exact hz
        · have g := of_decide_eq_false g
          have d0 := pw_nz n0 e.natAbs
          have bl := bd_low (n := 430) (t := (pw p e.natAbs).1) d0 ⟨c1, c2⟩
          walk_at "yy"
          refine ⟨_, _, rfl, d0, up_lt c1 (by decide), up_lt c2 (by decide), okI_bd bl.1 (by decide), okI_bd bl.2 (by decide), fun z H2 nz hz s2 => k z H2 (Same.free sm nz) ?_ (sm.trans s2)⟩
          unfold powP
          rw [if_neg g]
          exact hz
    · walk_at "yy"
      refine ⟨by show 2 ≤ sizeLine; decide, fun t n => ?_⟩
      refine y_gtup rfl (sqt upd_same) rfl ?_
      walk_at "yy"
      refine ⟨_, rfl, by omega, by omega, y_forR (b := fun _ _ => False) (c := fun _ _ => False) (fun i σ H1 => ∃ u, σ = [some (.ref x), some (.int e), some (.int (pw p i).1), some (.int (pw p i).2), u] ∧ Same H H1) ⟨_, rfl, same_new n⟩ ?_ ?_⟩
      · rintro i σ H1 hi ⟨u, rfl, sm⟩
        have hi : i < 3 := by omega
        have c1 := (bw i).1
        have c2 := (bw i).2
        walk_at "yy"
        refine ⟨_, C, _, _, _, rfl, (hx.same sm).choose_spec, T.cls, T.nT, rf_t _, ?_⟩
        refine y_I (mulW (up_lt c1 (by omega)) (up_lt bp.1 (by decide))) ?_
        walk_at "yy"
        refine ⟨_, C, _, _, _, rfl, (hx.same sm).choose_spec, T.cls, T.nB, rf_b _, ?_⟩
        refine y_I (mulW (up_lt c2 (by omega)) (up_lt bp.2 (by decide))) ?_
        walk_at "yy"
        exact ⟨_, _, rfl, _, rfl, sm⟩
      · rintro σ H1 ⟨u, rfl, sm⟩
        have en : ((e.natAbs : Int)).toNat = e.natAbs := Int.toNat_natCast _
        rw [en]
        have bn := bw e.natAbs
        have c1 := up_lt (b := 430) bn.1 (by omega)
        have c2 := up_lt (b := 430) bn.2 (by omega)
        walk_at "yy"
        refine y_ite (fun g => ?_) (fun g => ?_)
        · have g := of_decide_eq_true g
          have d0 := pw_nz1 (h0 g) e.natAbs
          have bl := bd_low (n := 430) (t := (pw p e.natAbs).2) d0 ⟨c2, c1⟩
          walk_at "yy"
          refine ⟨_, _, rfl, d0, up_lt c2 (by decide), up_lt c1 (by decide), okI_bd bl.1 (by decide), okI_bd bl.2 (by decide), fun z H2 nz hz s2 => k z H2 (Same.free sm nz) ?_ (sm.trans s2)⟩
          unfold powP
          rw [if_pos g]
          exact hz
        · have g := of_decide_eq_false g
          have d0 := pw_nz n0 e.natAbs
          have bl := bd_low (n := 430) (t := (pw p e.natAbs).1) d0 ⟨c1, c2⟩
          walk_at "yy"
          refine ⟨_, _, rfl, d0, up_lt c1 (by decide), up_lt c2 (by decide), okI_bd bl.1 (by decide), okI_bd bl.2 (by decide), fun z H2 nz hz s2 => k z H2 (Same.free sm nz) ?_ (sm.trans s2)⟩
          unfold powP
          rw [if_neg g]
          exact hz
theorem sc_law_dice : FnScope ["_law_script", "_law_spot", "_law_cell", "_law_great_here", "_law_blend"] ["_law_script", "_law_spot"] (defScope s_law_dice) := ⟨rfl, rfl, rfl, by decide +kernel, rfl, by decide +kernel, by decide +kernel⟩
-- 0 _law_script, 1 _law_spot, 2 _law_cell, 3 _law_great_here, 4 _law_blend
theorem ok_law_dice {f : Addr} {fd : FuncData} (F : FunD K "_law_dice" "_law_dice" (defArgs s_law_dice) (defBody s_law_dice) (defScope s_law_dice) [] [] f fd) (B : Blt mg) (Z : Con mg) {C : Addr} (T : RatioC K mg C) : FnOk P w K mg base CX0 1 f fd ["_law_script", "_law_spot"] (spDice K) := by
  refine F.ok sc_law_dice (fun vs H Q E h => ?_) (fun cdv A outer s H vs Q E hr h => ?_)
  · obtain ⟨a, i, ns, rfl, _⟩ := h
    rfl
  · obtain ⟨a, i, ns, rfl, hS, h0, h1, k⟩ := h
    refine ⟨_, PSs.nox (pss_cons (ps_set (i := 2) sc_law_dice.nd rfl (Or.inl rfl) (pe_op op_add (pe_op op_mul pe_int (pv 1)) pe_int)) (pss_cons (ps_if (pt_cmpR op_lt (pv 1) (pe_callB (c_lenQ (K := K)) (by rfl) B.n_len (by decide +kernel) (pa_cons (pv 0) pa_nil)) (nomark _)) (pss_one (ps_set (i := 2) sc_law_dice.nd rfl (Or.inl rfl) (pe_ix (x_list (K := K)) (pv 0) (pv 1) (fun _ _ => rfl)))) pss_nil) (pss_cons (ps_set (i := 3) sc_law_dice.nd rfl (Or.inl rfl) (pe_op op_mod (pe_callTy c_int (by rfl) B.n_int (by decide +kernel) (pa_cons (pe_callB c_abs (by rfl) B.n_abs (by decide +kernel) (pa_cons (pv 2) pa_nil)) pa_nil)) (pe_op op_powW (pe_op op_powW pe_int pe_int) pe_int))) (pss_cons (ps_set (i := 4) sc_law_dice.nd rfl (Or.inl rfl) (pe_op op_add (pe_op op_add (pe_op op_add (pe_op op_mul (pe_op op_mod (pe_callTy c_int (by rfl) B.n_int (by decide +kernel) (pa_cons (pv 3) pa_nil)) pe_int) pe_int) (pe_op op_mul pe_int (pv 1))) (pe_op op_mul pe_int (pe_callTy c_int (by rfl) B.n_int (by decide +kernel) (pa_cons (pe_cmpR op_lt (pv 2) pe_int (nomark _)) pa_nil)))) pe_int)) (pss_one (ps_ret (pe_lst (pa_cons (pe_callB (c_max2 rfl) (by rfl) B.n_max (by decide +kernel) (pa_cons pe_int (pa_cons (pe_op op_sub (pv 3) (pe_op op_powW pe_int pe_int)) pa_nil))) (pa_cons (pe_op op_mod (pe_callTy c_int (by rfl) B.n_int (by decide +kernel) (pa_cons (pv 4) pa_nil)) pe_int) (pa_cons pe_int pa_nil)))))))))), ?_⟩
    walk_at "yy"
    walk_at "yi"
    walk_at "yy"
    refine y_lenL hS ?_
    walk_at "yy"
    -- if spot < len(script): cell = script[spot]; both ways come together
    refine y_join (fun cell : Int => [some (.ref a), some (.int i), some (.int cell), none, none]) (71 * i + 29) rfl (fun cell => ?_) (fun hk J => ?_)
    · walk_at "yy"
      walk_at "yi"
      walk_at "yy"
      walk_at "yi"
      walk_at "yy"
      walk_at "yi"
      walk_at "yy"
      generalize ((cell.natAbs : Int) % _) = great
      walk_at "yy"
      walk_at "yi"
      walk_at "yy"
      walk_at "yi"
      walk_at "yy"
      walk_at "yi"
      walk_at "yy"
      walk_at "yi"
      walk_at "yy"
      generalize (great % 2305843009213693613 * 1000427 + 8111 * i + 59 * _ + 31) = blend
      walk_at "yy"
      walk_at "yi"
      walk_at "yy"
      walk_at "yi"
      walk_at "yy"
      exact ⟨by show 3 ≤ sizeLine; decide, fun p hp => k p _ hp ⟨_, _, _, upd_same⟩ (same_new hp)⟩
    · have hk := of_decide_eq_true hk
      rw [List.length_map] at hk
      have hn : i.toNat < ns.length := by omega
      walk_at "yy"
      refine y_ixL hS (at_nat h0 (v := .int ns[i.toNat]) (by simp [hn])) ?_
      exact J _
theorem sc_law_roll : FnScope ["_law_dice_here", "_law_total", "_law_found", "_law_one", "_law_two"] ["_law_dice_here", "_law_total"] (defScope s_law_roll) := ⟨rfl, rfl, rfl, by decide +kernel, rfl, by decide +kernel, by decide +kernel⟩
-- 0 _law_dice_here, 1 _law_total, 2 _law_found, 3 _law_one, 4 _law_two
theorem ok_law_roll {f : Addr} {fd : FuncData} (F : FunD K "_law_roll" "_law_roll" (defArgs s_law_roll) (defBody s_law_roll) (defScope s_law_roll) [] [] f fd) (B : Blt mg) (Z : Con mg) {C : Addr} (T : RatioC K mg C) : FnOk P w K mg base CX0 1 f fd ["_law_dice_here", "_law_total"] spRoll := by
  refine F.ok sc_law_roll (fun vs H Q E h => ?_) (fun cdv A outer s H vs Q E hr h => ?_)
  · obtain ⟨d, t, rfl, _⟩ := h
    rfl
  · obtain ⟨d, t, rfl, ⟨g, e, c, hd⟩, h0, h1, k⟩ := h
    refine ⟨_, PSs.nox (pss_cons (ps_if (pt_cmpR op_gt (pe_ix (x_list (K := K)) (pv 0) pe_int (fun _ _ => rfl)) pe_int (nomark _)) (pss_cons (ps_set (i := 2) sc_law_roll.nd rfl (Or.inl rfl) (pe_op op_mod (pe_callTy c_int (by rfl) B.n_int (by decide +kernel) (pa_cons (pe_ix (x_list (K := K)) (pv 0) pe_int (fun _ _ => rfl)) pa_nil)) (pv 1))) (pss_cons (ps_asg (pe_op op_fdivW (pe_ix (x_list (K := K)) (pv 0) pe_int (fun _ _ => rfl)) (pv 1)) (pg_sub (pv 0) pe_int set_list)) (pss_one (ps_ret (pv 2))))) pss_nil) (pss_cons (ps_asg (pe_op op_add (pe_ix (x_list (K := K)) (pv 0) pe_int (fun _ _ => rfl)) pe_int) (pg_sub (pv 0) pe_int set_list)) (pss_cons (ps_set (i := 3) sc_law_roll.nd rfl (Or.inl rfl) (pe_op op_mod (pe_callTy c_int (by rfl) B.n_int (by decide +kernel) (pa_cons (pe_op op_add (pe_ix (x_list (K := K)) (pv 0) pe_int (fun _ _ => rfl)) (pe_op op_mul pe_int (pe_ix (x_list (K := K)) (pv 0) pe_int (fun _ _ => rfl)))) pa_nil)) pe_int)) (pss_cons (ps_set (i := 4) sc_law_roll.nd rfl (Or.inl rfl) (pe_op op_add (pe_op op_mul (pe_op op_mod (pe_callTy c_int (by rfl) B.n_int (by decide +kernel) (pa_cons (pe_op op_mul (pv 3) (pv 3)) pa_nil)) pe_int) (pv 3)) (pe_op op_mul pe_int (pe_ix (x_list (K := K)) (pv 0) pe_int (fun _ _ => rfl))))) (pss_cons (ps_set (i := 4) sc_law_roll.nd rfl (Or.inl rfl) (pe_op op_mod (pe_callTy c_int (by rfl) B.n_int (by decide +kernel) (pa_cons (pv 4) pa_nil)) pe_int)) (pss_one (ps_ret (pe_op op_mod (pe_callTy c_int (by rfl) B.n_int (by decide +kernel) (pa_cons (pe_op op_fdivW (pv 4) pe_int) pa_nil)) (pv 1))))))))), ?_⟩
    have hdv : ∀ i : Int, CDivW i t := fun i => big_div h0 h1
    walk_at "yy"
    refine y_ixL (sql hd) rfl ?_
    walk_at "yy"
    refine y_ite (fun hk => ?_) (fun hk => ?_)
    · walk_at "yy"
      refine y_ixL (sql hd) rfl ?_
      walk_at "yy"
      walk_at "yi"
      walk_at "yy"
      refine y_ixL (sql hd) rfl ?_
      walk_at "yy"
      refine y_I (hdv _) ?_
      walk_at "yy"
      refine y_setL hd rfl ?_
      walk_at "yy"
      exact k _ _ (Int.emod_nonneg _ (by omega)) (Int.emod_lt_of_pos _ h0) ⟨_, _, _, upd_same⟩ Fr.self
    · walk_at "yy"
      refine y_ixL (sql hd) rfl ?_
      walk_at "yy"
      refine y_setL hd rfl ?_
      walk_at "yy"
      refine y_ixL (sql upd_same) rfl ?_
      walk_at "yy"
      refine y_ixL (sql upd_same) rfl ?_
      walk_at "yy"
      walk_at "yi"
      walk_at "yy"
      walk_at "yi"
      walk_at "yy"
      generalize e1 : (e + 998244289 * (c + 1)) % 2305843009213693951 = one
      have b0 : 0 ≤ one := by omega
      have b1 : one < 2305843009213693951 := by omega
      clear e1
      walk_at "yy"
      walk_at "yi"
      walk_at "yy"
      walk_at "yi"
      walk_at "yy"
      generalize e2 : one * one % 2305843009213693883 = sq
      have b2 : 0 ≤ sq := by omega
      have b3 : sq < 2305843009213693883 := by omega
      clear e2
      walk_at "yi"
      walk_at "yy"
      refine y_ixL (sql upd_same) rfl ?_
      walk_at "yy"
      walk_at "yi"
      walk_at "yy"
      walk_at "yi"
      walk_at "yy"
      refine y_I (big_div (by decide) (by decide)) ?_
      walk_at "yy"
      refine y_I (show (0 : Int) < t from h0) ?_
      exact k _ _ (Int.emod_nonneg _ (by omega)) (Int.emod_lt_of_pos _ h0) ⟨_, _, _, upd_same⟩ Fr.self
theorem sc_law_pick : FnScope ["_law_dice_here", "_law_items"] ["_law_dice_here", "_law_items"] (defScope s_law_pick) := ⟨rfl, rfl, rfl, by decide +kernel, rfl, by decide +kernel, by decide +kernel⟩
-- 0 _law_dice_here, 1 _law_items
theorem ok_law_pick {f : Addr} {fd : FuncData} (F : FunD K "_law_pick" "_law_pick" (defArgs s_law_pick) (defBody s_law_pick) (defScope s_law_pick) [] [] f fd) (B : Blt mg) (Z : Con mg) {C : Addr} (T : RatioC K mg C) (C_law_roll : Cal P w K mg base 1 "_law_roll" ["_law_dice_here", "_law_total"] spRoll) : FnOk P w K mg base CX0 2 f fd ["_law_dice_here", "_law_items"] (spPick K) := by
  refine F.ok sc_law_pick (fun vs H Q E h => ?_) (fun cdv A outer s H vs Q E hr h => ?_)
  · obtain ⟨d, l, ys, rfl, _⟩ := h
    rfl
  · obtain ⟨d, l, ys, rfl, hD, hl, nl, h0, h1, k⟩ := h
    refine ⟨_, PSs.nox (pss_one (ps_ret (pe_ix (x_list (K := K)) (pv 1) (pe_fn C_law_roll (hr.mono (by decide)) (by rfl) (pa_cons (pv 0) (pa_cons (pe_callB (c_lenQ (K := K)) (by rfl) B.n_len (by decide +kernel) (pa_cons (pv 1) pa_nil)) pa_nil))) (fun _ _ => rfl)))), ?_⟩
    walk_at "yy"
    refine y_lenL hl ?_
    walk_at "yy"
    refine ⟨d, _, rfl, hD, by omega, ?_, fun n H' n0 n1 hD' f => ?_⟩
    · have : (2 : Nat) ^ 4000 > 100000 := by decide +kernel
      omega
    obtain ⟨v, e, m⟩ := getD_at n0 n1
    exact y_ixL (f.lst nl hl) (at_nat n0 e) (k v H' m hD' f)
theorem sc_law_ratio : FnScope ["_law_top", "_law_bottom", "_law_one", "_law_other", "_law_sign"] ["_law_top", "_law_bottom"] (defScope s_law_ratio) := ⟨rfl, rfl, rfl, by decide +kernel, rfl, by decide +kernel, by decide +kernel⟩
-- 0 _law_top, 1 _law_bottom, 2 _law_one, 3 _law_other, 4 _law_sign
theorem ok_law_ratio {f : Addr} {fd : FuncData} (F : FunD K "_law_ratio" "_law_ratio" (defArgs s_law_ratio) (defBody s_law_ratio) (defScope s_law_ratio) [] [] f fd) (B : Blt mg) (Z : Con mg) {C : Addr} (T : RatioC K mg C) : FnOk P w K mg base CX0 1 f fd ["_law_top", "_law_bottom"] spLRatio := by
  refine F.ok sc_law_ratio (fun vs H Q E h => ?_) (fun cdv A outer s H vs Q E hr h => ?_)
  · obtain ⟨t, b, rfl, _⟩ := h
    rfl
  · obtain ⟨t, b, rfl, h0, ht, hb, k⟩ := h
    refine ⟨_, PSs.nox (pss_cons (ps_par (i := 2) (j := 3) (by rfl) sc_law_ratio.nd rfl rfl (by decide) rfl rfl (pa_cons (pe_callB c_abs (by rfl) B.n_abs (by decide +kernel) (pa_cons (pv 0) pa_nil)) (pa_cons (pe_callB c_abs (by rfl) B.n_abs (by decide +kernel) (pa_cons (pv 1) pa_nil)) pa_nil)) (by rfl)) (pss_cons (ps_while PassesOwn.never (pt_cmpR op_gt (pv 3) pe_int (nomark _)) (pss_one (ps_par (i := 2) (j := 3) (by rfl) sc_law_ratio.nd rfl rfl (by decide) rfl rfl (pa_cons (pv 3) (pa_cons (pe_op op_mod (pv 2) (pv 3)) pa_nil)) (by rfl)))) (pss_cons (ps_set (i := 4) sc_law_ratio.nd rfl (Or.inl rfl) (pe_ifExp (pt_cmpR op_lt (pv 1) pe_int (nomark _)) (pe_un un_neg pe_int) pe_int)) (pss_one (ps_ret (pe_tup (pa_cons (pe_op op_fdivW (pe_op op_mul (pv 4) (pv 0)) (pv 2)) (pa_cons (pe_op op_fdivW (pe_op op_mul (pv 4) (pv 1)) (pv 2)) pa_nil)))))))), ?_⟩
    have hg := gI_pos (t := t) h0
    have hl := gI_le (t := t) h0
    have hd : ∀ i : Int, CDivW i (gI t b) := fun i => big_div hg (Nat.lt_of_le_of_lt hl hb)
    walk_at "yy"
    refine y_while ⟨fun m σ H' => ∃ u v : Nat, σ = [some (.int t), some (.int b), some (.int (u : Int)), some (.int (v : Int)), none] ∧ Nat.gcd u v = Nat.gcd t.natAbs b.natAbs ∧ m = v ∧ H' = H, ⟨_, t.natAbs, b.natAbs, rfl, rfl, rfl, rfl⟩, ?_⟩
    rintro m σ H' ⟨u, v, rfl, eg, em, rfl⟩
    walk_at "yy"
    refine y_ite (fun h => ?_) (fun h => ?_)
    · have h := of_decide_eq_true h
      have hv : 0 < v := by omega
      refine ⟨fun σ' H2 => ∃ v' : Nat, σ' = [some (.int t), some (.int b), some (.int (v : Int)), some (.int (v' : Int)), none] ∧ Nat.gcd v v' = Nat.gcd t.natAbs b.natAbs ∧ v' < v ∧ H2 = H', fun σ' H2 ⟨v', e, g, l, eH⟩ => ⟨v', by omega, v, v', e, g, rfl, eH⟩, ?_⟩
      walk_at "yy"
      refine y_I (show (0 : Int) < (v : Int) by omega) ?_
      walk_at "yy"
      refine ⟨_, _, rfl, u % v, rfl, ?_, Nat.mod_lt _ hv, rfl⟩
      rw [← eg, Nat.gcd_comm u v, Nat.gcd_rec v u, Nat.gcd_comm]
    · have h := of_decide_eq_false h
      have hv : v = 0 := by omega
      subst hv
      rw [Nat.gcd_zero_right] at eg
      subst eg
      have fin : ∀ sg : Int, sg = (if b < 0 then -1 else 1) → (-(2 ^ 64) < sg ∧ sg < 2 ^ 64) → ∀ (p : Addr) (H2 : Hp), H' p = none → H2 = upd H' p (.tup [.int ((sg * t) / gI t b), .int ((sg * b) / gI t b)]) → Q (.ref p) H2 := fun sg es _ p H2 hp e => by
        subst es
        refine k p H2 hp ?_ (by rw [e]; exact same_new hp)
        rw [e, upd_same, lowT_eq h0, lowB_eq h0]
        rfl
      walk_at "yy"
      refine y_ite (fun hn => ?_) (fun hn => ?_)
      · have hn := of_decide_eq_true hn
        walk_at "yy"
        walk_at "yi"
        walk_at "yy"
        refine y_I (hd _) ?_
        walk_at "yy"
        walk_at "yi"
        walk_at "yy"
        refine y_I (hd _) ?_
        walk_at "yy"
        exact ⟨by show 2 ≤ sizeLine; decide, fun p hp => fin (-1) (by rw [if_pos hn]) (by decide) p _ hp rfl⟩
      · have hn := of_decide_eq_false hn
        walk_at "yy"
        walk_at "yi"
        walk_at "yy"
        refine y_I (hd _) ?_
        walk_at "yy"
        walk_at "yi"
        walk_at "yy"
        refine y_I (hd _) ?_
        walk_at "yy"
        exact ⟨by show 2 ≤ sizeLine; decide, fun p hp => fin 1 (by rw [if_neg hn]) (by decide) p _ hp rfl⟩
theorem sc_law_plus : FnScope ["_law_one", "_law_other"] ["_law_one", "_law_other"] (defScope s_law_plus) := ⟨rfl, rfl, rfl, by decide +kernel, rfl, by decide +kernel, by decide +kernel⟩
-- 0 _law_one, 1 _law_other
theorem ok_law_plus {f : Addr} {fd : FuncData} (F : FunD K "_law_plus" "_law_plus" (defArgs s_law_plus) (defBody s_law_plus) (defScope s_law_plus) [] [] f fd) (B : Blt mg) (Z : Con mg) {C : Addr} (T : RatioC K mg C) (C_law_ratio : Cal P w K mg base 1 "_law_ratio" ["_law_top", "_law_bottom"] spLRatio) : FnOk P w K mg base CX0 2 f fd ["_law_one", "_law_other"] (spLPlus K) := by
  refine F.ok sc_law_plus (fun vs H Q E h => ?_) (fun cdv A outer s H vs Q E hr h => ?_)
  · obtain ⟨a, b, p, q, rfl, _⟩ := h
    rfl
  · obtain ⟨a, b, p, q, rfl, ha, hb, fp, fq, k⟩ := h
    refine ⟨_, PSs.nox (pss_one (ps_ret (pe_fn C_law_ratio (hr.mono (by decide)) (by rfl) (pa_cons (pe_op op_add (pe_op op_mulW (pe_ix (x_tup (K := K)) (pv 0) pe_int (fun _ _ => rfl)) (pe_ix (x_tup (K := K)) (pv 1) pe_int (fun _ _ => rfl))) (pe_op op_mulW (pe_ix (x_tup (K := K)) (pv 1) pe_int (fun _ _ => rfl)) (pe_ix (x_tup (K := K)) (pv 0) pe_int (fun _ _ => rfl)))) (pa_cons (pe_op op_mulW (pe_ix (x_tup (K := K)) (pv 0) pe_int (fun _ _ => rfl)) (pe_ix (x_tup (K := K)) (pv 1) pe_int (fun _ _ => rfl))) pa_nil))))), ?_⟩
    have b1 := okI_nat fp.t
    have b2 := okI_nat fp.b
    have b3 := okI_nat fq.t
    have b4 := okI_nat fq.b
    walk_at "yy"
    refine y_ixT ha rfl ?_
    walk_at "yy"
    refine y_ixT hb rfl ?_
    refine y_I (mulW (up_lt b1 (by decide)) (up_lt b4 (by decide))) ?_
    walk_at "yy"
    refine y_ixT hb rfl ?_
    walk_at "yy"
    refine y_ixT ha rfl ?_
    refine y_I (mulW (up_lt b3 (by decide)) (up_lt b2 (by decide))) ?_
    walk_at "yy"
    refine y_ixT ha rfl ?_
    walk_at "yy"
    refine y_ixT hb rfl ?_
    refine y_I (mulW (up_lt b2 (by decide)) (up_lt b4 (by decide))) ?_
    walk_at "yy"
    exact ⟨_, _, rfl, Int.ne_of_gt (Int.mul_pos fp.l.1 fq.l.1), up_lt (add_lt (mul_lt b1 b4) (mul_lt b3 b2)) (by decide), up_lt (mul_lt b2 b4) (by decide), k⟩
theorem sc_law_fraction : FnScope ["_law_dice_here"] ["_law_dice_here"] (defScope s_law_fraction) := ⟨rfl, rfl, rfl, by decide +kernel, rfl, by decide +kernel, by decide +kernel⟩
-- 0 _law_dice_here
theorem ok_law_fraction {f : Addr} {fd : FuncData} (F : FunD K "_law_fraction" "_law_fraction" (defArgs s_law_fraction) (defBody s_law_fraction) (defScope s_law_fraction) [] [] f fd) (B : Blt mg) (Z : Con mg) {C : Addr} (T : RatioC K mg C) (C_law_roll : Cal P w K mg base 1 "_law_roll" ["_law_dice_here", "_law_total"] spRoll) (C_law_pick : Cal P w K mg base 2 "_law_pick" ["_law_dice_here", "_law_items"] (spPick K)) (C_law_ratio : Cal P w K mg base 1 "_law_ratio" ["_law_top", "_law_bottom"] spLRatio) : FnOk P w K mg base CX0 3 f fd ["_law_dice_here"] spLFrac := by
  refine F.ok sc_law_fraction (fun vs H Q E h => ?_) (fun cdv A outer s H vs Q E hr h => ?_)
  · obtain ⟨d, rfl, _⟩ := h
    rfl
  · obtain ⟨d, rfl, hD, k⟩ := h
    refine ⟨_, PSs.nox (pss_one (ps_ret (pe_fn C_law_ratio (hr.mono (by decide)) (by rfl) (pa_cons (pe_op op_sub (pe_fn C_law_roll (hr.mono (by decide)) (by rfl) (pa_cons (pv 0) (pa_cons pe_int pa_nil))) pe_int) (pa_cons (pe_fn C_law_pick (hr.mono (by decide)) (by rfl) (pa_cons (pv 0) (pa_cons (pe_lst (pa_cons pe_int (pa_cons pe_int (pa_cons pe_int (pa_cons pe_int (pa_cons pe_int (pa_cons pe_int (pa_cons pe_int pa_nil)))))))) pa_nil))) pa_nil))))), ?_⟩
    walk_at "yy"
    refine ⟨d, 13, rfl, hD, by decide, big_of (by decide), fun n H1 m0 m1 hD1 f1 => ?_⟩
    walk_at "yy"
    refine ⟨by show 7 ≤ sizeLine; decide, fun p np => ?_⟩
    walk_at "yy"
    refine ⟨d, p, _, rfl, hD1.new np, sql upd_same, hD1.ne np, by show 0 < 7; decide, by show 7 ≤ 100000; decide, fun v H2 mv hD2 f2 => ?_⟩
    obtain ⟨b, rfl, hb⟩ : ∃ b : Int, v = .int b ∧ b ∈ [1, 2, 3, 4, 5, (6 : Int)] := by
      simp only [List.mem_cons, List.not_mem_nil, or_false] at mv
      rcases mv with rfl | rfl | rfl | rfl | rfl | rfl | rfl <;> exact ⟨_, rfl, by decide⟩
    have hb2 : 1 ≤ b ∧ b ≤ 6 := by
      simp only [List.mem_cons, List.not_mem_nil, or_false] at hb
      omega
    walk_at "yy"
    have f02 : Fr d H H2 := f1.trans ((Fr.new np).trans f2)
    refine ⟨n - 6, b, rfl, by omega, big_of (by omega), big_of (by omega), fun a H3 na ea s3 => ?_⟩
    exact k _ a H3 (fracs_mem (by omega) (by omega) hb) (free_fr f02 na (hD2.ne na)) ea (hD2.same s3) (f02.trans (Fr.of_same s3))
theorem sc_law_minus : FnScope ["_law_one", "_law_other"] ["_law_one", "_law_other"] (defScope s_law_minus) := ⟨rfl, rfl, rfl, by decide +kernel, rfl, by decide +kernel, by decide +kernel⟩
-- 0 _law_one, 1 _law_other
theorem ok_law_minus {f : Addr} {fd : FuncData} (F : FunD K "_law_minus" "_law_minus" (defArgs s_law_minus) (defBody s_law_minus) (defScope s_law_minus) [] [] f fd) (B : Blt mg) (Z : Con mg) {C : Addr} (T : RatioC K mg C) (C_law_ratio : Cal P w K mg base 1 "_law_ratio" ["_law_top", "_law_bottom"] spLRatio) : FnOk P w K mg base CX0 2 f fd ["_law_one", "_law_other"] (spLMinus K) := by
  refine F.ok sc_law_minus (fun vs H Q E h => ?_) (fun cdv A outer s H vs Q E hr h => ?_)
  · obtain ⟨a, b, p, q, rfl, _⟩ := h
    rfl
  · obtain ⟨a, b, p, q, rfl, ha, hb, fp, fq, k⟩ := h
    refine ⟨_, PSs.nox (pss_one (ps_ret (pe_fn C_law_ratio (hr.mono (by decide)) (by rfl) (pa_cons (pe_op op_sub (pe_op op_mulW (pe_ix (x_tup (K := K)) (pv 0) pe_int (fun _ _ => rfl)) (pe_ix (x_tup (K := K)) (pv 1) pe_int (fun _ _ => rfl))) (pe_op op_mulW (pe_ix (x_tup (K := K)) (pv 1) pe_int (fun _ _ => rfl)) (pe_ix (x_tup (K := K)) (pv 0) pe_int (fun _ _ => rfl)))) (pa_cons (pe_op op_mulW (pe_ix (x_tup (K := K)) (pv 0) pe_int (fun _ _ => rfl)) (pe_ix (x_tup (K := K)) (pv 1) pe_int (fun _ _ => rfl))) pa_nil))))), ?_⟩
    have b1 := okI_nat fp.t
    have b2 := okI_nat fp.b
    have b3 := okI_nat fq.t
    have b4 := okI_nat fq.b
    walk_at "yy"
    refine y_ixT ha rfl ?_
    walk_at "yy"
    refine y_ixT hb rfl ?_
    refine y_I (mulW (up_lt b1 (by decide)) (up_lt b4 (by decide))) ?_
    walk_at "yy"
    refine y_ixT hb rfl ?_
    walk_at "yy"
    refine y_ixT ha rfl ?_
    refine y_I (mulW (up_lt b3 (by decide)) (up_lt b2 (by decide))) ?_
    walk_at "yy"
    refine y_ixT ha rfl ?_
    walk_at "yy"
    refine y_ixT hb rfl ?_
    refine y_I (mulW (up_lt b2 (by decide)) (up_lt b4 (by decide))) ?_
    walk_at "yy"
    exact ⟨_, _, rfl, Int.ne_of_gt (Int.mul_pos fp.l.1 fq.l.1), up_lt (sub_lt (mul_lt b1 b4) (mul_lt b3 b2)) (by decide), up_lt (mul_lt b2 b4) (by decide), k⟩
theorem sc_law_times : FnScope ["_law_one", "_law_other"] ["_law_one", "_law_other"] (defScope s_law_times) := ⟨rfl, rfl, rfl, by decide +kernel, rfl, by decide +kernel, by decide +kernel⟩
-- 0 _law_one, 1 _law_other
theorem ok_law_times {f : Addr} {fd : FuncData} (F : FunD K "_law_times" "_law_times" (defArgs s_law_times) (defBody s_law_times) (defScope s_law_times) [] [] f fd) (B : Blt mg) (Z : Con mg) {C : Addr} (T : RatioC K mg C) (C_law_ratio : Cal P w K mg base 1 "_law_ratio" ["_law_top", "_law_bottom"] spLRatio) : FnOk P w K mg base CX0 2 f fd ["_law_one", "_law_other"] (spLTimes K) := by
  refine F.ok sc_law_times (fun vs H Q E h => ?_) (fun cdv A outer s H vs Q E hr h => ?_)
  · obtain ⟨a, b, p, q, rfl, _⟩ := h
    rfl
  · obtain ⟨a, b, p, q, rfl, ha, hb, fp, fq, k⟩ := h
    refine ⟨_, PSs.nox (pss_one (ps_ret (pe_fn C_law_ratio (hr.mono (by decide)) (by rfl) (pa_cons (pe_op op_mulW (pe_ix (x_tup (K := K)) (pv 0) pe_int (fun _ _ => rfl)) (pe_ix (x_tup (K := K)) (pv 1) pe_int (fun _ _ => rfl))) (pa_cons (pe_op op_mulW (pe_ix (x_tup (K := K)) (pv 0) pe_int (fun _ _ => rfl)) (pe_ix (x_tup (K := K)) (pv 1) pe_int (fun _ _ => rfl))) pa_nil))))), ?_⟩
    have b1 := okI_nat fp.t
    have b2 := okI_nat fp.b
    have b3 := okI_nat fq.t
    have b4 := okI_nat fq.b
    walk_at "yy"
    refine y_ixT ha rfl ?_
    walk_at "yy"
    refine y_ixT hb rfl ?_
    refine y_I (mulW (up_lt b1 (by decide)) (up_lt b3 (by decide))) ?_
    walk_at "yy"
    refine y_ixT ha rfl ?_
    walk_at "yy"
    refine y_ixT hb rfl ?_
    refine y_I (mulW (up_lt b2 (by decide)) (up_lt b4 (by decide))) ?_
    walk_at "yy"
    exact ⟨_, _, rfl, Int.ne_of_gt (Int.mul_pos fp.l.1 fq.l.1), up_lt (mul_lt b1 b3) (by decide), up_lt (mul_lt b2 b4) (by decide), k⟩
theorem sc_law_over : FnScope ["_law_one", "_law_other"] ["_law_one", "_law_other"] (defScope s_law_over) := ⟨rfl, rfl, rfl, by decide +kernel, rfl, by decide +kernel, by decide +kernel⟩
-- 0 _law_one, 1 _law_other
theorem ok_law_over {f : Addr} {fd : FuncData} (F : FunD K "_law_over" "_law_over" (defArgs s_law_over) (defBody s_law_over) (defScope s_law_over) [] [] f fd) (B : Blt mg) (Z : Con mg) {C : Addr} (T : RatioC K mg C) (C_law_ratio : Cal P w K mg base 1 "_law_ratio" ["_law_top", "_law_bottom"] spLRatio) : FnOk P w K mg base CX0 2 f fd ["_law_one", "_law_other"] (spLOver K) := by
  refine F.ok sc_law_over (fun vs H Q E h => ?_) (fun cdv A outer s H vs Q E hr h => ?_)
  · obtain ⟨a, b, p, q, rfl, _⟩ := h
    rfl
  · obtain ⟨a, b, p, q, rfl, ha, hb, fp, fq, h0, k⟩ := h
    refine ⟨_, PSs.nox (pss_one (ps_ret (pe_fn C_law_ratio (hr.mono (by decide)) (by rfl) (pa_cons (pe_op op_mulW (pe_ix (x_tup (K := K)) (pv 0) pe_int (fun _ _ => rfl)) (pe_ix (x_tup (K := K)) (pv 1) pe_int (fun _ _ => rfl))) (pa_cons (pe_op op_mulW (pe_ix (x_tup (K := K)) (pv 0) pe_int (fun _ _ => rfl)) (pe_ix (x_tup (K := K)) (pv 1) pe_int (fun _ _ => rfl))) pa_nil))))), ?_⟩
    have b1 := okI_nat fp.t
    have b2 := okI_nat fp.b
    have b3 := okI_nat fq.t
    have b4 := okI_nat fq.b
    walk_at "yy"
    refine y_ixT ha rfl ?_
    walk_at "yy"
    refine y_ixT hb rfl ?_
    refine y_I (mulW (up_lt b1 (by decide)) (up_lt b4 (by decide))) ?_
    walk_at "yy"
    refine y_ixT ha rfl ?_
    walk_at "yy"
    refine y_ixT hb rfl ?_
    refine y_I (mulW (up_lt b2 (by decide)) (up_lt b3 (by decide))) ?_
    walk_at "yy"
    exact ⟨_, _, rfl, Int.mul_ne_zero (Int.ne_of_gt fp.l.1) h0, up_lt (mul_lt b1 b4) (by decide), up_lt (mul_lt b2 b3) (by decide), k⟩
theorem sc_law_less : FnScope ["_law_one", "_law_other"] ["_law_one", "_law_other"] (defScope s_law_less) := ⟨rfl, rfl, rfl, by decide +kernel, rfl, by decide +kernel, by decide +kernel⟩
-- 0 _law_one, 1 _law_other
theorem ok_law_less {f : Addr} {fd : FuncData} (F : FunD K "_law_less" "_law_less" (defArgs s_law_less) (defBody s_law_less) (defScope s_law_less) [] [] f fd) (B : Blt mg) (Z : Con mg) {C : Addr} (T : RatioC K mg C) : FnOk P w K mg base CX0 1 f fd ["_law_one", "_law_other"] (spLLess K) := by
  refine F.ok sc_law_less (fun vs H Q E h => ?_) (fun cdv A outer s H vs Q E hr h => ?_)
  · obtain ⟨a, b, p, q, rfl, _⟩ := h
    rfl
  · obtain ⟨a, b, p, q, rfl, ha, hb, fp, fq, k⟩ := h
    refine ⟨_, PSs.nox (pss_one (ps_ret (pe_cmpR op_lt (pe_op op_mulW (pe_ix (x_tup (K := K)) (pv 0) pe_int (fun _ _ => rfl)) (pe_ix (x_tup (K := K)) (pv 1) pe_int (fun _ _ => rfl))) (pe_op op_mulW (pe_ix (x_tup (K := K)) (pv 1) pe_int (fun _ _ => rfl)) (pe_ix (x_tup (K := K)) (pv 0) pe_int (fun _ _ => rfl))) (nomark _)))), ?_⟩
    have b1 := okI_nat fp.t
    have b2 := okI_nat fp.b
    have b3 := okI_nat fq.t
    have b4 := okI_nat fq.b
    walk_at "yy"
    refine y_ixT ha rfl ?_
    walk_at "yy"
    refine y_ixT hb rfl ?_
    refine y_I (mulW (up_lt b1 (by decide)) (up_lt b4 (by decide))) ?_
    walk_at "yy"
    refine y_ixT hb rfl ?_
    walk_at "yy"
    refine y_ixT ha rfl ?_
    refine y_I (mulW (up_lt b3 (by decide)) (up_lt b2 (by decide))) ?_
    walk_at "yy"
    exact k
theorem sc_law_text : FnScope ["_law_pair"] ["_law_pair"] (defScope s_law_text) := ⟨rfl, rfl, rfl, by decide +kernel, rfl, by decide +kernel, by decide +kernel⟩
-- 0 _law_pair
theorem ok_law_text {f : Addr} {fd : FuncData} (F : FunD K "_law_text" "_law_text" (defArgs s_law_text) (defBody s_law_text) (defScope s_law_text) [] [] f fd) (B : Blt mg) (Z : Con mg) {C : Addr} (T : RatioC K mg C) : FnOk P w K mg base CX0 1 f fd ["_law_pair"] (spLText K) := by
  refine F.ok sc_law_text (fun vs H Q E h => ?_) (fun cdv A outer s H vs Q E hr h => ?_)
  · obtain ⟨a, p, rfl, _⟩ := h
    rfl
  · obtain ⟨a, p, rfl, ha, fp, k⟩ := h
    refine ⟨_, PSs.nox (pss_one (ps_ret (pe_ifExp (pt_cmpR op_eq (pe_ix (x_tup (K := K)) (pv 0) pe_int (fun _ _ => rfl)) pe_int (nomark _)) (pe_callTy call_str_int (by rfl) B.n_str (by decide +kernel) (pa_cons (pe_ix (x_tup (K := K)) (pv 0) pe_int (fun _ _ => rfl)) pa_nil)) (pe_op op_add_str (pe_op op_add_str (pe_callTy call_str_int (by rfl) B.n_str (by decide +kernel) (pa_cons (pe_ix (x_tup (K := K)) (pv 0) pe_int (fun _ _ => rfl)) pa_nil)) pe_str) (pe_callTy call_str_int (by rfl) B.n_str (by decide +kernel) (pa_cons (pe_ix (x_tup (K := K)) (pv 0) pe_int (fun _ _ => rfl)) pa_nil)))))), ?_⟩
    have l1 := tI_len fp.t
    have l2 := tI_len fp.b
    walk_at "yy"
    refine y_ixT ha rfl ?_
    walk_at "yy"
    refine y_ite (fun h => ?_) (fun h => ?_)
    · have h := of_decide_eq_true h
      walk_at "yy"
      refine y_ixT ha rfl ?_
      refine ⟨p.1, rfl, tI_log fp.t, ?_⟩
      have e : txt p = tI p.1 := by
        unfold txt
        rw [if_pos h]
      rw [e] at k
      exact k
    · have h := of_decide_eq_false h
      have e : txt p = (tI p.1 ++ "/") ++ tI p.2 := by
        unfold txt
        rw [if_neg h]
      rw [e] at k
      have l0 : (("/" : Str)).length = 1 := by decide +kernel
      have l4 : (tI p.1 ++ "/").length ≤ 302 := by
        rw [Str.length_append]
        omega
      walk_at "yy"
      refine y_ixT ha rfl ?_
      refine ⟨p.1, rfl, tI_log fp.t, ?_⟩
      walk_at "yy"
      refine ⟨_, _, rfl, rfl, Nat.le_trans (show (tI p.1).length + (("/" : Str)).length ≤ 603 by omega) (by decide), ?_⟩
      walk_at "yy"
      refine y_ixT ha rfl ?_
      refine ⟨p.2, rfl, tI_log fp.b, ?_⟩
      exact ⟨_, _, rfl, rfl, Nat.le_trans (show (tI p.1 ++ "/").length + (tI p.2).length ≤ 603 by omega) (by decide), k⟩
theorem sc_law_great : FnScope ["_law_dice_here"] ["_law_dice_here"] (defScope s_law_great) := ⟨rfl, rfl, rfl, by decide +kernel, rfl, by decide +kernel, by decide +kernel⟩
-- 0 _law_dice_here
theorem ok_law_great {f : Addr} {fd : FuncData} (F : FunD K "_law_great" "_law_great" (defArgs s_law_great) (defBody s_law_great) (defScope s_law_great) [] [] f fd) (B : Blt mg) (Z : Con mg) {C : Addr} (T : RatioC K mg C) (C_law_roll : Cal P w K mg base 1 "_law_roll" ["_law_dice_here", "_law_total"] spRoll) (C_law_fraction : Cal P w K mg base 3 "_law_fraction" ["_law_dice_here"] spLFrac) (C_law_ratio : Cal P w K mg base 1 "_law_ratio" ["_law_top", "_law_bottom"] spLRatio) (C_law_pick : Cal P w K mg base 2 "_law_pick" ["_law_dice_here", "_law_items"] (spPick K)) : FnOk P w K mg base CX0 4 f fd ["_law_dice_here"] spLGreat := by
  refine F.ok sc_law_great (fun vs H Q E h => ?_) (fun cdv A outer s H vs Q E hr h => ?_)
  · obtain ⟨d, rfl, _⟩ := h
    rfl
  · obtain ⟨d, rfl, hD, k⟩ := h
    refine ⟨_, PSs.nox (pss_cons (ps_if (pt_cmpR op_gt (pe_fn C_law_roll (hr.mono (by decide)) (by rfl) (pa_cons (pv 0) (pa_cons pe_int pa_nil))) pe_int (nomark _)) (pss_one (ps_ret (pe_fn C_law_fraction (hr.mono (by decide)) (by rfl) (pa_cons (pv 0) pa_nil)))) pss_nil) (pss_one (ps_ret (pe_fn C_law_ratio (hr.mono (by decide)) (by rfl) (pa_cons (pe_op op_sub (pe_fn C_law_roll (hr.mono (by decide)) (by rfl) (pa_cons (pv 0) (pa_cons (pe_op op_powW pe_int pe_int) pa_nil))) (pe_op op_mul pe_int (pe_op op_powW pe_int pe_int))) (pa_cons (pe_op op_add pe_int (pe_fn C_law_roll (hr.mono (by decide)) (by rfl) (pa_cons (pv 0) (pa_cons (pe_fn C_law_pick (hr.mono (by decide)) (by rfl) (pa_cons (pv 0) (pa_cons (pe_lst (pa_cons pe_int (pa_cons (pe_op op_powW pe_int pe_int) (pa_cons (pe_op op_powW pe_int pe_int) pa_nil)))) pa_nil))) pa_nil)))) pa_nil)))))), ?_⟩
    walk_at "yy"
    refine ⟨d, 4, rfl, hD, by decide, big_of (by decide), fun n H1 m0 m1 hD1 f1 => ?_⟩
    walk_at "yy"
    refine y_ite (fun h => ?_) (fun h => ?_)
    · walk_at "yy"
      exact ⟨d, rfl, hD1, fun p a H2 hp na ea hD2 f2 => k p a H2 (fracs_fine hp).1 (fracs_fine hp).2 (free_fr f1 na (hD1.ne na)) ea hD2 (f1.trans f2)⟩
    · walk_at "yy"
      walk_at "yi"
      walk_at "yy"
      refine ⟨d, _, rfl, hD1, by decide, Nat.lt_trans (show Int.natAbs (10 ^ 40) < 2 ^ 140 by decide) (by decide), fun t H2 t0 t1 hD2 f2 => ?_⟩
      walk_at "yy"
      walk_at "yi"
      walk_at "yy"
      walk_at "yi"
      walk_at "yy"
      walk_at "yi"
      walk_at "yy"
      walk_at "yi"
      walk_at "yy"
      refine ⟨by show 3 ≤ sizeLine; decide, fun l nl => ?_⟩
      walk_at "yy"
      refine ⟨d, l, _, rfl, hD2.new nl, sql upd_same, hD2.ne nl, by show 0 < 3; decide, by show 3 ≤ 100000; decide, fun v H3 mv hD3 f3 => ?_⟩
      obtain ⟨b, rfl, hb⟩ : ∃ b : Int, v = .int b ∧ (0 < b ∧ b ≤ 10 ^ 40) := by
        simp only [List.mem_cons, List.not_mem_nil, or_false] at mv
        rcases mv with rfl | rfl | rfl
        · exact ⟨_, rfl, by decide⟩
        · exact ⟨_, rfl, by decide⟩
        · exact ⟨_, rfl, by decide⟩
      refine ⟨d, b, rfl, hD3, hb.1, Nat.lt_trans (show b.natAbs < 2 ^ 140 by omega) (by decide), fun c H4 c0 c1 hD4 f4 => ?_⟩
      have t1 : t < 10 ^ 40 := t1
      have x1 : (t - 5 * 10 ^ 39).natAbs < 2 ^ 140 := by omega
      have x2 : (1 + c).natAbs < 2 ^ 140 := by omega
      have x0 : 1 + c ≠ 0 := by omega
      walk_at "yy"
      refine ⟨_, _, rfl, x0, up_lt x1 (by decide), up_lt x2 (by decide), fun a H5 na ea s5 => ?_⟩
      have f04 : Fr d H H4 := f1.trans (f2.trans ((Fr.new nl).trans (f3.trans f4)))
      exact k _ a H5 (low_low x0) (bd_low x0 ⟨x1, x2⟩) (free_fr f04 na (hD4.ne na)) ea (hD4.same s5) (f04.trans (Fr.of_same s5))
theorem sc_law_power : FnScope ["_law_pair", "_law_power_here", "_law_found", "_law_turn"] ["_law_pair", "_law_power_here"] (defScope s_law_power) := ⟨rfl, rfl, rfl, by decide +kernel, rfl, by decide +kernel, by decide +kernel⟩
-- 0 _law_pair, 1 _law_power_here, 2 _law_found, 3 _law_turn
theorem ok_law_power {f : Addr} {fd : FuncData} (F : FunD K "_law_power" "_law_power" (defArgs s_law_power) (defBody s_law_power) (defScope s_law_power) [] [] f fd) (B : Blt mg) (Z : Con mg) {C : Addr} (T : RatioC K mg C) (C_law_times : Cal P w K mg base 2 "_law_times" ["_law_one", "_law_other"] (spLTimes K)) (C_law_over : Cal P w K mg base 2 "_law_over" ["_law_one", "_law_other"] (spLOver K)) : FnOk P w K mg base CX0 3 f fd ["_law_pair", "_law_power_here"] (spLPow K) := by
  refine F.ok sc_law_power (fun vs H Q E h => ?_) (fun cdv A outer s H vs Q E hr h => ?_)
  · obtain ⟨a, p, e, rfl, _⟩ := h
    rfl
  · obtain ⟨a, p, e, rfl, ha, lp, bp, he, h0, k⟩ := h
    refine ⟨_, PSs.nox (pss_cons (ps_set (i := 2) sc_law_power.nd rfl (Or.inl rfl) (pe_tup (pa_cons pe_int (pa_cons pe_int pa_nil)))) (pss_cons (ps_for PassesOwn.never rfl (pi_range1 (by rfl) B.n_range (pa_cons (pe_callB c_abs (by rfl) B.n_abs (by decide +kernel) (pa_cons (pv 1) pa_nil)) pa_nil)) (pg_name (i := 3) sc_law_power.nd rfl (Or.inl rfl)) (pss_one (ps_set (i := 2) sc_law_power.nd rfl (Or.inl rfl) (pe_ifExp (pt_cmpR op_gt (pv 1) pe_int (nomark _)) (pe_fn C_law_times (hr.mono (by decide)) (by rfl) (pa_cons (pv 2) (pa_cons (pv 0) pa_nil))) (pe_fn C_law_over (hr.mono (by decide)) (by rfl) (pa_cons (pv 2) (pa_cons (pv 0) pa_nil))))))) (pss_one (ps_ret (pv 2))))), ?_⟩
    have fp : Fine p := bp.fine (by decide) lp
    have bw := bd_pw bp
    have n0 := nz lp
    have cz : ∀ i : Nat, (if e < 0 then low (pw p i).2 (pw p i).1 else low (pw p i).1 (pw p i).2) = (if e < 0 then low (pw p i).2 (pw p i).1 else low (pw p i).1 (pw p i).2) := fun _ => rfl
    generalize hc : (fun i : Nat => if e < 0 then low (pw p i).2 (pw p i).1 else low (pw p i).1 (pw p i).2) = cur at *
    have c0 : cur 0 = (1, 1) := by
      rw [← hc]
      show (if e < 0 then low 1 1 else low 1 1) = _
      split <;> decide
    have cf : ∀ i, i ≤ 3 → Fine (cur i) := fun i hi => by
      rw [← hc]
      have c1 := up_lt (b := 430) (bw i).1 (by omega)
      have c2 := up_lt (b := 430) (bw i).2 (by omega)
      show Fine (if e < 0 then _ else _)
      split
      · rename_i g
        exact (bd_low (n := 430) (pw_nz1 (h0 g) i) ⟨c2, c1⟩).fine (by decide) (low_low (pw_nz1 (h0 g) i))
      · exact (bd_low (n := 430) (pw_nz n0 i) ⟨c1, c2⟩).fine (by decide) (low_low (pw_nz n0 i))
    have cp : ∀ i, 0 < e → mulP (cur i) p = cur (i + 1) := fun i g => by
      rw [← hc]
      show mulP (if e < 0 then _ else _) p = if e < 0 then _ else _
      rw [if_neg (by omega), if_neg (by omega)]
      exact pw_mul n0 i
    have cn : ∀ i, e < 0 → overP (cur i) p = cur (i + 1) := fun i g => by
      rw [← hc]
      show overP (if e < 0 then _ else _) p = if e < 0 then _ else _
      rw [if_pos g, if_pos g]
      exact pw_over (h0 g) i
    have ce : powP p e = cur e.natAbs := by
      rw [← hc]
      rfl
    walk_at "yy"
    refine ⟨by show 2 ≤ sizeLine; decide, fun t n => ?_⟩
    walk_at "yy"
    refine ⟨_, rfl, by omega, by omega, y_forR (b := fun _ _ => False) (c := fun _ _ => False) (fun i σ H1 => ∃ u f, σ = [some (.ref a), some (.int e), some (.ref f), u] ∧ H1 f = some (.tup [.int (cur i).1, .int (cur i).2]) ∧ H f = none ∧ Same H H1) ⟨_, _, rfl, by rw [c0]; exact upd_same, n, same_new n⟩ ?_ ?_⟩
    · rintro i σ H1 hi ⟨u, f, rfl, ef, nf, sm⟩
      have hi : i < 3 := by omega
      have fi := cf i (by omega)
      walk_at "yy"
      refine y_ite (fun g => ?_) (fun g => ?_)
      · have g := of_decide_eq_true g
        walk_at "yy"
        refine ⟨f, a, cur i, p, rfl, sqt ef, sqt (sm _ _ ha), fi, fp, fun z H2 nz' ez s2 => ?_⟩
        rw [cp i g] at ez
        walk_at "yy"
        exact ⟨_, _, rfl, ez, Same.free sm nz', sm.trans s2⟩
      · have g := of_decide_eq_false g
        have g2 : e < 0 := by omega
        walk_at "yy"
        refine ⟨f, a, cur i, p, rfl, sqt ef, sqt (sm _ _ ha), fi, fp, h0 g2, fun z H2 nz' ez s2 => ?_⟩
        rw [cn i g2] at ez
        walk_at "yy"
        exact ⟨_, _, rfl, ez, Same.free sm nz', sm.trans s2⟩
    · rintro σ H1 ⟨u, f, rfl, ef, nf, sm⟩
      have en : ((e.natAbs : Int)).toNat = e.natAbs := Int.toNat_natCast _
      rw [en, ← ce] at ef
      walk_at "yy"
      exact k f H1 nf ef sm
theorem sc_law_told_right : FnScope ["_law_one", "_law_pair", "_law_top", "_law_bottom", "_law_told", "_law_sign"] ["_law_one", "_law_pair"] (defScope s_law_told_right) := ⟨rfl, rfl, rfl, by decide +kernel, rfl, by decide +kernel, by decide +kernel⟩
-- 0 _law_one, 1 _law_pair, 2 _law_top, 3 _law_bottom, 4 _law_told, 5 _law_sign
theorem ok_law_told_right {f : Addr} {fd : FuncData} (F : FunD K "_law_told_right" "_law_told_right" (defArgs s_law_told_right) (defBody s_law_told_right) (defScope s_law_told_right) [] [] f fd) (B : Blt mg) (Z : Con mg) {C : Addr} (T : RatioC K mg C) (C_Ratio_pair : Prp P w K mg base 1 C "pair" (spPair C)) (C_Ratio_top : Prp P w K mg base 1 C "top" (spTop C)) (C_Ratio_bottom : Prp P w K mg base 1 C "bottom" (spBot C)) (C_Ratio_sign : Prp P w K mg base 1 C "sign" (spSign C)) (C_Ratio_whole : Prp P w K mg base 1 C "whole" (spWhole C)) (C_Ratio_text : Prp P w K mg base 3 C "text" (spText C)) (C_Ratio___str__ : Mth P w K mg base 5 C "__str__" ["self"] (spText C)) (C_Ratio___bool__ : Mth P w K mg base 1 C "__bool__" ["self"] (spBool C)) (C_law_text : Cal P w K mg base 1 "_law_text" ["_law_pair"] (spLText K)) : FnOk P w K mg base CX0 8 f fd ["_law_one", "_law_pair"] (spLTold C) := by
  refine F.ok sc_law_told_right (fun vs H Q E h => ?_) (fun cdv A outer s H vs Q E hr h => ?_)
  · obtain ⟨x, a, p, rfl, _⟩ := h
    rfl
  · obtain ⟨x, a, p, rfl, hx, ha, fp, k⟩ := h
    refine ⟨_, PSs.nox (pss_cons (ps_asg (pv 1) (g_tup (K := K) (n := 2) (by rfl) (pgs_cons (pg_name (i := 2) sc_law_told_right.nd rfl (Or.inl rfl)) (pgs_cons (pg_name (i := 3) sc_law_told_right.nd rfl (Or.inl rfl)) pgs_nil)))) (pss_cons (ps_set (i := 4) sc_law_told_right.nd rfl (Or.inl rfl) (pe_lst (pa_cons (e_prp C_Ratio_pair T.cls (hr.mono (by decide)) (pv 0)) (pa_cons (e_prp C_Ratio_top T.cls (hr.mono (by decide)) (pv 0)) (pa_cons (e_prp C_Ratio_bottom T.cls (hr.mono (by decide)) (pv 0)) (pa_cons (e_prp C_Ratio_sign T.cls (hr.mono (by decide)) (pv 0)) (pa_cons (e_prp C_Ratio_whole T.cls (hr.mono (by decide)) (pv 0)) (pa_cons (e_prp C_Ratio_text T.cls (hr.mono (by decide)) (pv 0)) (pa_cons (pe_callTy (q_str C_Ratio___str__ (hr.mono (by decide))) (by rfl) B.n_str (by decide +kernel) (pa_cons (pv 0) pa_nil)) (pa_cons (pe_callTy (q_bool C_Ratio___bool__ (hr.mono (by decide))) (by rfl) B.n_bool (by decide +kernel) (pa_cons (pv 0) pa_nil)) pa_nil)))))))))) (pss_cons (ps_set (i := 5) sc_law_told_right.nd rfl (Or.inl rfl) (pe_ifExp (pt_cmpR op_gt (pv 2) pe_int (nomark _)) pe_int pe_int)) (pss_one (ps_ret (pe_cmpR (o_eqD (K := K) hr.units) (pv 4) (pe_lst (pa_cons (pv 1) (pa_cons (pv 2) (pa_cons (pv 3) (pa_cons (pe_ifExp (pt_cmpR op_lt (pv 2) pe_int (nomark _)) (pe_un un_neg pe_int) (pv 5)) (pa_cons (pe_op op_fdivW (pv 2) (pv 3)) (pa_cons (pe_fn C_law_text (hr.mono (by decide)) (by rfl) (pa_cons (pv 1) pa_nil)) (pa_cons (pe_fn C_law_text (hr.mono (by decide)) (by rfl) (pa_cons (pv 1) pa_nil)) (pa_cons (pe_cmpR op_ne (pv 2) pe_int (nomark _)) pa_nil))))))))) (nomark _))))))), ?_⟩
    walk_at "yy"
    refine y_gtup rfl (sqt ha) rfl ?_
    walk_at "yy"
    refine ⟨x, _, _, rfl, hx.choose_spec, x, p, rfl, hx, fun a1 H1 n1 e1 s1 => ?_⟩
    have hx := hx.same s1
    have ha := s1 _ _ ha
    walk_at "yy"
    refine ⟨x, _, _, rfl, hx.choose_spec, x, p, rfl, hx, ?_⟩
    walk_at "yy"
    refine ⟨x, _, _, rfl, hx.choose_spec, x, p, rfl, hx, ?_⟩
    walk_at "yy"
    refine ⟨x, _, _, rfl, hx.choose_spec, x, p, rfl, hx, ?_⟩
    walk_at "yy"
    refine ⟨x, _, _, rfl, hx.choose_spec, x, p, rfl, hx, fp, ?_⟩
    walk_at "yy"
    refine ⟨x, _, _, rfl, hx.choose_spec, x, p, rfl, hx, fp, fun H2 s2 => ?_⟩
    have hx := hx.same s2
    have ha := s2 _ _ ha
    walk_at "yy"
    refine ⟨x, _, _, rfl, hx.choose_spec, x, p, rfl, hx, fp, fun H3 s3 => ⟨⟨_, rfl⟩, ?_⟩⟩
    have hx := hx.same s3
    have ha := s3 _ _ ha
    walk_at "yy"
    refine ⟨x, _, _, rfl, hx.choose_spec, x, p, rfl, hx, ⟨_, rfl⟩, ?_⟩
    walk_at "yy"
    refine ⟨by show 8 ≤ sizeLine; decide, fun l nl => ?_⟩
    have el : (upd H3 l (.lst [.ref a1, .int p.1, .int p.2, .int (sgn p.1), .int (p.1 / p.2), .str (txt p), .str (txt p), .bl (p.1 != 0)])) l = some (.lst [.ref a1, .int p.1, .int p.2, .int (sgn p.1), .int (p.1 / p.2), .str (txt p), .str (txt p), .bl (p.1 != 0)]) := upd_same
    have s4 : Same H3 (upd H3 l (.lst [.ref a1, .int p.1, .int p.2, .int (sgn p.1), .int (p.1 / p.2), .str (txt p), .str (txt p), .bl (p.1 != 0)])) := same_new nl
    have e1 := s4 _ _ (s3 _ _ (s2 _ _ e1))
    have ha := s4 _ _ ha
    have ss := ((s1.trans s2).trans s3).trans s4
    generalize upd H3 l (.lst [.ref a1, .int p.1, .int p.2, .int (sgn p.1), .int (p.1 / p.2), .str (txt p), .str (txt p), .bl (p.1 != 0)]) = H4 at el s4 e1 ha ss ⊢
    have can : PyData.canLay0 (.list [.tuple [.int p.1, .int p.2], .int p.1, .int p.2, .int (sgn p.1), .int (p.1 / p.2), .str (txt p), .str (txt p), .bool (p.1 != 0)]) = true := by
      show (true && (true && (true && (true && (true && (PyData.strOk (txt p) && (PyData.strOk (txt p) && (true && true)))))))) = true
      rw [txt_ok]
      rfl
    have sh : SeqAt.shaped (.list [.tuple [.int p.1, .int p.2], .int p.1, .int p.2, .int (sgn p.1), .int (p.1 / p.2), .str (txt p), .str (txt p), .bool (p.1 != 0)]) = true := by
      unfold SeqAt.shaped
      rw [can]
      rfl
    have tail : ∀ (H5 : Hp) (r : Addr) (g : Int) (w : Bool), g = sgn p.1 → w = (p.1 != 0) → H4 r = none → H5 = upd H4 r (.lst [.ref a, .int p.1, .int p.2, .int g, .int (p.1 / p.2), .str (txt p), .str (txt p), .bl w]) →
        rEqD K (.ref l) (.ref r) H5 Q := fun H5 r g w eg ew nr e => by
      subst eg
      subst ew
      subst e
      have s5 : Same H4 (upd H4 r (.lst [.ref a, .int p.1, .int p.2, .int (sgn p.1), .int (p.1 / p.2), .str (txt p), .str (txt p), .bl (p.1 != 0)])) := same_new nr
      refine ⟨.list [.tuple [.int p.1, .int p.2], .int p.1, .int p.2, .int (sgn p.1), .int (p.1 / p.2), .str (txt p), .str (txt p), .bool (p.1 != 0)], .list [.tuple [.int p.1, .int p.2], .int p.1, .int p.2, .int (sgn p.1), .int (p.1 / p.2), .str (txt p), .str (txt p), .bool (p.1 != 0)],
        .lst (sql (s5 _ _ el)) (.cons (.tup (sqt (s5 _ _ e1)) (.cons (.int _) (.cons (.int _) .nil))) (.cons (.int _) (.cons (.int _) (.cons (.int _) (.cons (.int _) (.cons (.str _) (.cons (.str _) (.cons (.bl _) .nil)))))))),
        .lst (sql upd_same) (.cons (.tup (sqt (s5 _ _ ha)) (.cons (.int _) (.cons (.int _) .nil))) (.cons (.int _) (.cons (.int _) (.cons (.int _) (.cons (.int _) (.cons (.str _) (.cons (.str _) (.cons (.bl _) .nil)))))))), sh, sh, ?_⟩
      have e : PyData.eqv (.list [.tuple [.int p.1, .int p.2], .int p.1, .int p.2, .int (sgn p.1), .int (p.1 / p.2), .str (txt p), .str (txt p), .bool (p.1 != 0)]) (.list [.tuple [.int p.1, .int p.2], .int p.1, .int p.2, .int (sgn p.1), .int (p.1 / p.2), .str (txt p), .str (txt p), .bool (p.1 != 0)]) = true := PySem.SeqAt.eqv_refl _ can
      rw [e]
      exact k _ (ss.trans s5)
    have wz : (!decide (p.1 = 0)) = (p.1 != 0) := rfl
    walk_at "yy"
    refine y_ite (fun h => ?_) (fun h => ?_)
    all_goals
      have h := h
      simp only [decide_eq_true_eq, decide_eq_false_iff_not] at h
      walk_at "yy"
      refine y_ite (fun g => ?_) (fun g => ?_)
      all_goals
        have g := g
        simp only [decide_eq_true_eq, decide_eq_false_iff_not] at g
        walk_at "yy"
        refine y_I (big_div fp.l.1 (up_lt (okI_nat fp.b) (by decide))) ?_
        walk_at "yy"
        refine ⟨a, p, rfl, sqt ha, fp, ?_⟩
        walk_at "yy"
        refine ⟨a, p, rfl, sqt ha, fp, ?_⟩
        walk_at "yy"
        exact ⟨by show 8 ≤ sizeLine; decide, fun r nr => tail _ r _ _ (by unfold sgn; split <;> first | omega | (split <;> omega)) wz nr rfl⟩
theorem sc_law_right : FnScope ["_law_dice_here", "_law_first", "_law_second", "_law_number", "_law_one", "_law_other", "_law_told", "_law_due", "_law_power_here", "_law_found"] ["_law_dice_here"] (defScope s_law_right) := ⟨rfl, rfl, rfl, by decide +kernel, rfl, by decide +kernel, by decide +kernel⟩
-- 0 _law_dice_here, 1 _law_first, 2 _law_second, 3 _law_number, 4 _law_one, 5 _law_other, 6 _law_told, 7 _law_due, 8 _law_power_here, 9 _law_found
theorem ok_law_right {f : Addr} {fd : FuncData} (F : FunD K "_law_right" "_law_right" (defArgs s_law_right) (defBody s_law_right) (defScope s_law_right) [] [] f fd) (B : Blt mg) (Z : Con mg) {C : Addr} (T : RatioC K mg C) (C_law_roll : Cal P w K mg base 1 "_law_roll" ["_law_dice_here", "_law_total"] spRoll) (C_law_great : Cal P w K mg base 4 "_law_great" ["_law_dice_here"] spLGreat) (C_Ratio_2 : Mkr P w K mg base 2 "Ratio" C (spInit C) []) (C_Ratio_1 : Mkr P w K mg base 2 "Ratio" C (spInit C) [.int 1]) (C_law_told_right : Cal P w K mg base 8 "_law_told_right" ["_law_one", "_law_pair"] (spLTold C)) (C_Ratio___add__ : Mth P w K mg base 5 C "__add__" ["self", "other"] (spAdd C)) (C_Ratio___sub__ : Mth P w K mg base 5 C "__sub__" ["self", "other"] (spSub C)) (C_Ratio___mul__ : Mth P w K mg base 5 C "__mul__" ["self", "other"] (spMul C)) (C_Ratio___neg__ : Mth P w K mg base 5 C "__neg__" ["self"] (spNeg C)) (C_Ratio___abs__ : Mth P w K mg base 5 C "__abs__" ["self"] (spAbs C)) (C_Ratio___eq__ : Mth P w K mg base 1 C "__eq__" ["self", "other"] (spEqX K C)) (C_Ratio_pair : Prp P w K mg base 1 C "pair" (spPair C)) (C_Ratio_is_below : Mth P w K mg base 4 C "is_below" ["self", "other"] (spBelow C)) (C_Ratio_divided : Mth P w K mg base 5 C "divided" ["self", "other"] (spDiv C)) (C_Ratio_power : Mth P w K mg base 5 C "power" ["self", "exponent"] (spPow C)) (C_law_plus : Cal P w K mg base 2 "_law_plus" ["_law_one", "_law_other"] (spLPlus K)) (C_law_minus : Cal P w K mg base 2 "_law_minus" ["_law_one", "_law_other"] (spLMinus K)) (C_law_times : Cal P w K mg base 2 "_law_times" ["_law_one", "_law_other"] (spLTimes K)) (C_law_over : Cal P w K mg base 2 "_law_over" ["_law_one", "_law_other"] (spLOver K)) (C_law_less : Cal P w K mg base 1 "_law_less" ["_law_one", "_law_other"] (spLLess K)) (C_law_power : Cal P w K mg base 3 "_law_power" ["_law_pair", "_law_power_here"] (spLPow K)) (I_add : IntSide K C "add") (I_mul : IntSide K C "mul") (XT : PySem.W.notFirst K C (.type "tuple") = true) (XI : PySem.W.notFirst K C (.type "int") = true) : FnOk P w K mg base CX0 9 f fd ["_law_dice_here"] spLRight := by
  refine F.ok sc_law_right (fun vs H Q E h => ?_) (fun cdv A outer s H vs Q E hr h => ?_)
  · obtain ⟨d, rfl, _⟩ := h
    rfl
  · obtain ⟨d, rfl, hD, k⟩ := h
    refine ⟨_, PSs.nox (pss_cons (ps_par (i := 1) (j := 2) (by rfl) sc_law_right.nd rfl rfl (by decide) rfl rfl (pa_cons (pe_fn C_law_great (hr.mono (by decide)) (by rfl) (pa_cons (pv 0) pa_nil)) (pa_cons (pe_fn C_law_great (hr.mono (by decide)) (by rfl) (pa_cons (pv 0) pa_nil)) pa_nil)) (by rfl)) (pss_cons (ps_set (i := 3) sc_law_right.nd rfl (Or.inl rfl) (pe_op op_sub (pe_fn C_law_roll (hr.mono (by decide)) (by rfl) (pa_cons (pv 0) (pa_cons pe_int pa_nil))) pe_int)) (pss_cons (ps_par (i := 4) (j := 5) (by rfl) sc_law_right.nd rfl rfl (by decide) rfl rfl (pa_cons (e_mkr C_Ratio_2 (hr.mono (by decide)) (by rfl) (pa_cons (pe_op op_mulW (pe_ix (x_tup (K := K)) (pv 1) pe_int (fun _ _ => rfl)) pe_int) (pa_cons (pe_op op_mulW (pe_ix (x_tup (K := K)) (pv 1) pe_int (fun _ _ => rfl)) pe_int) pa_nil))) (pa_cons (e_mkr C_Ratio_2 (hr.mono (by decide)) (by rfl) (pa_cons (pe_op op_sub pe_int (pe_ix (x_tup (K := K)) (pv 2) pe_int (fun _ _ => rfl))) (pa_cons (pe_op op_sub pe_int (pe_ix (x_tup (K := K)) (pv 2) pe_int (fun _ _ => rfl))) pa_nil))) pa_nil)) (by rfl)) (pss_cons (ps_if (PW.pt (pw_or (pt_not (pt_val (pe_fn C_law_told_right (hr.mono (by decide)) (by rfl) (pa_cons (pv 4) (pa_cons (pv 1) pa_nil))))) (pw_or1 (pt_not (pt_val (pe_fn C_law_told_right (hr.mono (by decide)) (by rfl) (pa_cons (pv 5) (pa_cons (pv 2) pa_nil)))))))) (pss_one (ps_ret pe_bl)) pss_nil) (pss_cons (ps_set (i := 6) sc_law_right.nd rfl (Or.inl rfl) (pe_lst (pa_cons (pe_op (q_op2 C_Ratio___add__ T.first (hr.mono (by decide))) (pv 4) (pv 5)) (pa_cons (pe_op (q_op2 C_Ratio___sub__ T.first (hr.mono (by decide))) (pv 4) (pv 5)) (pa_cons (pe_op (q_op2 C_Ratio___mul__ T.first (hr.mono (by decide))) (pv 4) (pv 5)) (pa_cons (pe_un (q_neg C_Ratio___neg__ (hr.mono (by decide))) (pv 4)) (pa_cons (pe_callB (q_abs C_Ratio___abs__ (hr.mono (by decide))) (by rfl) B.n_abs (by decide +kernel) (pa_cons (pv 4) pa_nil)) (pa_cons (pe_op (q_opI C_Ratio___add__ T.first I_add (hr.mono (by decide))) (pv 4) (pv 3)) (pa_cons (pe_op (q_opI C_Ratio___mul__ T.first I_mul (hr.mono (by decide))) (pv 4) (pv 3)) pa_nil))))))))) (pss_cons (ps_set (i := 7) sc_law_right.nd rfl (Or.inl rfl) (pe_lst (pa_cons (pe_fn C_law_plus (hr.mono (by decide)) (by rfl) (pa_cons (pv 1) (pa_cons (pv 2) pa_nil))) (pa_cons (pe_fn C_law_minus (hr.mono (by decide)) (by rfl) (pa_cons (pv 1) (pa_cons (pv 2) pa_nil))) (pa_cons (pe_fn C_law_times (hr.mono (by decide)) (by rfl) (pa_cons (pv 1) (pa_cons (pv 2) pa_nil))) (pa_cons (pe_tup (pa_cons (pe_op op_sub pe_int (pe_ix (x_tup (K := K)) (pv 1) pe_int (fun _ _ => rfl))) (pa_cons (pe_ix (x_tup (K := K)) (pv 1) pe_int (fun _ _ => rfl)) pa_nil))) pa_nil)))))) (pss_cons (ps_set (i := 7) sc_law_right.nd rfl (Or.inl rfl) (pe_op op_cat (pv 7) (pe_lst (pa_cons (pe_tup (pa_cons (pe_callB c_abs (by rfl) B.n_abs (by decide +kernel) (pa_cons (pe_ix (x_tup (K := K)) (pv 1) pe_int (fun _ _ => rfl)) pa_nil)) (pa_cons (pe_ix (x_tup (K := K)) (pv 1) pe_int (fun _ _ => rfl)) pa_nil))) (pa_cons (pe_fn C_law_plus (hr.mono (by decide)) (by rfl) (pa_cons (pv 1) (pa_cons (pe_tup (pa_cons (pv 3) (pa_cons pe_int pa_nil))) pa_nil))) (pa_cons (pe_fn C_law_times (hr.mono (by decide)) (by rfl) (pa_cons (pv 1) (pa_cons (pe_tup (pa_cons (pv 3) (pa_cons pe_int pa_nil))) pa_nil))) pa_nil)))))) (pss_cons (ps_if (PW.pt (pw_or (pt_cmpR (o_neD (K := K) hr.units) (pe_lc (own := [("_law_found", 9)]) (g := gName 9) (tt := tYes) rfl sc_law_right.nd (w_list (K := K) (pv 6)) (blkOk_by (own := [("_law_found", 9)]) (N := ["_law_dice_here", "_law_first", "_law_second", "_law_number", "_law_one", "_law_other", "_law_told", "_law_due", "_law_power_here", "_law_found"]) (sc := defScope s_law_right) (by decide +kernel)) (fun _ _ _ _ _ => pg_name (i := 9) sc_law_right.nd rfl (Or.inl rfl)) (fun _ _ _ _ _ => pts_nil) (fun _ _ _ _ _ => (e_prp C_Ratio_pair T.cls (hr.mono (by decide)) (pv 9)))) (pv 7) (nomark _)) (pw_or (pt_cmpR (q_ne C_Ratio___eq__ (hr.mono (by decide)) T.ne T.obj) (pe_op (q_op2 C_Ratio___add__ T.first (hr.mono (by decide))) (pv 4) (pv 5)) (pe_op (q_op2 C_Ratio___add__ T.first (hr.mono (by decide))) (pv 5) (pv 4)) (nomark _)) (pw_or1 (pt_cmpR (q_ne C_Ratio___eq__ (hr.mono (by decide)) T.ne T.obj) (pe_op (q_op2 C_Ratio___mul__ T.first (hr.mono (by decide))) (pv 4) (pv 5)) (pe_op (q_op2 C_Ratio___mul__ T.first (hr.mono (by decide))) (pv 5) (pv 4)) (nomark _)))))) (pss_one (ps_ret pe_bl)) pss_nil) (pss_cons (ps_if (PW.pt (pw_or (pt_cmpR (q_ne C_Ratio___eq__ (hr.mono (by decide)) T.ne T.obj) (pe_op (q_op2 C_Ratio___sub__ T.first (hr.mono (by decide))) (pe_op (q_op2 C_Ratio___add__ T.first (hr.mono (by decide))) (pv 4) (pv 5)) (pv 5)) (pv 4) (nomark _)) (pw_or (pt_cmpR (q_ne C_Ratio___eq__ (hr.mono (by decide)) T.ne T.obj) (pe_op (q_op2 C_Ratio___sub__ T.first (hr.mono (by decide))) (pv 4) (pv 4)) (e_mkr C_Ratio_1 (hr.mono (by decide)) (by rfl) (pa_cons pe_int pa_nil)) (nomark _)) (pw_or1 (pt_cmpR op_ne (e_mth C_Ratio_is_below T.cls (hr.mono (by decide)) (pv 4) (pa_cons (pv 5) pa_nil)) (pe_fn C_law_less (hr.mono (by decide)) (by rfl) (pa_cons (pv 1) (pa_cons (pv 2) pa_nil))) (nomark _)))))) (pss_one (ps_ret pe_bl)) pss_nil) (pss_cons (ps_if (PW.pt (pw_or (pt_cmpR op_ne (e_mth C_Ratio_is_below T.cls (hr.mono (by decide)) (pv 4) (pa_cons (pv 3) pa_nil)) (pe_fn C_law_less (hr.mono (by decide)) (by rfl) (pa_cons (pv 1) (pa_cons (pe_tup (pa_cons (pv 3) (pa_cons pe_int pa_nil))) pa_nil))) (nomark _)) (pw_or (pt_val (e_mth C_Ratio_is_below T.cls (hr.mono (by decide)) (pv 4) (pa_cons (pv 4) pa_nil))) (pw_or (pt_cmpR (q_eqX (K := K) C_Ratio___eq__ (hr.mono (by decide))) (pv 4) (pv 1) (nomark _)) (pw_or1 (pt_cmpR (q_eqX (K := K) C_Ratio___eq__ (hr.mono (by decide))) (pv 4) (pe_ix (x_tup (K := K)) (pv 1) pe_int (fun _ _ => rfl)) (nomark _))))))) (pss_one (ps_ret pe_bl)) pss_nil) (pss_cons (ps_if (pt_cmpR op_ne (pe_ix (x_tup (K := K)) (pv 2) pe_int (fun _ _ => rfl)) pe_int (nomark _)) (pss_one (ps_if (PW.pt (pw_or (pt_cmpR (o_neD (K := K) hr.units) (e_prp C_Ratio_pair T.cls (hr.mono (by decide)) (e_mth C_Ratio_divided T.cls (hr.mono (by decide)) (pv 4) (pa_cons (pv 5) pa_nil))) (pe_fn C_law_over (hr.mono (by decide)) (by rfl) (pa_cons (pv 1) (pa_cons (pv 2) pa_nil))) (nomark _)) (pw_or1 (pt_cmpR (q_ne C_Ratio___eq__ (hr.mono (by decide)) T.ne T.obj) (e_mth C_Ratio_divided T.cls (hr.mono (by decide)) (pe_op (q_op2 C_Ratio___mul__ T.first (hr.mono (by decide))) (pv 4) (pv 5)) (pa_cons (pv 5) pa_nil)) (pv 4) (nomark _))))) (pss_one (ps_ret pe_bl)) pss_nil)) pss_nil) (pss_cons (ps_set (i := 8) sc_law_right.nd rfl (Or.inl rfl) (pe_op op_sub (pe_fn C_law_roll (hr.mono (by decide)) (by rfl) (pa_cons (pv 0) (pa_cons pe_int pa_nil))) pe_int)) (pss_cons (ps_if (PW.pt (pw_and (pt_cmpR op_eq (pe_ix (x_tup (K := K)) (pv 1) pe_int (fun _ _ => rfl)) pe_int (nomark _)) (pw_and1 (pt_cmpR op_lt (pv 8) pe_int (nomark _))))) (pss_one (ps_ret pe_bl)) pss_nil) (pss_cons (ps_if (pt_cmpR (o_neD (K := K) hr.units) (e_prp C_Ratio_pair T.cls (hr.mono (by decide)) (e_mth C_Ratio_power T.cls (hr.mono (by decide)) (pv 4) (pa_cons (pv 8) pa_nil))) (pe_fn C_law_power (hr.mono (by decide)) (by rfl) (pa_cons (pv 1) (pa_cons (pv 8) pa_nil))) (nomark _)) (pss_one (ps_ret pe_bl)) pss_nil) (pss_one (ps_ret (pe_cmpR (q_eq C_Ratio___eq__ (hr.mono (by decide))) (pe_op (q_op2 C_Ratio___mul__ T.first (hr.mono (by decide))) (pv 4) (pe_op (q_opI C_Ratio___add__ T.first I_add (hr.mono (by decide))) (pv 5) (pv 3))) (pe_op (q_op2 C_Ratio___add__ T.first (hr.mono (by decide))) (pe_op (q_op2 C_Ratio___mul__ T.first (hr.mono (by decide))) (pv 4) (pv 5)) (pe_op (q_opI C_Ratio___mul__ T.first I_mul (hr.mono (by decide))) (pv 4) (pv 3))) (nomark _)))))))))))))))))), ?_⟩
    walk_at "yy"
    refine ⟨d, rfl, hD, fun p a1 G0 lp bp na1 ea1 hD0 f0 => ?_⟩
    walk_at "yy"
    refine ⟨d, rfl, hD0, fun q a2 G1 lq bq na2 ea2 hD1 f1 => ?_⟩
    have ea1 := f1 _ _ ea1 (dice_neT hD0 ea1)
    walk_at "yy"
    refine ⟨d, 9, rfl, hD1, by decide, big_of (by decide), fun n0 G2 m0 m1 hD f2 => ?_⟩
    have ea1 := f2 _ _ ea1 (dice_neT hD1 ea1)
    have ea2 := f2 _ _ ea2 (dice_neT hD1 ea2)
    have ff := (f0.trans f1).trans f2
    clear hD0 hD1 f0 f1 f2 na1 na2
    walk_at "yy"
    have hn : (n0 - 4).natAbs ≤ 4 := by omega
    generalize n0 - 4 = n at hn ⊢
    clear m0 m1
    have np := nz lp
    have nq := nz lq
    have fp := bp.fine (by decide) lp
    have fq := bq.fine (by decide) lq
    have ln := low_int n
    have bn := bd_int hn
    have f1 : Fine (n, 1) := bn.fine (by decide) ln
    obtain ⟨ba, la⟩ := bd_add bp bq lp lq
    obtain ⟨bs, ls⟩ := bd_sub bp bq lp lq
    obtain ⟨bm, lm⟩ := bd_mul bp bq lp lq
    obtain ⟨ban, lan⟩ := bd_add bp bn lp ln
    obtain ⟨bmn, lmn⟩ := bd_mul bp bn lp ln
    obtain ⟨bqn, lqn⟩ := bd_add bq bn lq ln
    obtain ⟨bmq, lmq⟩ := bd_mul bp bqn lp lqn
    obtain ⟨bfin, lfin⟩ := bd_add bm bmn lm lmn
    obtain ⟨bss, lss⟩ := bd_sub bp bp lp lp
    have okc : okI (addP q p).1 = true ∧ okI (addP q p).2 = true := by rw [add_comm']; exact ba.ok (by decide)
    have okm : okI (mulP q p).1 = true ∧ okI (mulP q p).2 = true := by rw [mul_comm']; exact bm.ok (by decide)
    have oks : okI (subP (addP p q) q).1 = true ∧ okI (subP (addP p q) q).2 = true := by rw [add_sub lp lq]; exact ⟨fp.t, fp.b⟩
    have e3 : low (p.1 * 3) (p.2 * 3) = p := by rw [Int.mul_comm p.1, Int.mul_comm p.2, low_mul (by decide) np, low_fix lp]
    have e4 : low (0 - q.1) (0 - q.2) = q := by
      have : low (0 - q.1) (0 - q.2) = low (-1 * q.1) (-1 * q.2) := by congr 1 <;> omega
      rw [this, low_mul (by decide) nq, low_fix lq]
    refine y_ixT (sqt ea1) rfl ?_
    walk_at "yy"
    refine y_I (mulW (up_lt bp.1 (by decide)) (by decide)) ?_
    walk_at "yy"
    refine y_ixT (sqt ea1) rfl ?_
    walk_at "yy"
    refine y_I (mulW (up_lt bp.2 (by decide)) (by decide)) ?_
    walk_at "yy"
    intro x dx n1 n2 n3
    refine ⟨x, dx, p.1 * 3, p.2 * 3, rfl, upd_same, okI_bd (mul_lt (b := 2) bp.1 (by decide)) (by decide), okI_bd (mul_lt (b := 2) bp.2 (by decide)) (by decide), Int.mul_ne_zero np (by decide), fun V1 rx c1 => ⟨rfl, ?_⟩⟩
    have ss := ini_same n1 n2 n3 c1
    rw [e3] at rx
    clear n1 n2 n3 c1
    have ea1 := ss _ _ ea1
    have ea2 := ss _ _ ea2
    have hD := hD.same ss
    have ff := ff.trans (Fr.of_same ss)
    walk_at "yy"
    refine y_ixT (sqt ea2) rfl ?_
    walk_at "yy"
    refine y_ixT (sqt ea2) rfl ?_
    walk_at "yy"
    intro o dx2 n1 n2 n3
    refine ⟨o, dx2, 0 - q.1, 0 - q.2, rfl, upd_same, okI_bd (n := 140) (by have := bq.1; omega) (by decide), okI_bd (n := 140) (by have := bq.2; omega) (by decide), by omega, fun V2 ro c1 => ⟨rfl, ?_⟩⟩
    have ss := ini_same n1 n2 n3 c1
    rw [e4] at ro
    clear n1 n2 n3 c1
    have rx := rx.same ss
    have ea1 := ss _ _ ea1
    have ea2 := ss _ _ ea2
    have hD := hD.same ss
    have ff := ff.trans (Fr.of_same ss)
    walk_at "yy"
    refine ⟨x, a1, p, rfl, rx, ea1, fp, fun V3 ss => ?_⟩
    have rx := rx.same ss
    have ro := ro.same ss
    have ea1 := ss _ _ ea1
    have ea2 := ss _ _ ea2
    have hD := hD.same ss
    have ff := ff.trans (Fr.of_same ss)
    walk_at "yy"
    walk_at "yf"
    walk_at "yy"
    refine ⟨o, a2, q, rfl, ro, ea2, fq, fun V4 ss => ?_⟩
    have rx := rx.same ss
    have ro := ro.same ss
    have ea1 := ss _ _ ea1
    have ea2 := ss _ _ ea2
    have hD := hD.same ss
    have ff := ff.trans (Fr.of_same ss)
    walk_at "yy"
    walk_at "yf"
    walk_at "yy"
    refine ⟨x, o, _, _, _, _, rfl, rfl, rx.choose_spec, ro.choose_spec, x, .ref o, p, q, rfl, rx, fp, .inl ⟨o, rfl, ro⟩, fq, (ba.ok (by decide)).1, (ba.ok (by decide)).2, fun z1 W1 nz1 rz1 ss => ?_⟩
    have rx := rx.same ss
    have ro := ro.same ss
    have ea1 := ss _ _ ea1
    have ea2 := ss _ _ ea2
    have hD := hD.same ss
    have ff := ff.trans (Fr.of_same ss)
    walk_at "yy"
    refine ⟨x, o, _, _, _, _, rfl, rfl, rx.choose_spec, ro.choose_spec, x, .ref o, p, q, rfl, rx, fp, .inl ⟨o, rfl, ro⟩, fq, (bs.ok (by decide)).1, (bs.ok (by decide)).2, fun z2 W2 nz2 rz2 ss => ?_⟩
    have rx := rx.same ss
    have ro := ro.same ss
    have rz1 := rz1.same ss
    have ea1 := ss _ _ ea1
    have ea2 := ss _ _ ea2
    have hD := hD.same ss
    have ff := ff.trans (Fr.of_same ss)
    walk_at "yy"
    refine ⟨x, o, _, _, _, _, rfl, rfl, rx.choose_spec, ro.choose_spec, x, .ref o, p, q, rfl, rx, fp, .inl ⟨o, rfl, ro⟩, fq, (bm.ok (by decide)).1, (bm.ok (by decide)).2, fun z3 W3 nz3 rz3 ss => ?_⟩
    have rx := rx.same ss
    have ro := ro.same ss
    have rz1 := rz1.same ss
    have rz2 := rz2.same ss
    have ea1 := ss _ _ ea1
    have ea2 := ss _ _ ea2
    have hD := hD.same ss
    have ff := ff.trans (Fr.of_same ss)
    walk_at "yy"
    refine ⟨x, _, _, rfl, rx.choose_spec, x, p, rfl, rx, fp, fun z4 W4 nz4 rz4 ss => ?_⟩
    have rx := rx.same ss
    have ro := ro.same ss
    have rz1 := rz1.same ss
    have rz2 := rz2.same ss
    have rz3 := rz3.same ss
    have ea1 := ss _ _ ea1
    have ea2 := ss _ _ ea2
    have hD := hD.same ss
    have ff := ff.trans (Fr.of_same ss)
    walk_at "yy"
    refine ⟨x, _, _, rfl, rx.choose_spec, x, p, rfl, rx, fp, fun z5 W5 nz5 rz5 ss => ?_⟩
    have rx := rx.same ss
    have ro := ro.same ss
    have rz1 := rz1.same ss
    have rz2 := rz2.same ss
    have rz3 := rz3.same ss
    have rz4 := rz4.same ss
    have ea1 := ss _ _ ea1
    have ea2 := ss _ _ ea2
    have hD := hD.same ss
    have ff := ff.trans (Fr.of_same ss)
    walk_at "yy"
    refine ⟨x, _, _, n, rfl, rfl, rx.choose_spec, x, .int n, p, (n, 1), rfl, rx, fp, .inr ⟨n, rfl, rfl⟩, f1, (ban.ok (by decide)).1, (ban.ok (by decide)).2, fun z6 W6 nz6 rz6 ss => ?_⟩
    have rx := rx.same ss
    have ro := ro.same ss
    have rz1 := rz1.same ss
    have rz2 := rz2.same ss
    have rz3 := rz3.same ss
    have rz4 := rz4.same ss
    have rz5 := rz5.same ss
    have ea1 := ss _ _ ea1
    have ea2 := ss _ _ ea2
    have hD := hD.same ss
    have ff := ff.trans (Fr.of_same ss)
    walk_at "yy"
    refine ⟨x, _, _, n, rfl, rfl, rx.choose_spec, x, .int n, p, (n, 1), rfl, rx, fp, .inr ⟨n, rfl, rfl⟩, f1, (bmn.ok (by decide)).1, (bmn.ok (by decide)).2, fun z7 W7 nz7 rz7 ss => ?_⟩
    have rx := rx.same ss
    have ro := ro.same ss
    have rz1 := rz1.same ss
    have rz2 := rz2.same ss
    have rz3 := rz3.same ss
    have rz4 := rz4.same ss
    have rz5 := rz5.same ss
    have rz6 := rz6.same ss
    have ea1 := ss _ _ ea1
    have ea2 := ss _ _ ea2
    have hD := hD.same ss
    have ff := ff.trans (Fr.of_same ss)
    walk_at "yy"
    refine ⟨by show 7 ≤ sizeLine; decide, fun l nl => ?_⟩
    have el : (upd W7 l (.lst [.ref z1, .ref z2, .ref z3, .ref z4, .ref z5, .ref z6, .ref z7])) l = some (.lst [.ref z1, .ref z2, .ref z3, .ref z4, .ref z5, .ref z6, .ref z7]) := upd_same
    have ss : Same W7 (upd W7 l (.lst [.ref z1, .ref z2, .ref z3, .ref z4, .ref z5, .ref z6, .ref z7])) := same_new nl
    generalize upd W7 l (.lst [.ref z1, .ref z2, .ref z3, .ref z4, .ref z5, .ref z6, .ref z7]) = X0 at el ss ⊢
    have rx := rx.same ss
    have ro := ro.same ss
    have rz1 := rz1.same ss
    have rz2 := rz2.same ss
    have rz3 := rz3.same ss
    have rz4 := rz4.same ss
    have rz5 := rz5.same ss
    have rz6 := rz6.same ss
    have rz7 := rz7.same ss
    have ea1 := ss _ _ ea1
    have ea2 := ss _ _ ea2
    have hD := hD.same ss
    have ff := ff.trans (Fr.of_same ss)
    walk_at "yy"
    refine ⟨a1, a2, _, _, rfl, sqt ea1, sqt ea2, fp, fq, fun y108 W8 ny108 ey108 ss => ?_⟩
    have rx := rx.same ss
    have ro := ro.same ss
    have rz1 := rz1.same ss
    have rz2 := rz2.same ss
    have rz3 := rz3.same ss
    have rz4 := rz4.same ss
    have rz5 := rz5.same ss
    have rz6 := rz6.same ss
    have rz7 := rz7.same ss
    have ea1 := ss _ _ ea1
    have ea2 := ss _ _ ea2
    have el := ss _ _ el
    have hD := hD.same ss
    have ff := ff.trans (Fr.of_same ss)
    walk_at "yy"
    refine ⟨a1, a2, _, _, rfl, sqt ea1, sqt ea2, fp, fq, fun y109 W9 ny109 ey109 ss => ?_⟩
    have rx := rx.same ss
    have ro := ro.same ss
    have rz1 := rz1.same ss
    have rz2 := rz2.same ss
    have rz3 := rz3.same ss
    have rz4 := rz4.same ss
    have rz5 := rz5.same ss
    have rz6 := rz6.same ss
    have rz7 := rz7.same ss
    have ea1 := ss _ _ ea1
    have ea2 := ss _ _ ea2
    have el := ss _ _ el
    have ey108 := ss _ _ ey108
    have hD := hD.same ss
    have ff := ff.trans (Fr.of_same ss)
    walk_at "yy"
    refine ⟨a1, a2, _, _, rfl, sqt ea1, sqt ea2, fp, fq, fun y110 W10 ny110 ey110 ss => ?_⟩
    have rx := rx.same ss
    have ro := ro.same ss
    have rz1 := rz1.same ss
    have rz2 := rz2.same ss
    have rz3 := rz3.same ss
    have rz4 := rz4.same ss
    have rz5 := rz5.same ss
    have rz6 := rz6.same ss
    have rz7 := rz7.same ss
    have ea1 := ss _ _ ea1
    have ea2 := ss _ _ ea2
    have el := ss _ _ el
    have ey108 := ss _ _ ey108
    have ey109 := ss _ _ ey109
    have hD := hD.same ss
    have ff := ff.trans (Fr.of_same ss)
    walk_at "yy"
    refine y_ixT (sqt ea1) rfl ?_
    walk_at "yy"
    refine y_ixT (sqt ea1) rfl ?_
    walk_at "yy"
    rw [Int.zero_sub]
    refine ⟨by show 2 ≤ sizeLine; decide, fun d4 nd4 => ?_⟩
    have ed4 : (upd W10 d4 (.tup [.int (-p.1), .int p.2])) d4 = some (.tup [.int (negP p).1, .int (negP p).2]) := upd_same
    have ss : Same W10 (upd W10 d4 (.tup [.int (-p.1), .int p.2])) := same_new nd4
    generalize upd W10 d4 (.tup [.int (-p.1), .int p.2]) = X1 at ed4 ss ⊢
    have rx := rx.same ss
    have ro := ro.same ss
    have rz1 := rz1.same ss
    have rz2 := rz2.same ss
    have rz3 := rz3.same ss
    have rz4 := rz4.same ss
    have rz5 := rz5.same ss
    have rz6 := rz6.same ss
    have rz7 := rz7.same ss
    have ea1 := ss _ _ ea1
    have ea2 := ss _ _ ea2
    have el := ss _ _ el
    have ey108 := ss _ _ ey108
    have ey109 := ss _ _ ey109
    have ey110 := ss _ _ ey110
    have hD := hD.same ss
    have ff := ff.trans (Fr.of_same ss)
    walk_at "yy"
    refine ⟨by show 4 ≤ sizeLine; decide, fun l1 nl1 => ?_⟩
    have el1 : (upd X1 l1 (.lst [.ref y108, .ref y109, .ref y110, .ref d4])) l1 = some (.lst [.ref y108, .ref y109, .ref y110, .ref d4]) := upd_same
    have ss : Same X1 (upd X1 l1 (.lst [.ref y108, .ref y109, .ref y110, .ref d4])) := same_new nl1
    generalize upd X1 l1 (.lst [.ref y108, .ref y109, .ref y110, .ref d4]) = X2 at el1 ss ⊢
    have rx := rx.same ss
    have ro := ro.same ss
    have rz1 := rz1.same ss
    have rz2 := rz2.same ss
    have rz3 := rz3.same ss
    have rz4 := rz4.same ss
    have rz5 := rz5.same ss
    have rz6 := rz6.same ss
    have rz7 := rz7.same ss
    have ea1 := ss _ _ ea1
    have ea2 := ss _ _ ea2
    have el := ss _ _ el
    have ey108 := ss _ _ ey108
    have ey109 := ss _ _ ey109
    have ey110 := ss _ _ ey110
    have ed4 := ss _ _ ed4
    have hD := hD.same ss
    have ff := ff.trans (Fr.of_same ss)
    walk_at "yy"
    refine y_ixT (sqt ea1) rfl ?_
    walk_at "yy"
    refine y_ixT (sqt ea1) rfl ?_
    walk_at "yy"
    refine ⟨by show 2 ≤ sizeLine; decide, fun d5 nd5 => ?_⟩
    have ed5 : (upd X2 d5 (.tup [.int (p.1.natAbs : Int), .int p.2])) d5 = some (.tup [.int (absP p).1, .int (absP p).2]) := upd_same
    have ss : Same X2 (upd X2 d5 (.tup [.int (p.1.natAbs : Int), .int p.2])) := same_new nd5
    generalize upd X2 d5 (.tup [.int (p.1.natAbs : Int), .int p.2]) = X3 at ed5 ss ⊢
    have rx := rx.same ss
    have ro := ro.same ss
    have rz1 := rz1.same ss
    have rz2 := rz2.same ss
    have rz3 := rz3.same ss
    have rz4 := rz4.same ss
    have rz5 := rz5.same ss
    have rz6 := rz6.same ss
    have rz7 := rz7.same ss
    have ea1 := ss _ _ ea1
    have ea2 := ss _ _ ea2
    have el := ss _ _ el
    have ey108 := ss _ _ ey108
    have ey109 := ss _ _ ey109
    have ey110 := ss _ _ ey110
    have ed4 := ss _ _ ed4
    have el1 := ss _ _ el1
    have hD := hD.same ss
    have ff := ff.trans (Fr.of_same ss)
    walk_at "yy"
    refine ⟨by show 2 ≤ sizeLine; decide, fun k1 nk1 => ?_⟩
    have ek1 : (upd X3 k1 (.tup [.int n, .int 1])) k1 = some (.tup [.int (n, (1 : Int)).1, .int (n, (1 : Int)).2]) := upd_same
    have ss : Same X3 (upd X3 k1 (.tup [.int n, .int 1])) := same_new nk1
    generalize upd X3 k1 (.tup [.int n, .int 1]) = X4 at ek1 ss ⊢
    have rx := rx.same ss
    have ro := ro.same ss
    have rz1 := rz1.same ss
    have rz2 := rz2.same ss
    have rz3 := rz3.same ss
    have rz4 := rz4.same ss
    have rz5 := rz5.same ss
    have rz6 := rz6.same ss
    have rz7 := rz7.same ss
    have ea1 := ss _ _ ea1
    have ea2 := ss _ _ ea2
    have el := ss _ _ el
    have ey108 := ss _ _ ey108
    have ey109 := ss _ _ ey109
    have ey110 := ss _ _ ey110
    have ed4 := ss _ _ ed4
    have el1 := ss _ _ el1
    have ed5 := ss _ _ ed5
    have hD := hD.same ss
    have ff := ff.trans (Fr.of_same ss)
    walk_at "yy"
    refine ⟨a1, k1, _, _, rfl, sqt ea1, sqt ek1, fp, f1, fun y111 W11 ny111 ey111 ss => ?_⟩
    have rx := rx.same ss
    have ro := ro.same ss
    have rz1 := rz1.same ss
    have rz2 := rz2.same ss
    have rz3 := rz3.same ss
    have rz4 := rz4.same ss
    have rz5 := rz5.same ss
    have rz6 := rz6.same ss
    have rz7 := rz7.same ss
    have ea1 := ss _ _ ea1
    have ea2 := ss _ _ ea2
    have el := ss _ _ el
    have ey108 := ss _ _ ey108
    have ey109 := ss _ _ ey109
    have ey110 := ss _ _ ey110
    have ed4 := ss _ _ ed4
    have el1 := ss _ _ el1
    have ed5 := ss _ _ ed5
    have ek1 := ss _ _ ek1
    have hD := hD.same ss
    have ff := ff.trans (Fr.of_same ss)
    walk_at "yy"
    refine ⟨by show 2 ≤ sizeLine; decide, fun k2 nk2 => ?_⟩
    have ek2 : (upd W11 k2 (.tup [.int n, .int 1])) k2 = some (.tup [.int (n, (1 : Int)).1, .int (n, (1 : Int)).2]) := upd_same
    have ss : Same W11 (upd W11 k2 (.tup [.int n, .int 1])) := same_new nk2
    generalize upd W11 k2 (.tup [.int n, .int 1]) = X5 at ek2 ss ⊢
    have rx := rx.same ss
    have ro := ro.same ss
    have rz1 := rz1.same ss
    have rz2 := rz2.same ss
    have rz3 := rz3.same ss
    have rz4 := rz4.same ss
    have rz5 := rz5.same ss
    have rz6 := rz6.same ss
    have rz7 := rz7.same ss
    have ea1 := ss _ _ ea1
    have ea2 := ss _ _ ea2
    have el := ss _ _ el
    have ey108 := ss _ _ ey108
    have ey109 := ss _ _ ey109
    have ey110 := ss _ _ ey110
    have ed4 := ss _ _ ed4
    have el1 := ss _ _ el1
    have ed5 := ss _ _ ed5
    have ek1 := ss _ _ ek1
    have ey111 := ss _ _ ey111
    have hD := hD.same ss
    have ff := ff.trans (Fr.of_same ss)
    walk_at "yy"
    refine ⟨a1, k2, _, _, rfl, sqt ea1, sqt ek2, fp, f1, fun y112 W12 ny112 ey112 ss => ?_⟩
    have rx := rx.same ss
    have ro := ro.same ss
    have rz1 := rz1.same ss
    have rz2 := rz2.same ss
    have rz3 := rz3.same ss
    have rz4 := rz4.same ss
    have rz5 := rz5.same ss
    have rz6 := rz6.same ss
    have rz7 := rz7.same ss
    have ea1 := ss _ _ ea1
    have ea2 := ss _ _ ea2
    have el := ss _ _ el
    have ey108 := ss _ _ ey108
    have ey109 := ss _ _ ey109
    have ey110 := ss _ _ ey110
    have ed4 := ss _ _ ed4
    have el1 := ss _ _ el1
    have ed5 := ss _ _ ed5
    have ek1 := ss _ _ ek1
    have ey111 := ss _ _ ey111
    have ek2 := ss _ _ ek2
    have hD := hD.same ss
    have ff := ff.trans (Fr.of_same ss)
    walk_at "yy"
    refine ⟨by show 3 ≤ sizeLine; decide, fun l2 nl2 => ?_⟩
    have el2 : (upd W12 l2 (.lst [.ref d5, .ref y111, .ref y112])) l2 = some (.lst [.ref d5, .ref y111, .ref y112]) := upd_same
    have ss : Same W12 (upd W12 l2 (.lst [.ref d5, .ref y111, .ref y112])) := same_new nl2
    generalize upd W12 l2 (.lst [.ref d5, .ref y111, .ref y112]) = X6 at el2 ss ⊢
    have rx := rx.same ss
    have ro := ro.same ss
    have rz1 := rz1.same ss
    have rz2 := rz2.same ss
    have rz3 := rz3.same ss
    have rz4 := rz4.same ss
    have rz5 := rz5.same ss
    have rz6 := rz6.same ss
    have rz7 := rz7.same ss
    have ea1 := ss _ _ ea1
    have ea2 := ss _ _ ea2
    have el := ss _ _ el
    have ey108 := ss _ _ ey108
    have ey109 := ss _ _ ey109
    have ey110 := ss _ _ ey110
    have ed4 := ss _ _ ed4
    have el1 := ss _ _ el1
    have ed5 := ss _ _ ed5
    have ek1 := ss _ _ ek1
    have ey111 := ss _ _ ey111
    have ek2 := ss _ _ ek2
    have ey112 := ss _ _ ey112
    have hD := hD.same ss
    have ff := ff.trans (Fr.of_same ss)
    refine ⟨l1, l2, _, _, rfl, rfl, el1, el2, by show 7 ≤ sizeLine; decide, fun l3 nl3 => ?_⟩
    have el3 : (upd X6 l3 (.lst ([.ref y108, .ref y109, .ref y110, .ref d4] ++ [.ref d5, .ref y111, .ref y112]))) l3 = some (.lst ([.ref y108, .ref y109, .ref y110, .ref d4] ++ [.ref d5, .ref y111, .ref y112])) := upd_same
    have ss : Same X6 (upd X6 l3 (.lst ([.ref y108, .ref y109, .ref y110, .ref d4] ++ [.ref d5, .ref y111, .ref y112]))) := same_new nl3
    generalize upd X6 l3 (.lst ([.ref y108, .ref y109, .ref y110, .ref d4] ++ [.ref d5, .ref y111, .ref y112])) = X7 at el3 ss ⊢
    have rx := rx.same ss
    have ro := ro.same ss
    have rz1 := rz1.same ss
    have rz2 := rz2.same ss
    have rz3 := rz3.same ss
    have rz4 := rz4.same ss
    have rz5 := rz5.same ss
    have rz6 := rz6.same ss
    have rz7 := rz7.same ss
    have ea1 := ss _ _ ea1
    have ea2 := ss _ _ ea2
    have el := ss _ _ el
    have ey108 := ss _ _ ey108
    have ey109 := ss _ _ ey109
    have ey110 := ss _ _ ey110
    have ed4 := ss _ _ ed4
    have el1 := ss _ _ el1
    have ed5 := ss _ _ ed5
    have ek1 := ss _ _ ek1
    have ey111 := ss _ _ ey111
    have ek2 := ss _ _ ek2
    have ey112 := ss _ _ ey112
    have hD := hD.same ss
    have ff := ff.trans (Fr.of_same ss)
    walk_at "yy"
    refine ⟨l, rfl, ⟨_, sql el⟩, fun D nD => lc_list (xs := [.ref z1, .ref z2, .ref z3, .ref z4, .ref z5, .ref z6, .ref z7]) (fun (j : Nat) H3 => ∃ rs : List Addr, H3 D = some (.lst (rs.map V.ref)) ∧ rs.length = j ∧ (∀ (m : Nat) (r : Addr), rs[m]? = some r → ∃ t, ([addP p q, subP p q, mulP p q, negP p, absP p, addP p (n, 1), mulP p (n, 1)] : List (Int × Int))[m]? = some t ∧ r ≠ D ∧ H3 r = some (.tup [.int t.1, .int t.2])) ∧ Same X7 H3) ?_ (fun _ H3 _ h => by obtain ⟨_, _, _, _, s⟩ := h; exact s.seq (sql el)) ?_ ?_⟩
    · exact ⟨[], upd_same, rfl, fun m r h => by simp at h, same_new nD⟩
    · rintro j y H3 hx ⟨rs, eD, er, hr', sM⟩
      have hj : j < 7 := (List.getElem?_eq_some_iff.mp hx).1
      obtain ⟨t, et, z, rfl, rz⟩ : ∃ t, ([addP p q, subP p q, mulP p q, negP p, absP p, addP p (n, 1), mulP p (n, 1)] : List (Int × Int))[j]? = some t ∧ ∃ z, y = .ref z ∧ RAt X7 C z t := by
        match j, hx, hj with
        | 0, hx, _ => exact ⟨_, rfl, z1, (Option.some.inj hx).symm, rz1⟩
        | 1, hx, _ => exact ⟨_, rfl, z2, (Option.some.inj hx).symm, rz2⟩
        | 2, hx, _ => exact ⟨_, rfl, z3, (Option.some.inj hx).symm, rz3⟩
        | 3, hx, _ => exact ⟨_, rfl, z4, (Option.some.inj hx).symm, rz4⟩
        | 4, hx, _ => exact ⟨_, rfl, z5, (Option.some.inj hx).symm, rz5⟩
        | 5, hx, _ => exact ⟨_, rfl, z6, (Option.some.inj hx).symm, rz6⟩
        | 6, hx, _ => exact ⟨_, rfl, z7, (Option.some.inj hx).symm, rz7⟩
      walk_at "yy"
      refine ⟨rfl, ?_⟩
      walk_at "yy"
      walk_at "yt"
      walk_at "yy"
      refine ⟨z, _, _, rfl, (rz.same sM).choose_spec, z, t, rfl, rz.same sM, fun w H4 nw ew s4 => ?_⟩
      have nDw : D ≠ w := ne_of_none eD nw
      refine ⟨_, s4 _ _ eD, sz_lt (by rw [List.length_map]; omega), rs ++ [w], ?_, ?_, ?_, same_mut (sM.trans s4) nD⟩
      · rw [upd_same, List.map_append]
        rfl
      · rw [List.length_append, er]
        rfl
      · intro m r hm
        by_cases hmj : m < rs.length
        · rw [List.getElem?_append_left hmj] at hm
          obtain ⟨t2, e2, n2, h2⟩ := hr' m r hm
          exact ⟨t2, e2, n2, by rw [upd_ne n2]; exact s4 _ _ h2⟩
        · have hm2 : m = j := by
            have : m < (rs ++ [w]).length := (List.getElem?_eq_some_iff.mp hm).1
            rw [List.length_append, List.length_singleton] at this
            omega
          subst hm2
          rw [← er, List.getElem?_concat_length] at hm
          cases Option.some.inj hm
          exact ⟨t, et, nDw.symm, by rw [upd_ne nDw.symm]; exact ew⟩
    · rintro H3 ⟨rs, eD, er, hr', sM⟩
      have er : rs.length = 7 := er
      walk_at "yy"
      refine ⟨.list ([addP p q, subP p q, mulP p q, negP p, absP p, addP p (n, 1), mulP p (n, 1)].map tq), .list ([addP p q, subP p q, mulP p q, negP p, absP p, addP p (n, 1), mulP p (n, 1)].map tq), .lst (sql eD) (dp_pairs rs [addP p q, subP p q, mulP p q, negP p, absP p, addP p (n, 1), mulP p (n, 1)] er fun m r hm => (hr' m r hm).imp fun t z => ⟨z.1, z.2.2⟩), .lst (sql (sM _ _ el3)) (.cons (tp (sM _ _ ey108)) (.cons (tp (sM _ _ ey109)) (.cons (tp (sM _ _ ey110)) (.cons (tp (sM _ _ ed4)) (.cons (tp (sM _ _ ed5)) (.cons (tp (sM _ _ ey111)) (.cons (tp (sM _ _ ey112)) .nil))))))), rfl, rfl, ?_⟩
      have e : PyData.eqv (.list ([addP p q, subP p q, mulP p q, negP p, absP p, addP p (n, 1), mulP p (n, 1)].map tq)) (.list ([addP p q, subP p q, mulP p q, negP p, absP p, addP p (n, 1), mulP p (n, 1)].map tq)) = true := PySem.SeqAt.eqv_refl _ rfl
      rw [e]
      walk_at "yy"
      walk_at "yf"
      walk_at "yy"
      have rx := rx.same sM
      have ro := ro.same sM
      have ea1 := sM _ _ ea1
      have ea2 := sM _ _ ea2
      have hD := hD.same sM
      have ff := ff.trans (Fr.of_same sM)
      clear hr' er eD el3 el el2 el1 nD
      refine ⟨x, o, _, _, _, _, rfl, rfl, rx.choose_spec, ro.choose_spec, x, .ref o, p, q, rfl, rx, fp, .inl ⟨o, rfl, ro⟩, fq, (ba.ok (by decide)).1, (ba.ok (by decide)).2, fun z13 W13 nz13 rz13 ss => ?_⟩
      have rx := rx.same ss
      have ro := ro.same ss
      have ea1 := ss _ _ ea1
      have ea2 := ss _ _ ea2
      have hD := hD.same ss
      have ff := ff.trans (Fr.of_same ss)
      walk_at "yy"
      refine ⟨o, x, _, _, _, _, rfl, rfl, ro.choose_spec, rx.choose_spec, o, .ref x, q, p, rfl, ro, fq, .inl ⟨x, rfl, rx⟩, fp, (okc).1, (okc).2, fun z14 W14 nz14 rz14 ss => ?_⟩
      have rx := rx.same ss
      have ro := ro.same ss
      have rz13 := rz13.same ss
      have ea1 := ss _ _ ea1
      have ea2 := ss _ _ ea2
      have hD := hD.same ss
      have ff := ff.trans (Fr.of_same ss)
      refine ⟨z13, z14, _, _, _, _, rfl, rfl, rz13.choose_spec, rz14.choose_spec, z13, .ref z14, _, rfl, rz13, .inl ⟨z14, _, rfl, rz14, _, rfl, ?_⟩⟩
      walk_at "yy"
      refine y_f (nsd add_comm') ?_
      walk_at "yy"
      refine ⟨x, o, _, _, _, _, rfl, rfl, rx.choose_spec, ro.choose_spec, x, .ref o, p, q, rfl, rx, fp, .inl ⟨o, rfl, ro⟩, fq, (bm.ok (by decide)).1, (bm.ok (by decide)).2, fun z15 W15 nz15 rz15 ss => ?_⟩
      have rx := rx.same ss
      have ro := ro.same ss
      have ea1 := ss _ _ ea1
      have ea2 := ss _ _ ea2
      have hD := hD.same ss
      have ff := ff.trans (Fr.of_same ss)
      walk_at "yy"
      refine ⟨o, x, _, _, _, _, rfl, rfl, ro.choose_spec, rx.choose_spec, o, .ref x, q, p, rfl, ro, fq, .inl ⟨x, rfl, rx⟩, fp, (okm).1, (okm).2, fun z16 W16 nz16 rz16 ss => ?_⟩
      have rx := rx.same ss
      have ro := ro.same ss
      have rz15 := rz15.same ss
      have ea1 := ss _ _ ea1
      have ea2 := ss _ _ ea2
      have hD := hD.same ss
      have ff := ff.trans (Fr.of_same ss)
      refine ⟨z15, z16, _, _, _, _, rfl, rfl, rz15.choose_spec, rz16.choose_spec, z15, .ref z16, _, rfl, rz15, .inl ⟨z16, _, rfl, rz16, _, rfl, ?_⟩⟩
      walk_at "yy"
      refine y_f (nsd mul_comm') ?_
      walk_at "yy"
      refine ⟨x, o, _, _, _, _, rfl, rfl, rx.choose_spec, ro.choose_spec, x, .ref o, p, q, rfl, rx, fp, .inl ⟨o, rfl, ro⟩, fq, (ba.ok (by decide)).1, (ba.ok (by decide)).2, fun z17 W17 nz17 rz17 ss => ?_⟩
      have rx := rx.same ss
      have ro := ro.same ss
      have ea1 := ss _ _ ea1
      have ea2 := ss _ _ ea2
      have hD := hD.same ss
      have ff := ff.trans (Fr.of_same ss)
      walk_at "yy"
      refine ⟨z17, o, _, _, _, _, rfl, rfl, rz17.choose_spec, ro.choose_spec, z17, .ref o, addP p q, q, rfl, rz17, (ba.fine (by decide) la), .inl ⟨o, rfl, ro⟩, fq, (oks).1, (oks).2, fun z18 W18 nz18 rz18 ss => ?_⟩
      have rx := rx.same ss
      have ro := ro.same ss
      have rz17 := rz17.same ss
      have ea1 := ss _ _ ea1
      have ea2 := ss _ _ ea2
      have hD := hD.same ss
      have ff := ff.trans (Fr.of_same ss)
      walk_at "yy"
      refine ⟨z18, x, _, _, _, _, rfl, rfl, rz18.choose_spec, rx.choose_spec, z18, .ref x, _, rfl, rz18, .inl ⟨x, _, rfl, rx, _, rfl, ?_⟩⟩
      walk_at "yy"
      refine y_f (nsd (add_sub lp lq)) ?_
      walk_at "yy"
      refine ⟨x, x, _, _, _, _, rfl, rfl, rx.choose_spec, rx.choose_spec, x, .ref x, p, p, rfl, rx, fp, .inl ⟨x, rfl, rx⟩, fp, (bss.ok (by decide)).1, (bss.ok (by decide)).2, fun z19 W19 nz19 rz19 ss => ?_⟩
      have rx := rx.same ss
      have ro := ro.same ss
      have ea1 := ss _ _ ea1
      have ea2 := ss _ _ ea2
      have hD := hD.same ss
      have ff := ff.trans (Fr.of_same ss)
      walk_at "yy"
      intro u du n1 n2 n3
      refine ⟨u, du, 0, 1, rfl, upd_same, okI_small (by decide), okI_small (by decide), by decide, fun V5 ru c1 => ⟨rfl, ?_⟩⟩
      have ss := ini_same n1 n2 n3 c1
      clear n1 n2 n3 c1
      have rx := rx.same ss
      have ro := ro.same ss
      have rz19 := rz19.same ss
      have ea1 := ss _ _ ea1
      have ea2 := ss _ _ ea2
      have hD := hD.same ss
      have ff := ff.trans (Fr.of_same ss)
      refine ⟨z19, u, _, _, _, _, rfl, rfl, rz19.choose_spec, ru.choose_spec, z19, .ref u, _, rfl, rz19, .inl ⟨u, _, rfl, ru, _, rfl, ?_⟩⟩
      walk_at "yy"
      refine y_f (nsd ((sub_self' lp).trans (by decide))) ?_
      walk_at "yy"
      refine ⟨x, _, _, rfl, rx.choose_spec, rf_no (by decide +kernel) (by decide +kernel) _, ?_⟩
      walk_at "yy"
      refine ⟨x, .ref o, p, q, rfl, rx, fp, .inl ⟨o, rfl, ro⟩, fq, fun V6 ss => ?_⟩
      have rx := rx.same ss
      have ro := ro.same ss
      have ea1 := ss _ _ ea1
      have ea2 := ss _ _ ea2
      have hD := hD.same ss
      have ff := ff.trans (Fr.of_same ss)
      walk_at "yy"
      refine ⟨a1, a2, p, q, rfl, sqt ea1, sqt ea2, fp, fq, ?_⟩
      refine y_neB ?_
      walk_at "yy"
      refine y_f (nsd rfl) ?_
      walk_at "yy"
      refine ⟨x, _, _, rfl, rx.choose_spec, rf_no (by decide +kernel) (by decide +kernel) _, ?_⟩
      walk_at "yy"
      refine ⟨x, .int n, p, (n, 1), rfl, rx, fp, .inr ⟨n, rfl, rfl⟩, f1, fun V7 ss => ?_⟩
      have rx := rx.same ss
      have ro := ro.same ss
      have ea1 := ss _ _ ea1
      have ea2 := ss _ _ ea2
      have hD := hD.same ss
      have ff := ff.trans (Fr.of_same ss)
      walk_at "yy"
      refine ⟨by show 2 ≤ sizeLine; decide, fun k3 nk3 => ?_⟩
      have ek3 : (upd V7 k3 (.tup [.int n, .int 1])) k3 = some (.tup [.int (n, (1 : Int)).1, .int (n, (1 : Int)).2]) := upd_same
      have ss : Same V7 (upd V7 k3 (.tup [.int n, .int 1])) := same_new nk3
      generalize upd V7 k3 (.tup [.int n, .int 1]) = V8 at ek3 ss ⊢
      have rx := rx.same ss
      have ro := ro.same ss
      have ea1 := ss _ _ ea1
      have ea2 := ss _ _ ea2
      have hD := hD.same ss
      have ff := ff.trans (Fr.of_same ss)
      walk_at "yy"
      refine ⟨a1, k3, p, (n, 1), rfl, sqt ea1, sqt ek3, fp, f1, ?_⟩
      refine y_neB ?_
      walk_at "yy"
      refine y_f (nsd rfl) ?_
      walk_at "yy"
      refine ⟨x, _, _, rfl, rx.choose_spec, rf_no (by decide +kernel) (by decide +kernel) _, ?_⟩
      walk_at "yy"
      refine ⟨x, .ref x, p, p, rfl, rx, fp, .inl ⟨x, rfl, rx⟩, fp, fun V9 ss => ?_⟩
      have rx := rx.same ss
      have ro := ro.same ss
      have ea1 := ss _ _ ea1
      have ea2 := ss _ _ ea2
      have hD := hD.same ss
      have ff := ff.trans (Fr.of_same ss)
      walk_at "yy"
      refine y_f (less_self p) ?_
      walk_at "yy"
      refine ⟨x, _, _, _, rfl, rx.choose_spec, .base (.tup ea1), XT, x, .ref a1, p, rfl, rx, .inr ⟨_, .base (.tup ea1), T.kt, ?_⟩⟩
      walk_at "yy"
      walk_at "yf"
      walk_at "yy"
      refine y_ixT (sqt ea1) rfl ?_
      walk_at "yy"
      refine ⟨x, _, _, _, rfl, rx.choose_spec, .base (.int _), XI, x, .int p.1, p, rfl, rx, .inr ⟨_, .base (.int _), T.ki, ?_⟩⟩
      walk_at "yy"
      walk_at "yf"
      walk_at "yy"
      refine y_ixT (sqt ea2) rfl ?_
      walk_at "yy"
      refine y_ite (fun h => ?_) (fun h => ?_)
      · have h0 : q.1 ≠ 0 := fun z => by
          rw [decide_eq_true z] at h
          cases h
        obtain ⟨bo, lo⟩ := bd_over bp bq lp h0
        walk_at "yy"
        refine ⟨x, _, _, rfl, rx.choose_spec, rf_no (by decide +kernel) (by decide +kernel) _, ?_⟩
        walk_at "yy"
        refine ⟨x, .ref o, p, q, rfl, rx, fp, .inl ⟨o, rfl, ro⟩, fq, h0, (bo.ok (by decide)).1, (bo.ok (by decide)).2, fun z20 W20 nz20 rz20 ss => ?_⟩
        have rx := rx.same ss
        have ro := ro.same ss
        have ea1 := ss _ _ ea1
        have ea2 := ss _ _ ea2
        have hD := hD.same ss
        have ff := ff.trans (Fr.of_same ss)
        refine ⟨z20, _, _, rfl, rz20.choose_spec, z20, overP p q, rfl, rz20, fun w21 W21 nw21 ew21 ss => ?_⟩
        have rx := rx.same ss
        have ro := ro.same ss
        have rz20 := rz20.same ss
        have ea1 := ss _ _ ea1
        have ea2 := ss _ _ ea2
        have hD := hD.same ss
        have ff := ff.trans (Fr.of_same ss)
        walk_at "yy"
        refine ⟨a1, a2, _, _, rfl, sqt ea1, sqt ea2, fp, fq, h0, fun y122 W22 ny122 ey122 ss => ?_⟩
        have rx := rx.same ss
        have ro := ro.same ss
        have rz20 := rz20.same ss
        have ea1 := ss _ _ ea1
        have ea2 := ss _ _ ea2
        have ew21 := ss _ _ ew21
        have hD := hD.same ss
        have ff := ff.trans (Fr.of_same ss)
        refine ⟨tq (overP p q), tq (overP p q), tp ew21, tp ey122, shT _, shT _, ?_⟩
        walk_at "yy"
        refine y_f (by rw [eqvT]; rfl) ?_
        walk_at "yy"
        refine ⟨x, o, _, _, _, _, rfl, rfl, rx.choose_spec, ro.choose_spec, x, .ref o, p, q, rfl, rx, fp, .inl ⟨o, rfl, ro⟩, fq, (bm.ok (by decide)).1, (bm.ok (by decide)).2, fun z23 W23 nz23 rz23 ss => ?_⟩
        have rx := rx.same ss
        have ro := ro.same ss
        have ea1 := ss _ _ ea1
        have ea2 := ss _ _ ea2
        have hD := hD.same ss
        have ff := ff.trans (Fr.of_same ss)
        refine ⟨z23, _, _, rfl, rz23.choose_spec, rf_no (by decide +kernel) (by decide +kernel) _, ?_⟩
        walk_at "yy"
        have od : okI (overP (mulP p q) q).1 = true ∧ okI (overP (mulP p q) q).2 = true := by rw [mul_over lp lq h0]; exact ⟨fp.t, fp.b⟩
        refine ⟨z23, .ref o, mulP p q, q, rfl, rz23, bm.fine (by decide) lm, .inl ⟨o, rfl, ro⟩, fq, h0, od.1, od.2, fun z24 W24 nz24 rz24 ss => ?_⟩
        have rx := rx.same ss
        have ro := ro.same ss
        have rz23 := rz23.same ss
        have ea1 := ss _ _ ea1
        have ea2 := ss _ _ ea2
        have hD := hD.same ss
        have ff := ff.trans (Fr.of_same ss)
        walk_at "yy"
        refine ⟨z24, x, _, _, _, _, rfl, rfl, rz24.choose_spec, rx.choose_spec, z24, .ref x, _, rfl, rz24, .inl ⟨x, _, rfl, rx, _, rfl, ?_⟩⟩
        walk_at "yy"
        refine y_f (nsd (mul_over lp lq h0)) ?_
        walk_at "yy"
        walk_at "yy"
        refine ⟨d, 7, rfl, hD, by decide, big_of (by decide), fun e0 Y0 m0 m1 hD2 f2 => ?_⟩
        have rx := rx.fr f2 (dice_neR hD rx)
        have ro := ro.fr f2 (dice_neR hD ro)
        have ea1 := f2 _ _ ea1 (dice_neT hD ea1)
        have ff := ff.trans f2
        have hD := hD2
        walk_at "yy"
        have he : (e0 - 3).natAbs ≤ 3 := by omega
        generalize e0 - 3 = e at he ⊢
        refine y_ixT (sqt ea1) rfl ?_
        walk_at "yy"
        refine y_ite (fun hz => ?_) (fun hz => ?_)
        · walk_at "yy"
          refine y_ite (fun hn => ?_) (fun hn => ?_)
          · walk_at "yy"
            exact k _ hD ff
          · have h0e : e < 0 → p.1 ≠ 0 := fun g => absurd g (of_decide_eq_false hn)
            walk_at "yy"
            refine ⟨x, _, _, rfl, rx.choose_spec, rf_no (by decide +kernel) (by decide +kernel) _, ?_⟩
            walk_at "yy"
            refine ⟨x, p, e, rfl, rx, lp, bp, he, h0e, fun z25 W25 nz25 rz25 ss => ?_⟩
            have rx := rx.same ss
            have ro := ro.same ss
            have ea1 := ss _ _ ea1
            have hD := hD.same ss
            have ff := ff.trans (Fr.of_same ss)
            refine ⟨z25, _, _, rfl, rz25.choose_spec, z25, powP p e, rfl, rz25, fun w26 W26 nw26 ew26 ss => ?_⟩
            have rx := rx.same ss
            have ro := ro.same ss
            have rz25 := rz25.same ss
            have ea1 := ss _ _ ea1
            have hD := hD.same ss
            have ff := ff.trans (Fr.of_same ss)
            walk_at "yy"
            refine ⟨a1, p, e, rfl, ea1, lp, bp, he, h0e, fun v27 W27 nv27 ev27 ss => ?_⟩
            have rx := rx.same ss
            have ro := ro.same ss
            have rz25 := rz25.same ss
            have ea1 := ss _ _ ea1
            have ew26 := ss _ _ ew26
            have hD := hD.same ss
            have ff := ff.trans (Fr.of_same ss)
            refine ⟨tq (powP p e), tq (powP p e), tp ew26, tp ev27, shT _, shT _, ?_⟩
            walk_at "yy"
            refine y_f (by rw [eqvT]; rfl) ?_
            walk_at "yy"
            refine ⟨o, _, _, n, rfl, rfl, ro.choose_spec, o, .int n, q, (n, 1), rfl, ro, fq, .inr ⟨n, rfl, rfl⟩, f1, (bqn.ok (by decide)).1, (bqn.ok (by decide)).2, fun z28 W28 nz28 rz28 ss => ?_⟩
            have rx := rx.same ss
            have ro := ro.same ss
            have hD := hD.same ss
            have ff := ff.trans (Fr.of_same ss)
            refine ⟨x, z28, _, _, _, _, rfl, rfl, rx.choose_spec, rz28.choose_spec, x, .ref z28, p, addP q (n, 1), rfl, rx, fp, .inl ⟨z28, rfl, rz28⟩, (bqn.fine (by decide) lqn), (bmq.ok (by decide)).1, (bmq.ok (by decide)).2, fun z29 W29 nz29 rz29 ss => ?_⟩
            have rx := rx.same ss
            have ro := ro.same ss
            have rz28 := rz28.same ss
            have hD := hD.same ss
            have ff := ff.trans (Fr.of_same ss)
            walk_at "yy"
            refine ⟨x, o, _, _, _, _, rfl, rfl, rx.choose_spec, ro.choose_spec, x, .ref o, p, q, rfl, rx, fp, .inl ⟨o, rfl, ro⟩, fq, (bm.ok (by decide)).1, (bm.ok (by decide)).2, fun z30 W30 nz30 rz30 ss => ?_⟩
            have rx := rx.same ss
            have ro := ro.same ss
            have rz28 := rz28.same ss
            have rz29 := rz29.same ss
            have hD := hD.same ss
            have ff := ff.trans (Fr.of_same ss)
            walk_at "yy"
            refine ⟨x, _, _, n, rfl, rfl, rx.choose_spec, x, .int n, p, (n, 1), rfl, rx, fp, .inr ⟨n, rfl, rfl⟩, f1, (bmn.ok (by decide)).1, (bmn.ok (by decide)).2, fun z31 W31 nz31 rz31 ss => ?_⟩
            have rx := rx.same ss
            have ro := ro.same ss
            have rz28 := rz28.same ss
            have rz29 := rz29.same ss
            have rz30 := rz30.same ss
            have hD := hD.same ss
            have ff := ff.trans (Fr.of_same ss)
            refine ⟨z30, z31, _, _, _, _, rfl, rfl, rz30.choose_spec, rz31.choose_spec, z30, .ref z31, mulP p q, mulP p (n, 1), rfl, rz30, (bm.fine (by decide) lm), .inl ⟨z31, rfl, rz31⟩, (bmn.fine (by decide) lmn), (bfin.ok (by decide)).1, (bfin.ok (by decide)).2, fun z32 W32 nz32 rz32 ss => ?_⟩
            have rx := rx.same ss
            have ro := ro.same ss
            have rz28 := rz28.same ss
            have rz29 := rz29.same ss
            have rz30 := rz30.same ss
            have rz31 := rz31.same ss
            have hD := hD.same ss
            have ff := ff.trans (Fr.of_same ss)
            refine ⟨z29, z32, _, _, _, _, rfl, rfl, rz29.choose_spec, rz32.choose_spec, z29, .ref z32, _, rfl, rz29, .inl ⟨z32, _, rfl, rz32, ?_⟩⟩
            have e : decide (mulP p (addP q (n, 1)) = addP (mulP p q) (mulP p (n, 1))) = true := decide_eq_true (mul_add' lp lq ln)
            rw [e]
            exact k _ hD ff
        · have h0e : e < 0 → p.1 ≠ 0 := fun _ => of_decide_eq_false hz
          walk_at "yf"
          walk_at "yy"
          refine ⟨x, _, _, rfl, rx.choose_spec, rf_no (by decide +kernel) (by decide +kernel) _, ?_⟩
          walk_at "yy"
          refine ⟨x, p, e, rfl, rx, lp, bp, he, h0e, fun z33 W33 nz33 rz33 ss => ?_⟩
          have rx := rx.same ss
          have ro := ro.same ss
          have ea1 := ss _ _ ea1
          have hD := hD.same ss
          have ff := ff.trans (Fr.of_same ss)
          refine ⟨z33, _, _, rfl, rz33.choose_spec, z33, powP p e, rfl, rz33, fun w34 W34 nw34 ew34 ss => ?_⟩
          have rx := rx.same ss
          have ro := ro.same ss
          have rz33 := rz33.same ss
          have ea1 := ss _ _ ea1
          have hD := hD.same ss
          have ff := ff.trans (Fr.of_same ss)
          walk_at "yy"
          refine ⟨a1, p, e, rfl, ea1, lp, bp, he, h0e, fun v35 W35 nv35 ev35 ss => ?_⟩
          have rx := rx.same ss
          have ro := ro.same ss
          have rz33 := rz33.same ss
          have ea1 := ss _ _ ea1
          have ew34 := ss _ _ ew34
          have hD := hD.same ss
          have ff := ff.trans (Fr.of_same ss)
          refine ⟨tq (powP p e), tq (powP p e), tp ew34, tp ev35, shT _, shT _, ?_⟩
          walk_at "yy"
          refine y_f (by rw [eqvT]; rfl) ?_
          walk_at "yy"
          refine ⟨o, _, _, n, rfl, rfl, ro.choose_spec, o, .int n, q, (n, 1), rfl, ro, fq, .inr ⟨n, rfl, rfl⟩, f1, (bqn.ok (by decide)).1, (bqn.ok (by decide)).2, fun z36 W36 nz36 rz36 ss => ?_⟩
          have rx := rx.same ss
          have ro := ro.same ss
          have hD := hD.same ss
          have ff := ff.trans (Fr.of_same ss)
          refine ⟨x, z36, _, _, _, _, rfl, rfl, rx.choose_spec, rz36.choose_spec, x, .ref z36, p, addP q (n, 1), rfl, rx, fp, .inl ⟨z36, rfl, rz36⟩, (bqn.fine (by decide) lqn), (bmq.ok (by decide)).1, (bmq.ok (by decide)).2, fun z37 W37 nz37 rz37 ss => ?_⟩
          have rx := rx.same ss
          have ro := ro.same ss
          have rz36 := rz36.same ss
          have hD := hD.same ss
          have ff := ff.trans (Fr.of_same ss)
          walk_at "yy"
          refine ⟨x, o, _, _, _, _, rfl, rfl, rx.choose_spec, ro.choose_spec, x, .ref o, p, q, rfl, rx, fp, .inl ⟨o, rfl, ro⟩, fq, (bm.ok (by decide)).1, (bm.ok (by decide)).2, fun z38 W38 nz38 rz38 ss => ?_⟩
          have rx := rx.same ss
          have ro := ro.same ss
          have rz36 := rz36.same ss
          have rz37 := rz37.same ss
          have hD := hD.same ss
          have ff := ff.trans (Fr.of_same ss)
          walk_at "yy"
          refine ⟨x, _, _, n, rfl, rfl, rx.choose_spec, x, .int n, p, (n, 1), rfl, rx, fp, .inr ⟨n, rfl, rfl⟩, f1, (bmn.ok (by decide)).1, (bmn.ok (by decide)).2, fun z39 W39 nz39 rz39 ss => ?_⟩
          have rx := rx.same ss
          have ro := ro.same ss
          have rz36 := rz36.same ss
          have rz37 := rz37.same ss
          have rz38 := rz38.same ss
          have hD := hD.same ss
          have ff := ff.trans (Fr.of_same ss)
          refine ⟨z38, z39, _, _, _, _, rfl, rfl, rz38.choose_spec, rz39.choose_spec, z38, .ref z39, mulP p q, mulP p (n, 1), rfl, rz38, (bm.fine (by decide) lm), .inl ⟨z39, rfl, rz39⟩, (bmn.fine (by decide) lmn), (bfin.ok (by decide)).1, (bfin.ok (by decide)).2, fun z40 W40 nz40 rz40 ss => ?_⟩
          have rx := rx.same ss
          have ro := ro.same ss
          have rz36 := rz36.same ss
          have rz37 := rz37.same ss
          have rz38 := rz38.same ss
          have rz39 := rz39.same ss
          have hD := hD.same ss
          have ff := ff.trans (Fr.of_same ss)
          refine ⟨z37, z40, _, _, _, _, rfl, rfl, rz37.choose_spec, rz40.choose_spec, z37, .ref z40, _, rfl, rz37, .inl ⟨z40, _, rfl, rz40, ?_⟩⟩
          have e : decide (mulP p (addP q (n, 1)) = addP (mulP p q) (mulP p (n, 1))) = true := decide_eq_true (mul_add' lp lq ln)
          rw [e]
          exact k _ hD ff
      · walk_at "yy"
        walk_at "yy"
        refine ⟨d, 7, rfl, hD, by decide, big_of (by decide), fun e0 Y0 m0 m1 hD2 f2 => ?_⟩
        have rx := rx.fr f2 (dice_neR hD rx)
        have ro := ro.fr f2 (dice_neR hD ro)
        have ea1 := f2 _ _ ea1 (dice_neT hD ea1)
        have ff := ff.trans f2
        have hD := hD2
        walk_at "yy"
        have he : (e0 - 3).natAbs ≤ 3 := by omega
        generalize e0 - 3 = e at he ⊢
        refine y_ixT (sqt ea1) rfl ?_
        walk_at "yy"
        refine y_ite (fun hz => ?_) (fun hz => ?_)
        · walk_at "yy"
          refine y_ite (fun hn => ?_) (fun hn => ?_)
          · walk_at "yy"
            exact k _ hD ff
          · have h0e : e < 0 → p.1 ≠ 0 := fun g => absurd g (of_decide_eq_false hn)
            walk_at "yy"
            refine ⟨x, _, _, rfl, rx.choose_spec, rf_no (by decide +kernel) (by decide +kernel) _, ?_⟩
            walk_at "yy"
            refine ⟨x, p, e, rfl, rx, lp, bp, he, h0e, fun z41 W41 nz41 rz41 ss => ?_⟩
            have rx := rx.same ss
            have ro := ro.same ss
            have ea1 := ss _ _ ea1
            have hD := hD.same ss
            have ff := ff.trans (Fr.of_same ss)
            refine ⟨z41, _, _, rfl, rz41.choose_spec, z41, powP p e, rfl, rz41, fun w42 W42 nw42 ew42 ss => ?_⟩
            have rx := rx.same ss
            have ro := ro.same ss
            have rz41 := rz41.same ss
            have ea1 := ss _ _ ea1
            have hD := hD.same ss
            have ff := ff.trans (Fr.of_same ss)
            walk_at "yy"
            refine ⟨a1, p, e, rfl, ea1, lp, bp, he, h0e, fun v43 W43 nv43 ev43 ss => ?_⟩
            have rx := rx.same ss
            have ro := ro.same ss
            have rz41 := rz41.same ss
            have ea1 := ss _ _ ea1
            have ew42 := ss _ _ ew42
            have hD := hD.same ss
            have ff := ff.trans (Fr.of_same ss)
            refine ⟨tq (powP p e), tq (powP p e), tp ew42, tp ev43, shT _, shT _, ?_⟩
            walk_at "yy"
            refine y_f (by rw [eqvT]; rfl) ?_
            walk_at "yy"
            refine ⟨o, _, _, n, rfl, rfl, ro.choose_spec, o, .int n, q, (n, 1), rfl, ro, fq, .inr ⟨n, rfl, rfl⟩, f1, (bqn.ok (by decide)).1, (bqn.ok (by decide)).2, fun z44 W44 nz44 rz44 ss => ?_⟩
            have rx := rx.same ss
            have ro := ro.same ss
            have hD := hD.same ss
            have ff := ff.trans (Fr.of_same ss)
            refine ⟨x, z44, _, _, _, _, rfl, rfl, rx.choose_spec, rz44.choose_spec, x, .ref z44, p, addP q (n, 1), rfl, rx, fp, .inl ⟨z44, rfl, rz44⟩, (bqn.fine (by decide) lqn), (bmq.ok (by decide)).1, (bmq.ok (by decide)).2, fun z45 W45 nz45 rz45 ss => ?_⟩
            have rx := rx.same ss
            have ro := ro.same ss
            have rz44 := rz44.same ss
            have hD := hD.same ss
            have ff := ff.trans (Fr.of_same ss)
            walk_at "yy"
            refine ⟨x, o, _, _, _, _, rfl, rfl, rx.choose_spec, ro.choose_spec, x, .ref o, p, q, rfl, rx, fp, .inl ⟨o, rfl, ro⟩, fq, (bm.ok (by decide)).1, (bm.ok (by decide)).2, fun z46 W46 nz46 rz46 ss => ?_⟩
            have rx := rx.same ss
            have ro := ro.same ss
            have rz44 := rz44.same ss
            have rz45 := rz45.same ss
            have hD := hD.same ss
            have ff := ff.trans (Fr.of_same ss)
            walk_at "yy"
            refine ⟨x, _, _, n, rfl, rfl, rx.choose_spec, x, .int n, p, (n, 1), rfl, rx, fp, .inr ⟨n, rfl, rfl⟩, f1, (bmn.ok (by decide)).1, (bmn.ok (by decide)).2, fun z47 W47 nz47 rz47 ss => ?_⟩
            have rx := rx.same ss
            have ro := ro.same ss
            have rz44 := rz44.same ss
            have rz45 := rz45.same ss
            have rz46 := rz46.same ss
            have hD := hD.same ss
            have ff := ff.trans (Fr.of_same ss)
            refine ⟨z46, z47, _, _, _, _, rfl, rfl, rz46.choose_spec, rz47.choose_spec, z46, .ref z47, mulP p q, mulP p (n, 1), rfl, rz46, (bm.fine (by decide) lm), .inl ⟨z47, rfl, rz47⟩, (bmn.fine (by decide) lmn), (bfin.ok (by decide)).1, (bfin.ok (by decide)).2, fun z48 W48 nz48 rz48 ss => ?_⟩
            have rx := rx.same ss
            have ro := ro.same ss
            have rz44 := rz44.same ss
            have rz45 := rz45.same ss
            have rz46 := rz46.same ss
            have rz47 := rz47.same ss
            have hD := hD.same ss
            have ff := ff.trans (Fr.of_same ss)
            refine ⟨z45, z48, _, _, _, _, rfl, rfl, rz45.choose_spec, rz48.choose_spec, z45, .ref z48, _, rfl, rz45, .inl ⟨z48, _, rfl, rz48, ?_⟩⟩
            have e : decide (mulP p (addP q (n, 1)) = addP (mulP p q) (mulP p (n, 1))) = true := decide_eq_true (mul_add' lp lq ln)
            rw [e]
            exact k _ hD ff
        · have h0e : e < 0 → p.1 ≠ 0 := fun _ => of_decide_eq_false hz
          walk_at "yf"
          walk_at "yy"
          refine ⟨x, _, _, rfl, rx.choose_spec, rf_no (by decide +kernel) (by decide +kernel) _, ?_⟩
          walk_at "yy"
          refine ⟨x, p, e, rfl, rx, lp, bp, he, h0e, fun z49 W49 nz49 rz49 ss => ?_⟩
          have rx := rx.same ss
          have ro := ro.same ss
          have ea1 := ss _ _ ea1
          have hD := hD.same ss
          have ff := ff.trans (Fr.of_same ss)
          refine ⟨z49, _, _, rfl, rz49.choose_spec, z49, powP p e, rfl, rz49, fun w50 W50 nw50 ew50 ss => ?_⟩
          have rx := rx.same ss
          have ro := ro.same ss
          have rz49 := rz49.same ss
          have ea1 := ss _ _ ea1
          have hD := hD.same ss
          have ff := ff.trans (Fr.of_same ss)
          walk_at "yy"
          refine ⟨a1, p, e, rfl, ea1, lp, bp, he, h0e, fun v51 W51 nv51 ev51 ss => ?_⟩
          have rx := rx.same ss
          have ro := ro.same ss
          have rz49 := rz49.same ss
          have ea1 := ss _ _ ea1
          have ew50 := ss _ _ ew50
          have hD := hD.same ss
          have ff := ff.trans (Fr.of_same ss)
          refine ⟨tq (powP p e), tq (powP p e), tp ew50, tp ev51, shT _, shT _, ?_⟩
          walk_at "yy"
          refine y_f (by rw [eqvT]; rfl) ?_
          walk_at "yy"
          refine ⟨o, _, _, n, rfl, rfl, ro.choose_spec, o, .int n, q, (n, 1), rfl, ro, fq, .inr ⟨n, rfl, rfl⟩, f1, (bqn.ok (by decide)).1, (bqn.ok (by decide)).2, fun z52 W52 nz52 rz52 ss => ?_⟩
          have rx := rx.same ss
          have ro := ro.same ss
          have hD := hD.same ss
          have ff := ff.trans (Fr.of_same ss)
          refine ⟨x, z52, _, _, _, _, rfl, rfl, rx.choose_spec, rz52.choose_spec, x, .ref z52, p, addP q (n, 1), rfl, rx, fp, .inl ⟨z52, rfl, rz52⟩, (bqn.fine (by decide) lqn), (bmq.ok (by decide)).1, (bmq.ok (by decide)).2, fun z53 W53 nz53 rz53 ss => ?_⟩
          have rx := rx.same ss
          have ro := ro.same ss
          have rz52 := rz52.same ss
          have hD := hD.same ss
          have ff := ff.trans (Fr.of_same ss)
          walk_at "yy"
          refine ⟨x, o, _, _, _, _, rfl, rfl, rx.choose_spec, ro.choose_spec, x, .ref o, p, q, rfl, rx, fp, .inl ⟨o, rfl, ro⟩, fq, (bm.ok (by decide)).1, (bm.ok (by decide)).2, fun z54 W54 nz54 rz54 ss => ?_⟩
          have rx := rx.same ss
          have ro := ro.same ss
          have rz52 := rz52.same ss
          have rz53 := rz53.same ss
          have hD := hD.same ss
          have ff := ff.trans (Fr.of_same ss)
          walk_at "yy"
          refine ⟨x, _, _, n, rfl, rfl, rx.choose_spec, x, .int n, p, (n, 1), rfl, rx, fp, .inr ⟨n, rfl, rfl⟩, f1, (bmn.ok (by decide)).1, (bmn.ok (by decide)).2, fun z55 W55 nz55 rz55 ss => ?_⟩
          have rx := rx.same ss
          have ro := ro.same ss
          have rz52 := rz52.same ss
          have rz53 := rz53.same ss
          have rz54 := rz54.same ss
          have hD := hD.same ss
          have ff := ff.trans (Fr.of_same ss)
          refine ⟨z54, z55, _, _, _, _, rfl, rfl, rz54.choose_spec, rz55.choose_spec, z54, .ref z55, mulP p q, mulP p (n, 1), rfl, rz54, (bm.fine (by decide) lm), .inl ⟨z55, rfl, rz55⟩, (bmn.fine (by decide) lmn), (bfin.ok (by decide)).1, (bfin.ok (by decide)).2, fun z56 W56 nz56 rz56 ss => ?_⟩
          have rx := rx.same ss
          have ro := ro.same ss
          have rz52 := rz52.same ss
          have rz53 := rz53.same ss
          have rz54 := rz54.same ss
          have rz55 := rz55.same ss
          have hD := hD.same ss
          have ff := ff.trans (Fr.of_same ss)
          refine ⟨z53, z56, _, _, _, _, rfl, rfl, rz53.choose_spec, rz56.choose_spec, z53, .ref z56, _, rfl, rz53, .inl ⟨z56, _, rfl, rz56, ?_⟩⟩
          have e : decide (mulP p (addP q (n, 1)) = addP (mulP p q) (mulP p (n, 1))) = true := decide_eq_true (mul_add' lp lq ln)
          rw [e]
          exact k _ hD ff
theorem sc_law : FnScope ["_law_script", "_law_spot", "_law_dice_here", "_law_turn", "_law_half", "_law_told"] ["_law_script"] (defScope s_law) := ⟨rfl, rfl, rfl, by decide +kernel, rfl, by decide +kernel, by decide +kernel⟩
-- 0 _law_script, 1 _law_spot, 2 _law_dice_here, 3 _law_turn, 4 _law_half, 5 _law_told
theorem ok_law {f : Addr} {fd : FuncData} (F : FunD K "law" "law" (defArgs s_law) (defBody s_law) (defScope s_law) [] [] f fd) (B : Blt mg) (Z : Con mg) {C : Addr} (T : RatioC K mg C) (C_law_dice : Cal P w K mg base 1 "_law_dice" ["_law_script", "_law_spot"] (spDice K)) (C_law_right : Cal P w K mg base 9 "_law_right" ["_law_dice_here"] spLRight) (C_Ratio_2 : Mkr P w K mg base 2 "Ratio" C (spInit C) []) (C_Ratio_1 : Mkr P w K mg base 2 "Ratio" C (spInit C) [.int 1]) (C_Ratio_pair : Prp P w K mg base 1 C "pair" (spPair C)) (C_Ratio_whole : Prp P w K mg base 1 C "whole" (spWhole C)) (C_Ratio___str__ : Mth P w K mg base 5 C "__str__" ["self"] (spText C)) (C_Ratio___add__ : Mth P w K mg base 5 C "__add__" ["self", "other"] (spAdd C)) (C_Ratio___mul__ : Mth P w K mg base 5 C "__mul__" ["self", "other"] (spMul C)) (C_Ratio_divided : Mth P w K mg base 5 C "divided" ["self", "other"] (spDiv C)) (C_Ratio_power : Mth P w K mg base 5 C "power" ["self", "exponent"] (spPow C)) (I_add : IntSide K C "add") : FnOk P w K mg base CX0 10 f fd ["_law_script"] (spLaw K) := by
  refine F.ok sc_law (fun vs H Q E h => ?_) (fun cdv A outer s H vs Q E hr h => ?_)
  · obtain ⟨a, ns, rfl, _⟩ := h
    rfl
  · obtain ⟨a, ns, rfl, hS, hlen, k⟩ := h
    refine ⟨_, PSs.nox (pss_cons (ps_for PassesOwn.never rfl (pi_range1 (by rfl) B.n_range (pa_cons (pe_callB (c_max2 rfl) (by rfl) B.n_max (by decide +kernel) (pa_cons pe_int (pa_cons (pe_callB (c_min2 rfl) (by rfl) B.n_min (by decide +kernel) (pa_cons pe_int (pa_cons (pe_callB (c_lenQ (K := K)) (by rfl) B.n_len (by decide +kernel) (pa_cons (pv 0) pa_nil)) pa_nil))) pa_nil))) pa_nil)) (pg_name (i := 1) sc_law.nd rfl (Or.inl rfl)) (pss_cons (ps_set (i := 2) sc_law.nd rfl (Or.inl rfl) (pe_fn C_law_dice (hr.mono (by decide)) (by rfl) (pa_cons (pv 0) (pa_cons (pv 1) pa_nil)))) (pss_one (ps_for PassesOwn.never rfl (pi_range1 (by rfl) B.n_range (pa_cons pe_int pa_nil)) (pg_name (i := 3) sc_law.nd rfl (Or.inl rfl)) (pss_one (ps_if (pt_not (pt_val (pe_fn C_law_right (hr.mono (by decide)) (by rfl) (pa_cons (pv 2) pa_nil)))) (pss_one (ps_ret pe_bl)) pss_nil)))))) (pss_cons (ps_set (i := 4) sc_law.nd rfl (Or.inl rfl) (e_mkr C_Ratio_2 (hr.mono (by decide)) (by rfl) (pa_cons pe_int (pa_cons (pe_un un_neg pe_int) pa_nil)))) (pss_cons (ps_set (i := 5) sc_law.nd rfl (Or.inl rfl) (pe_lst (pa_cons (e_prp C_Ratio_pair T.cls (hr.mono (by decide)) (pv 4)) (pa_cons (pe_callTy (q_str C_Ratio___str__ (hr.mono (by decide))) (by rfl) B.n_str (by decide +kernel) (pa_cons (pe_op (q_opI C_Ratio___add__ T.first I_add (hr.mono (by decide))) (pv 4) pe_int) pa_nil)) (pa_cons (pe_callTy (q_str C_Ratio___str__ (hr.mono (by decide))) (by rfl) B.n_str (by decide +kernel) (pa_cons (pe_op (q_op2 C_Ratio___mul__ T.first (hr.mono (by decide))) (pv 4) (pv 4)) pa_nil)) (pa_cons (pe_callTy (q_str C_Ratio___str__ (hr.mono (by decide))) (by rfl) B.n_str (by decide +kernel) (pa_cons (e_mth C_Ratio_divided T.cls (hr.mono (by decide)) (pv 4) (pa_cons (e_mkr C_Ratio_1 (hr.mono (by decide)) (by rfl) (pa_cons pe_int pa_nil)) pa_nil)) pa_nil)) (pa_cons (pe_callTy (q_str C_Ratio___str__ (hr.mono (by decide))) (by rfl) B.n_str (by decide +kernel) (pa_cons (e_mth C_Ratio_power T.cls (hr.mono (by decide)) (pv 4) (pa_cons (pe_un un_neg pe_int) pa_nil)) pa_nil)) (pa_cons (e_prp C_Ratio_whole T.cls (hr.mono (by decide)) (pv 4)) pa_nil)))))))) (pss_one (ps_ret (pe_and (pe_cmpR (o_eqD (K := K) hr.units) (pv 5) (pe_lst (pa_cons (pe_tup (pa_cons (pe_un un_neg pe_int) (pa_cons pe_int pa_nil))) (pa_cons pe_str (pa_cons pe_str (pa_cons pe_str (pa_cons pe_str (pa_cons (pe_un un_neg pe_int) pa_nil))))))) (nomark _)) (pe_and (pe_cmpR (o_eqD (K := K) hr.units) (e_prp C_Ratio_pair T.cls (hr.mono (by decide)) (e_mkr C_Ratio_2 (hr.mono (by decide)) (by rfl) (pa_cons pe_int (pa_cons pe_int pa_nil)))) (pe_tup (pa_cons pe_int (pa_cons pe_int pa_nil))) (nomark _)) (pe_one (pe_cmpR (o_eqD (K := K) hr.units) (e_prp C_Ratio_pair T.cls (hr.mono (by decide)) (e_mth C_Ratio_power T.cls (hr.mono (by decide)) (e_mkr C_Ratio_1 (hr.mono (by decide)) (by rfl) (pa_cons pe_int pa_nil)) (pa_cons pe_int pa_nil))) (pe_tup (pa_cons pe_int (pa_cons pe_int pa_nil))) (nomark _)))))))))), ?_⟩
    walk_at "yy"
    refine y_lenL hS ?_
    walk_at "yy"
    refine ⟨_, rfl, by omega, by omega, y_forR (b := fun _ _ => False) (c := fun _ _ => False) (fun i σ H1 => ∃ u1 u2 u3, σ = [some (.ref a), u1, u2, u3, none, none] ∧ Same H H1) ⟨_, _, _, rfl, Same.refl H⟩ ?_ ?_⟩
    · rintro i σ H1 hi ⟨u1, u2, u3, rfl, sm⟩
      walk_at "yy"
      refine ⟨a, 0 + i, ns, rfl, sm.seq hS, by omega, by omega, fun d H2 nd hD sm2 => ?_⟩
      have nd0 : H d = none := sm.free nd
      walk_at "yy"
      refine ⟨6, rfl, by decide, by decide, y_forR (b := fun _ _ => False) (c := fun _ _ => False) (fun j σ H3 => ∃ u3, σ = [some (.ref a), some (.int (0 + i)), some (.ref d), u3, none, none] ∧ Same H H3 ∧ DiceAt H3 d) ⟨_, rfl, sm.trans sm2, hD⟩ ?_ ?_⟩
      · rintro j σ H3 hj ⟨u3, rfl, sm3, hD3⟩
        walk_at "yy"
        refine ⟨d, rfl, hD3, fun H4 hD4 f4 => ?_⟩
        walk_at "yy"
        walk_at "yf"
        walk_at "yy"
        exact ⟨_, rfl, same_fr sm3 f4 nd0, hD4⟩
      · rintro σ H3 ⟨u3, rfl, sm3, hD3⟩
        exact ⟨_, _, _, rfl, sm3⟩
    · rintro σ H1 ⟨u1, u2, u3, rfl, sm⟩
      walk_at "yy"
      intro x dx n1 n2 n3
      refine ⟨x, dx, 3, (-6), rfl, upd_same, okI_small (by decide), okI_small (by decide), by decide, fun Vx rx c1 => ⟨rfl, ?_⟩⟩
      have ss := ini_same n1 n2 n3 c1
      clear n1 n2 n3 c1
      have rx : RAt Vx C x (-1, 2) := rx
      walk_at "yy"
      refine ⟨x, _, _, rfl, rx.choose_spec, x, (-1, 2), rfl, rx, fun w1 Ww1 nw1 ew1 ss => ?_⟩
      have rx := rx.same ss
      walk_at "yy"
      refine ⟨x, _, _, 1, rfl, rfl, rx.choose_spec, x, .int 1, (-1, 2), (1, 1), rfl, rx, (sml_fine5 (p := (-1, 2)) (by decide)), .inr ⟨1, rfl, rfl⟩, sml_fine5 (by decide), by decide +kernel, by decide +kernel, fun z1 W1 nz1 rz1 ss => ?_⟩
      have rz1 : RAt W1 C z1 (1, 2) := rz1
      have rx := rx.same ss
      have ew1 := ss _ _ ew1
      refine ⟨z1, _, _, rfl, rz1.choose_spec, z1, (1, 2), rfl, rz1, sml_fine5 (by decide), fun Tz1 ss => ⟨⟨_, rfl⟩, ?_⟩⟩
      have qz1 : txt (1, 2) = ("1/2" : Str) := by decide +kernel
      rw [qz1]
      have rx := rx.same ss
      have ew1 := ss _ _ ew1
      walk_at "yy"
      refine ⟨x, x, _, _, _, _, rfl, rfl, rx.choose_spec, rx.choose_spec, x, .ref x, (-1, 2), (-1, 2), rfl, rx, (sml_fine5 (p := (-1, 2)) (by decide)), .inl ⟨x, rfl, rx⟩, (sml_fine5 (p := (-1, 2)) (by decide)), by decide +kernel, by decide +kernel, fun z2 W2 nz2 rz2 ss => ?_⟩
      have rz2 : RAt W2 C z2 (1, 4) := rz2
      have rx := rx.same ss
      have ew1 := ss _ _ ew1
      refine ⟨z2, _, _, rfl, rz2.choose_spec, z2, (1, 4), rfl, rz2, sml_fine5 (by decide), fun Tz2 ss => ⟨⟨_, rfl⟩, ?_⟩⟩
      have qz2 : txt (1, 4) = ("1/4" : Str) := by decide +kernel
      rw [qz2]
      have rx := rx.same ss
      have ew1 := ss _ _ ew1
      walk_at "yy"
      refine ⟨x, _, _, rfl, rx.choose_spec, rf_no (by decide +kernel) (by decide +kernel) _, ?_⟩
      walk_at "yy"
      intro y dy n1 n2 n3
      refine ⟨y, dy, 3, 1, rfl, upd_same, okI_small (by decide), okI_small (by decide), by decide, fun Vy ry c1 => ⟨rfl, ?_⟩⟩
      have ss := ini_same n1 n2 n3 c1
      clear n1 n2 n3 c1
      have ry : RAt Vy C y (3, 1) := ry
      have rx := rx.same ss
      have ew1 := ss _ _ ew1
      refine ⟨x, .ref y, (-1, 2), (3, 1), rfl, rx, (sml_fine5 (p := (-1, 2)) (by decide)), .inl ⟨y, rfl, ry⟩, sml_fine5 (by decide), by decide, by decide +kernel, by decide +kernel, fun z3 W3 nz3 rz3 ss => ?_⟩
      have rz3 : RAt W3 C z3 (-1, 6) := rz3
      have rx := rx.same ss
      have ry := ry.same ss
      have ew1 := ss _ _ ew1
      refine ⟨z3, _, _, rfl, rz3.choose_spec, z3, (-1, 6), rfl, rz3, sml_fine5 (by decide), fun Tz3 ss => ⟨⟨_, rfl⟩, ?_⟩⟩
      have qz3 : txt (-1, 6) = ("-1/6" : Str) := by decide +kernel
      rw [qz3]
      have rx := rx.same ss
      have ry := ry.same ss
      have ew1 := ss _ _ ew1
      walk_at "yy"
      refine ⟨x, _, _, rfl, rx.choose_spec, rf_no (by decide +kernel) (by decide +kernel) _, ?_⟩
      walk_at "yy"
      refine ⟨x, (-1, 2), -3, rfl, rx, (sml_fine5 (p := (-1, 2)) (by decide)).l, ⟨by decide, by decide⟩, by decide, by decide, fun z4 W4 nz4 rz4 ss => ?_⟩
      have rz4 : RAt W4 C z4 (-8, 1) := rz4
      have rx := rx.same ss
      have ry := ry.same ss
      have ew1 := ss _ _ ew1
      refine ⟨z4, _, _, rfl, rz4.choose_spec, z4, (-8, 1), rfl, rz4, sml_fine5 (by decide), fun Tz4 ss => ⟨⟨_, rfl⟩, ?_⟩⟩
      have qz4 : txt (-8, 1) = ("-8" : Str) := by decide +kernel
      rw [qz4]
      have rx := rx.same ss
      have ry := ry.same ss
      have ew1 := ss _ _ ew1
      walk_at "yy"
      refine ⟨x, _, _, rfl, rx.choose_spec, x, (-1, 2), rfl, rx, (sml_fine5 (p := (-1, 2)) (by decide)), ?_⟩
      walk_at "yy"
      refine ⟨by show 6 ≤ sizeLine; decide, fun l nl => ?_⟩
      have el : (upd Tz4 l (.lst [.ref w1, .str "1/2", .str "1/4", .str "-1/6", .str "-8", .int (-1)])) l = some (.lst [.ref w1, .str "1/2", .str "1/4", .str "-1/6", .str "-8", .int (-1)]) := upd_same
      have ss : Same Tz4 (upd Tz4 l (.lst [.ref w1, .str "1/2", .str "1/4", .str "-1/6", .str "-8", .int (-1)])) := same_new nl
      have ez : ((-1, 2) : Int × Int).1 / ((-1, 2) : Int × Int).2 = -1 := by decide
      rw [ez]
      generalize upd Tz4 l (.lst [.ref w1, .str "1/2", .str "1/4", .str "-1/6", .str "-8", .int (-1)]) = X0 at el ss ⊢
      have rx := rx.same ss
      have ry := ry.same ss
      have ew1 := ss _ _ ew1
      walk_at "yy"
      refine ⟨by show 2 ≤ sizeLine; decide, fun t1 nt1 => ?_⟩
      have et1 : (upd X0 t1 (.tup [.int (-1), .int 2])) t1 = some (.tup [.int ((-1, 2) : Int × Int).1, .int ((-1, 2) : Int × Int).2]) := upd_same
      have ss : Same X0 (upd X0 t1 (.tup [.int (-1), .int 2])) := same_new nt1
      generalize upd X0 t1 (.tup [.int (-1), .int 2]) = X1 at et1 ss ⊢
      have el := ss _ _ el
      have ew1 := ss _ _ ew1
      walk_at "yy"
      refine ⟨by show 6 ≤ sizeLine; decide, fun m nm => ?_⟩
      have s2 := same_new (o := .lst [.ref t1, .str "1/2", .str "1/4", .str "-1/6", .str "-8", .int (-1)]) nm
      refine ⟨.list [tq (-1, 2), .str "1/2", .str "1/4", .str "-1/6", .str "-8", .int (-1)], .list [tq (-1, 2), .str "1/2", .str "1/4", .str "-1/6", .str "-8", .int (-1)], .lst (sql (s2 _ _ el)) (.cons (tp (s2 _ _ ew1)) (.cons (.str _) (.cons (.str _) (.cons (.str _) (.cons (.str _) (.cons (.int _) .nil)))))),
        .lst (sql upd_same) (.cons (tp (s2 _ _ et1)) (.cons (.str _) (.cons (.str _) (.cons (.str _) (.cons (.str _) (.cons (.int _) .nil)))))), by decide +kernel, by decide +kernel, ?_⟩
      have e : PyData.eqv (.list [tq (-1, 2), .str "1/2", .str "1/4", .str "-1/6", .str "-8", .int (-1)]) (.list [tq (-1, 2), .str "1/2", .str "1/4", .str "-1/6", .str "-8", .int (-1)]) = true := by decide +kernel
      rw [e]
      walk_at "yy"
      walk_at "yt"
      walk_at "yy"
      intro y2 dy2 n1 n2 n3
      refine ⟨y2, dy2, 0, 7, rfl, upd_same, okI_small (by decide), okI_small (by decide), by decide, fun V8 r8 c1 => ⟨rfl, ?_⟩⟩
      have r8 : RAt V8 C y2 (0, 1) := r8
      refine ⟨y2, _, _, rfl, r8.choose_spec, y2, (0, 1), rfl, r8, fun w8 W8 nw8 ew8 ss => ?_⟩
      walk_at "yy"
      refine ⟨by show 2 ≤ sizeLine; decide, fun t2 nt2 => ?_⟩
      refine ⟨tq (0, 1), tq (0, 1), tp (same_new nt2 _ _ ew8), tp upd_same, shT _, shT _, ?_⟩
      rw [eqvT]
      walk_at "yy"
      walk_at "yt"
      walk_at "yy"
      intro y3 dy3 n4 n5 n6
      refine ⟨y3, dy3, 0, 1, rfl, upd_same, okI_small (by decide), okI_small (by decide), by decide, fun V9 r9 c2 => ⟨rfl, ?_⟩⟩
      have r9 : RAt V9 C y3 (0, 1) := r9
      refine ⟨y3, _, _, rfl, r9.choose_spec, rf_no (by decide +kernel) (by decide +kernel) _, ?_⟩
      walk_at "yy"
      refine ⟨y3, (0, 1), 0, rfl, r9, (sml_fine5 (by decide)).l, ⟨by decide, by decide⟩, by decide, by decide, fun z9 W9 nz9 rz9 ss9 => ?_⟩
      have rz9 : RAt W9 C z9 (1, 1) := rz9
      refine ⟨z9, _, _, rfl, rz9.choose_spec, z9, (1, 1), rfl, rz9, fun w9 Y9 nw9 ew9 sw9 => ?_⟩
      walk_at "yy"
      refine ⟨by show 2 ≤ sizeLine; decide, fun t3 nt3 => ?_⟩
      refine ⟨tq (1, 1), tq (1, 1), tp (same_new nt3 _ _ ew9), tp upd_same, shT _, shT _, ?_⟩
      rw [eqvT]
      exact k _
end
abbrev cC (K : PySem.W.Frag) : Addr := He.ga K "Ratio"
def d_is_integer : He5.DefA := ⟨fun K => He.ga K "is_integer", "is_integer", "is_integer", defArgs s_is_integer, defBody s_is_integer, defScope s_is_integer, [], []⟩
def d_lowest : He5.DefA := ⟨fun K => He.ga K "lowest", "lowest", "lowest", defArgs s_lowest, defBody s_lowest, defScope s_lowest, [], []⟩
def d_short : He5.DefA := ⟨fun K => He.ga K "short", "short", "short", defArgs s_short, defBody s_short, defScope s_short, [], []⟩
def d_Ratio___init__ : He5.DefA := ⟨fun K => He.ma K (cC K) "__init__", "__init__", "Ratio.__init__", defArgs s_Ratio___init__, defBody s_Ratio___init__, defScope s_Ratio___init__, [.int 1], []⟩
def d_ratio : He5.DefA := ⟨fun K => He.ga K "_ratio", "_ratio", "_ratio", defArgs s_ratio, defBody s_ratio, defScope s_ratio, [], []⟩
def d_Ratio_pair : He5.DefA := ⟨fun K => He5.wf K (cC K) "property" "pair", "pair", "Ratio.pair", defArgs s_Ratio_pair, defBody s_Ratio_pair, defScope s_Ratio_pair, [], []⟩
def d_Ratio_bottom : He5.DefA := ⟨fun K => He5.wf K (cC K) "property" "bottom", "bottom", "Ratio.bottom", defArgs s_Ratio_bottom, defBody s_Ratio_bottom, defScope s_Ratio_bottom, [], []⟩
def d_operand : He5.DefA := ⟨fun K => He.ga K "_operand", "_operand", "_operand", defArgs s_operand, defBody s_operand, defScope s_operand, [], []⟩
def d_Ratio___add__ : He5.DefA := ⟨fun K => He.ma K (cC K) "__add__", "__add__", "Ratio.__add__", defArgs s_Ratio___add__, defBody s_Ratio___add__, defScope s_Ratio___add__, [], []⟩
def d_Ratio___neg__ : He5.DefA := ⟨fun K => He.ma K (cC K) "__neg__", "__neg__", "Ratio.__neg__", defArgs s_Ratio___neg__, defBody s_Ratio___neg__, defScope s_Ratio___neg__, [], []⟩
def d_Ratio_is_below : He5.DefA := ⟨fun K => He.ma K (cC K) "is_below", "is_below", "Ratio.is_below", defArgs s_Ratio_is_below, defBody s_Ratio_is_below, defScope s_Ratio_is_below, [], []⟩
def d_text_of : He5.DefA := ⟨fun K => He.ga K "text_of", "text_of", "text_of", defArgs s_text_of, defBody s_text_of, defScope s_text_of, [], []⟩
def d_Ratio_top : He5.DefA := ⟨fun K => He5.wf K (cC K) "property" "top", "top", "Ratio.top", defArgs s_Ratio_top, defBody s_Ratio_top, defScope s_Ratio_top, [], []⟩
def d_Ratio_text : He5.DefA := ⟨fun K => He5.wf K (cC K) "property" "text", "text", "Ratio.text", defArgs s_Ratio_text, defBody s_Ratio_text, defScope s_Ratio_text, [], []⟩
def d_Ratio_sign : He5.DefA := ⟨fun K => He5.wf K (cC K) "property" "sign", "sign", "Ratio.sign", defArgs s_Ratio_sign, defBody s_Ratio_sign, defScope s_Ratio_sign, [], []⟩
def d_Ratio_whole : He5.DefA := ⟨fun K => He5.wf K (cC K) "property" "whole", "whole", "Ratio.whole", defArgs s_Ratio_whole, defBody s_Ratio_whole, defScope s_Ratio_whole, [], []⟩
def d_Ratio___sub__ : He5.DefA := ⟨fun K => He.ma K (cC K) "__sub__", "__sub__", "Ratio.__sub__", defArgs s_Ratio___sub__, defBody s_Ratio___sub__, defScope s_Ratio___sub__, [], []⟩
def d_Ratio___mul__ : He5.DefA := ⟨fun K => He.ma K (cC K) "__mul__", "__mul__", "Ratio.__mul__", defArgs s_Ratio___mul__, defBody s_Ratio___mul__, defScope s_Ratio___mul__, [], []⟩
def d_Ratio_divided : He5.DefA := ⟨fun K => He.ma K (cC K) "divided", "divided", "Ratio.divided", defArgs s_Ratio_divided, defBody s_Ratio_divided, defScope s_Ratio_divided, [], []⟩
def d_Ratio___abs__ : He5.DefA := ⟨fun K => He.ma K (cC K) "__abs__", "__abs__", "Ratio.__abs__", defArgs s_Ratio___abs__, defBody s_Ratio___abs__, defScope s_Ratio___abs__, [], []⟩
def d_Ratio___bool__ : He5.DefA := ⟨fun K => He.ma K (cC K) "__bool__", "__bool__", "Ratio.__bool__", defArgs s_Ratio___bool__, defBody s_Ratio___bool__, defScope s_Ratio___bool__, [], []⟩
def d_Ratio___str__ : He5.DefA := ⟨fun K => He.ma K (cC K) "__str__", "__str__", "Ratio.__str__", defArgs s_Ratio___str__, defBody s_Ratio___str__, defScope s_Ratio___str__, [], []⟩
def d_Ratio___eq__ : He5.DefA := ⟨fun K => He.ma K (cC K) "__eq__", "__eq__", "Ratio.__eq__", defArgs s_Ratio___eq__, defBody s_Ratio___eq__, defScope s_Ratio___eq__, [], []⟩
def d_Ratio_power : He5.DefA := ⟨fun K => He.ma K (cC K) "power", "power", "Ratio.power", defArgs s_Ratio_power, defBody s_Ratio_power, defScope s_Ratio_power, [], []⟩
def d_law_dice : He5.DefA := ⟨fun K => He.ga K "_law_dice", "_law_dice", "_law_dice", defArgs s_law_dice, defBody s_law_dice, defScope s_law_dice, [], []⟩
def d_law_roll : He5.DefA := ⟨fun K => He.ga K "_law_roll", "_law_roll", "_law_roll", defArgs s_law_roll, defBody s_law_roll, defScope s_law_roll, [], []⟩
def d_law_pick : He5.DefA := ⟨fun K => He.ga K "_law_pick", "_law_pick", "_law_pick", defArgs s_law_pick, defBody s_law_pick, defScope s_law_pick, [], []⟩
def d_law_ratio : He5.DefA := ⟨fun K => He.ga K "_law_ratio", "_law_ratio", "_law_ratio", defArgs s_law_ratio, defBody s_law_ratio, defScope s_law_ratio, [], []⟩
def d_law_plus : He5.DefA := ⟨fun K => He.ga K "_law_plus", "_law_plus", "_law_plus", defArgs s_law_plus, defBody s_law_plus, defScope s_law_plus, [], []⟩
def d_law_fraction : He5.DefA := ⟨fun K => He.ga K "_law_fraction", "_law_fraction", "_law_fraction", defArgs s_law_fraction, defBody s_law_fraction, defScope s_law_fraction, [], []⟩
def d_law_minus : He5.DefA := ⟨fun K => He.ga K "_law_minus", "_law_minus", "_law_minus", defArgs s_law_minus, defBody s_law_minus, defScope s_law_minus, [], []⟩
def d_law_times : He5.DefA := ⟨fun K => He.ga K "_law_times", "_law_times", "_law_times", defArgs s_law_times, defBody s_law_times, defScope s_law_times, [], []⟩
def d_law_over : He5.DefA := ⟨fun K => He.ga K "_law_over", "_law_over", "_law_over", defArgs s_law_over, defBody s_law_over, defScope s_law_over, [], []⟩
def d_law_less : He5.DefA := ⟨fun K => He.ga K "_law_less", "_law_less", "_law_less", defArgs s_law_less, defBody s_law_less, defScope s_law_less, [], []⟩
def d_law_text : He5.DefA := ⟨fun K => He.ga K "_law_text", "_law_text", "_law_text", defArgs s_law_text, defBody s_law_text, defScope s_law_text, [], []⟩
def d_law_great : He5.DefA := ⟨fun K => He.ga K "_law_great", "_law_great", "_law_great", defArgs s_law_great, defBody s_law_great, defScope s_law_great, [], []⟩
def d_law_power : He5.DefA := ⟨fun K => He.ga K "_law_power", "_law_power", "_law_power", defArgs s_law_power, defBody s_law_power, defScope s_law_power, [], []⟩
def d_law_told_right : He5.DefA := ⟨fun K => He.ga K "_law_told_right", "_law_told_right", "_law_told_right", defArgs s_law_told_right, defBody s_law_told_right, defScope s_law_told_right, [], []⟩
def d_law_right : He5.DefA := ⟨fun K => He.ga K "_law_right", "_law_right", "_law_right", defArgs s_law_right, defBody s_law_right, defScope s_law_right, [], []⟩
def d_law : He5.DefA := ⟨fun K => He.ga K "law", "law", "law", defArgs s_law, defBody s_law, defScope s_law, [], []⟩
def fn : List He5.DefA := [d_is_integer, d_lowest, d_short, d_Ratio___init__, d_ratio, d_Ratio_pair, d_Ratio_bottom, d_operand, d_Ratio___add__, d_Ratio___neg__, d_Ratio_is_below, d_text_of, d_Ratio_top, d_Ratio_text, d_Ratio_sign, d_Ratio_whole, d_Ratio___sub__, d_Ratio___mul__, d_Ratio_divided, d_Ratio___abs__, d_Ratio___bool__, d_Ratio___str__, d_Ratio___eq__, d_Ratio_power, d_law_dice, d_law_roll, d_law_pick, d_law_ratio, d_law_plus, d_law_fraction, d_law_minus, d_law_times, d_law_over, d_law_less, d_law_text, d_law_great, d_law_power, d_law_told_right, d_law_right, d_law]
def fa : List He.Fa := [.glo "Ratio", .cls "Ratio", .mkr "Ratio", .noat "Ratio" "_top", .noat "Ratio" "_bottom", .glo "is_integer", .glo "lowest", .glo "short", .glo "_ratio", .glo "_operand", .meth "Ratio" "__add__", .meth "Ratio" "__neg__", .meth "Ratio" "is_below", .glo "text_of", .meth "Ratio" "__sub__", .meth "Ratio" "__mul__", .meth "Ratio" "divided", .meth "Ratio" "__abs__", .meth "Ratio" "__bool__", .meth "Ratio" "__str__", .meth "Ratio" "__eq__", .meth "Ratio" "power", .glo "_law_dice", .glo "_law_roll", .glo "_law_pick", .glo "_law_ratio", .glo "_law_plus", .glo "_law_fraction", .glo "_law_minus", .glo "_law_times", .glo "_law_over", .glo "_law_less", .glo "_law_text", .glo "_law_great", .glo "_law_power", .glo "_law_told_right", .glo "_law_right", .glo "law", .free "abs", .free "bool", .free "int", .free "isinstance", .free "len", .free "max", .free "min", .free "range", .free "str", .int "MAX_DIGITS" 300, .int "LEAST_LONG" (10 ^ 300), .int "MAX_POWER" 30]
def ex (K : PySem.W.Frag) : List Bool := [PySem.W.selfFirst K (cC K),
  decide (PySem.W.findIn K (.ref (cC K)) "__ne__" = some (some (.builtin "object.__ne__"))),
  decide (PySem.W.mroIn K (cC K) (.type "object") = some true),
  PySem.W.readsIn K (cC K) (.type "type"),
  decide (PySem.W.specialIn K (.ref (cC K)) "__getattribute__" = some (some (.builtin "type.__getattribute__"))),
  decide (PySem.W.findIn K (.ref (cC K)) "__class__" = some (some (.builtin "object.__class__"))),
  decide (PySem.W.specialIn K (.builtin "object.__class__") "__get__" = some (some (.builtin "getset_descriptor.__get__"))),
  decide (PySem.W.takesIn K (.builtin "object.__class__") = some true),
  decide (PySem.W.kitOne K (.type "int") (.ref (cC K)) = some false),
  decide (PySem.W.kitOne K (.type "tuple") (.ref (cC K)) = some false),
  decide (PySem.W.nsIn K mainGlobals "gcd" = some (some (.builtin "math.gcd"))),
  PySem.W.notFirst K (cC K) (.type "tuple"),
  PySem.W.notFirst K (cC K) (.type "int"),
  decide (PySem.W.findIn K (.ref (cC K)) (dunderR "add") = some none),
  (PySem.W.findIn K (.type "int") (PySem.dunder "add")).isSome,
  (PySem.W.findIn K (.type "int") (dunderR "add")).isSome,
  decide (PySem.W.findIn K (.ref (cC K)) (dunderR "mul") = some none),
  (PySem.W.findIn K (.type "int") (PySem.dunder "mul")).isSome,
  (PySem.W.findIn K (.type "int") (dunderR "mul")).isSome,
  decide (PySem.W.subIn K (.type "int") (.ref (cC K)) = some false),
  propB K (cC K) "pair",
  propB K (cC K) "bottom",
  propB K (cC K) "top",
  propB K (cC K) "text",
  propB K (cC K) "sign",
  propB K (cC K) "whole"]
abbrev R : PySem.W.OpenRow := PySem.W.OpenLaw.row PySem.Challenge.rw_wonbyturns_k05_whole_ratios_reckoned
def hk : PySem.W.Hook where
  α := He.AlD × List Bool
  obs := fun s => (He5.obsAG 5 fa fn s.heap.get?, ex (He.frG s.heap.get? (He5.asA s.heap.get? 5)))
  val := fun _ => (He5.valA fn, List.replicate 26 true)
  says := fun _ h => ∃ K : PySem.W.Frag, K.In h ∧ He5.SaysA fa fn K ∧ ex K = List.replicate 26 true
  of := fun _ _ e => ⟨_, He.frG_in, congrArg Prod.fst e, congrArg Prod.snd e⟩
  keeps := fun _ _ _ ⟨K, hK, c⟩ k => ⟨K, PySem.W.Frag.In.keeps hK k, c⟩
def ob (s : PySem.W.SharedT) : He.AlD × List Bool := (He5.obsAG 5 fa fn (HandSHeadRun.getT s), ex (He.frG (HandSHeadRun.getT s) (He5.asA (HandSHeadRun.getT s) 5)))
theorem ob_eq (s : PySem.W.SharedT) : ob s = hk.obs s.abs := by
  have e : HandSHeadRun.getT s = s.abs.heap.get? := funext fun a => HandSHeadRun.getT_eq s a
  unfold ob
  rw [e]
  rfl
def loose : List Str := [("_wall" : Str), ("__name__" : Str), ("GameError" : Str), ("InvalidFraction" : Str), ("InvalidOperation" : Str), ("ParseError" : Str), ("TooMany" : Str), ("MAX_DIGITS" : Str), ("LEAST_LONG" : Str), ("is_integer" : Str), ("is_fraction" : Str), ("lowest" : Str), ("short" : Str), ("text_of" : Str), ("pair_read" : Str), ("_are_digits" : Str), ("MAX_POWER" : Str), ("Ratio" : Str), ("_ratio" : Str), ("_operand" : Str), ("_law_dice" : Str), ("_law_roll" : Str), ("_law_pick" : Str), ("_law_ratio" : Str), ("_law_plus" : Str), ("_law_minus" : Str), ("_law_times" : Str), ("_law_less" : Str), ("_law_fraction" : Str), ("_law_text" : Str), ("_law_great" : Str), ("_law_over" : Str), ("_law_told_right" : Str), ("_law_power" : Str), ("_law_right" : Str)]
theorem run (w : World) : HandSHeadRun.RunEqI R (PySem.W.view R.prog [0, 40]) hk ob 20000 loose w := by
  unfold HandSHeadRun.RunEqI
  kernel_rfl
theorem facts {P : Program} {w : World} {K : PySem.W.Frag} {h : Heap} {mg : Str → Option Value} {f : Addr} (X : K.In h) (G : h.Ns mainGlobals mg) (hfa : mg ("law" : Str) = some (.ref f)) (c : He5.SaysA fa fn K) (cx : ex K = List.replicate 26 true) :
    ∃ fd : FuncData, (∀ (s : Shared) (v : Value), BindsTo s fd ⟨[v], []⟩ [("_law_script", v)]) ∧ ∀ base : Heap, K.In base → base.Ns mainGlobals mg → FnOk P w K mg base CX0 10 f fd ["_law_script"] (spLaw K) := by
  obtain ⟨fd_0, F_0⟩ := c.def_ 0 (d := d_is_integer) rfl
  obtain ⟨fd_1, F_1⟩ := c.def_ 1 (d := d_lowest) rfl
  obtain ⟨fd_2, F_2⟩ := c.def_ 2 (d := d_short) rfl
  obtain ⟨fd_3, F_3⟩ := c.def_ 3 (d := d_Ratio___init__) rfl
  obtain ⟨fd_4, F_4⟩ := c.def_ 4 (d := d_ratio) rfl
  obtain ⟨fd_5, F_5⟩ := c.def_ 5 (d := d_Ratio_pair) rfl
  obtain ⟨fd_6, F_6⟩ := c.def_ 6 (d := d_Ratio_bottom) rfl
  obtain ⟨fd_7, F_7⟩ := c.def_ 7 (d := d_operand) rfl
  obtain ⟨fd_8, F_8⟩ := c.def_ 8 (d := d_Ratio___add__) rfl
  obtain ⟨fd_9, F_9⟩ := c.def_ 9 (d := d_Ratio___neg__) rfl
  obtain ⟨fd_10, F_10⟩ := c.def_ 10 (d := d_Ratio_is_below) rfl
  obtain ⟨fd_11, F_11⟩ := c.def_ 11 (d := d_text_of) rfl
  obtain ⟨fd_12, F_12⟩ := c.def_ 12 (d := d_Ratio_top) rfl
  obtain ⟨fd_13, F_13⟩ := c.def_ 13 (d := d_Ratio_text) rfl
  obtain ⟨fd_14, F_14⟩ := c.def_ 14 (d := d_Ratio_sign) rfl
  obtain ⟨fd_15, F_15⟩ := c.def_ 15 (d := d_Ratio_whole) rfl
  obtain ⟨fd_16, F_16⟩ := c.def_ 16 (d := d_Ratio___sub__) rfl
  obtain ⟨fd_17, F_17⟩ := c.def_ 17 (d := d_Ratio___mul__) rfl
  obtain ⟨fd_18, F_18⟩ := c.def_ 18 (d := d_Ratio_divided) rfl
  obtain ⟨fd_19, F_19⟩ := c.def_ 19 (d := d_Ratio___abs__) rfl
  obtain ⟨fd_20, F_20⟩ := c.def_ 20 (d := d_Ratio___bool__) rfl
  obtain ⟨fd_21, F_21⟩ := c.def_ 21 (d := d_Ratio___str__) rfl
  obtain ⟨fd_22, F_22⟩ := c.def_ 22 (d := d_Ratio___eq__) rfl
  obtain ⟨fd_23, F_23⟩ := c.def_ 23 (d := d_Ratio_power) rfl
  obtain ⟨fd_24, F_24⟩ := c.def_ 24 (d := d_law_dice) rfl
  obtain ⟨fd_25, F_25⟩ := c.def_ 25 (d := d_law_roll) rfl
  obtain ⟨fd_26, F_26⟩ := c.def_ 26 (d := d_law_pick) rfl
  obtain ⟨fd_27, F_27⟩ := c.def_ 27 (d := d_law_ratio) rfl
  obtain ⟨fd_28, F_28⟩ := c.def_ 28 (d := d_law_plus) rfl
  obtain ⟨fd_29, F_29⟩ := c.def_ 29 (d := d_law_fraction) rfl
  obtain ⟨fd_30, F_30⟩ := c.def_ 30 (d := d_law_minus) rfl
  obtain ⟨fd_31, F_31⟩ := c.def_ 31 (d := d_law_times) rfl
  obtain ⟨fd_32, F_32⟩ := c.def_ 32 (d := d_law_over) rfl
  obtain ⟨fd_33, F_33⟩ := c.def_ 33 (d := d_law_less) rfl
  obtain ⟨fd_34, F_34⟩ := c.def_ 34 (d := d_law_text) rfl
  obtain ⟨fd_35, F_35⟩ := c.def_ 35 (d := d_law_great) rfl
  obtain ⟨fd_36, F_36⟩ := c.def_ 36 (d := d_law_power) rfl
  obtain ⟨fd_37, F_37⟩ := c.def_ 37 (d := d_law_told_right) rfl
  obtain ⟨fd_38, F_38⟩ := c.def_ 38 (d := d_law_right) rfl
  obtain ⟨fd_39, F_39⟩ := c.def_ 39 (d := d_law) rfl
  have x_first : (PySem.W.selfFirst K (cC K)) = true := ex_at cx 0 rfl
  have x_ne : decide (PySem.W.findIn K (.ref (cC K)) "__ne__" = some (some (.builtin "object.__ne__"))) = true := ex_at cx 1 rfl
  have x_obj : decide (PySem.W.mroIn K (cC K) (.type "object") = some true) = true := ex_at cx 2 rfl
  have x_rd : (PySem.W.readsIn K (cC K) (.type "type")) = true := ex_at cx 3 rfl
  have x_ga : decide (PySem.W.specialIn K (.ref (cC K)) "__getattribute__" = some (some (.builtin "type.__getattribute__"))) = true := ex_at cx 4 rfl
  have x_cl : decide (PySem.W.findIn K (.ref (cC K)) "__class__" = some (some (.builtin "object.__class__"))) = true := ex_at cx 5 rfl
  have x_cg : decide (PySem.W.specialIn K (.builtin "object.__class__") "__get__" = some (some (.builtin "getset_descriptor.__get__"))) = true := ex_at cx 6 rfl
  have x_ct : decide (PySem.W.takesIn K (.builtin "object.__class__") = some true) = true := ex_at cx 7 rfl
  have x_ki : decide (PySem.W.kitOne K (.type "int") (.ref (cC K)) = some false) = true := ex_at cx 8 rfl
  have x_kt : decide (PySem.W.kitOne K (.type "tuple") (.ref (cC K)) = some false) = true := ex_at cx 9 rfl
  have x_gcd : decide (PySem.W.nsIn K mainGlobals "gcd" = some (some (.builtin "math.gcd"))) = true := ex_at cx 10 rfl
  have x_xt : (PySem.W.notFirst K (cC K) (.type "tuple")) = true := ex_at cx 11 rfl
  have x_xi : (PySem.W.notFirst K (cC K) (.type "int")) = true := ex_at cx 12 rfl
  have x_addr : decide (PySem.W.findIn K (.ref (cC K)) (dunderR "add") = some none) = true := ex_at cx 13 rfl
  have x_add1 : ((PySem.W.findIn K (.type "int") (PySem.dunder "add")).isSome) = true := ex_at cx 14 rfl
  have x_add2 : ((PySem.W.findIn K (.type "int") (dunderR "add")).isSome) = true := ex_at cx 15 rfl
  have x_mulr : decide (PySem.W.findIn K (.ref (cC K)) (dunderR "mul") = some none) = true := ex_at cx 16 rfl
  have x_mul1 : ((PySem.W.findIn K (.type "int") (PySem.dunder "mul")).isSome) = true := ex_at cx 17 rfl
  have x_mul2 : ((PySem.W.findIn K (.type "int") (dunderR "mul")).isSome) = true := ex_at cx 18 rfl
  have x_sub : decide (PySem.W.subIn K (.type "int") (.ref (cC K)) = some false) = true := ex_at cx 19 rfl
  have x_p_pair : (propB K (cC K) "pair") = true := ex_at cx 20 rfl
  have x_p_bottom : (propB K (cC K) "bottom") = true := ex_at cx 21 rfl
  have x_p_top : (propB K (cC K) "top") = true := ex_at cx 22 rfl
  have x_p_text : (propB K (cC K) "text") = true := ex_at cx 23 rfl
  have x_p_sign : (propB K (cC K) "sign") = true := ex_at cx 24 rfl
  have x_p_whole : (propB K (cC K) "whole") = true := ex_at cx 25 rfl
  have B : Blt mg := ⟨He.free_ok X G (c.fact 38 (f := .free "abs") rfl), He.free_ok X G (c.fact 39 (f := .free "bool") rfl), He.free_ok X G (c.fact 40 (f := .free "int") rfl), He.free_ok X G (c.fact 41 (f := .free "isinstance") rfl), He.free_ok X G (c.fact 42 (f := .free "len") rfl), He.free_ok X G (c.fact 43 (f := .free "max") rfl), He.free_ok X G (c.fact 44 (f := .free "min") rfl), He.free_ok X G (c.fact 45 (f := .free "range") rfl), He.free_ok X G (c.fact 46 (f := .free "str") rfl)⟩
  have Z : Con mg := ⟨He.int_ok X G (c.fact 47 (f := .int "MAX_DIGITS" 300) rfl), He.int_ok X G (c.fact 48 (f := .int "LEAST_LONG" (10 ^ 300)) rfl), He.int_ok X G (c.fact 49 (f := .int "MAX_POWER" 30) rfl)⟩
  have T : RatioC K mg (cC K) := ⟨He.cls_ok (c.fact 1 (f := .cls "Ratio") rfl), He.noat_ok (c.fact 3 (f := .noat "Ratio" "_top") rfl), He.noat_ok (c.fact 4 (f := .noat "Ratio" "_bottom") rfl), He.glo_ok X G (c.fact 0 (f := .glo "Ratio") rfl), x_first, of_decide_eq_true x_ne, of_decide_eq_true x_obj, ⟨x_rd, of_decide_eq_true x_ga⟩, of_decide_eq_true x_cl, of_decide_eq_true x_cg, of_decide_eq_true x_ct, of_decide_eq_true x_ki, of_decide_eq_true x_kt, PySem.W.mg_of X G (of_decide_eq_true x_gcd)⟩
  have I_add : IntSide K (cC K) "add" := ⟨of_decide_eq_true x_addr, Option.isSome_iff_exists.mp x_add1, Option.isSome_iff_exists.mp x_add2, of_decide_eq_true x_sub⟩
  have I_mul : IntSide K (cC K) "mul" := ⟨of_decide_eq_true x_mulr, Option.isSome_iff_exists.mp x_mul1, Option.isSome_iff_exists.mp x_mul2, of_decide_eq_true x_sub⟩
  have e := hfa.symm.trans (He.glo_ok X G (c.fact 37 (f := .glo "law") rfl))
  cases e
  have b := FunD.bindsA (ps := ["_law_script"]) F_39 fun _ _ _ _ _ _ us hl => match us, hl with | [_], _ => rfl
  refine ⟨fd_39, fun s v => b s [v] rfl, fun base _ _ => ?_⟩
  have C_is_integer : Cal P w K mg base 1 "is_integer" ["value"] spIsInt := ⟨_, _, (ok_is_integer F_0 B Z T), He.glo_ok X G (c.fact 5 (f := .glo "is_integer") rfl), F_0.kp, (F_0.bindsN (ps := ["value"]) fun _ _ _ _ _ _ us hl => match us, hl with | [_], _ => rfl)⟩
  have C_lowest : Cal P w K mg base 1 "lowest" ["top", "bottom"] spLowest := ⟨_, _, (ok_lowest F_1 B Z T), He.glo_ok X G (c.fact 6 (f := .glo "lowest") rfl), F_1.kp, (F_1.bindsN (ps := ["top", "bottom"]) fun _ _ _ _ _ _ us hl => match us, hl with | [_, _], _ => rfl)⟩
  have C_short : Cal P w K mg base 2 "short" ["pair"] spShort := ⟨_, _, (ok_short F_2 B Z T C_is_integer), He.glo_ok X G (c.fact 7 (f := .glo "short") rfl), F_2.kp, (F_2.bindsN (ps := ["pair"]) fun _ _ _ _ _ _ us hl => match us, hl with | [_], _ => rfl)⟩
  obtain ⟨ds_3, v_3, b_3⟩ := F_3.binds1 (ps := ["self", "top", "bottom"]) 3 1 (by simp [He5.DefA.dvs, d_Ratio___init__]) rfl fun _ _ _ _ _ _ _ us its hu hi => match us, its, hu, hi with | [_, _, _], [_], _, _ => ⟨_, rfl, rfl⟩
  have C_Ratio_2 : Mkr P w K mg base 2 "Ratio" (cC K) (spInit (cC K)) [] := ⟨_, _, _, _, (ok_Ratio___init__ F_3 B Z T C_is_integer C_lowest), He.mkr_ok (c.fact 2 (f := .mkr "Ratio") rfl), He.glo_ok X G (c.fact 0 (f := .glo "Ratio") rfl), b_3, v_3⟩
  obtain ⟨ds_2, v_2, b_2⟩ := F_3.binds1 (ps := ["self", "top", "bottom"]) 2 0 (by simp [He5.DefA.dvs, d_Ratio___init__]) rfl fun _ _ _ _ _ _ _ us its hu hi => match us, its, hu, hi with | [_, _], [_], _, _ => ⟨_, rfl, rfl⟩
  have C_Ratio_1 : Mkr P w K mg base 2 "Ratio" (cC K) (spInit (cC K)) [.int 1] := ⟨_, _, _, _, (ok_Ratio___init__ F_3 B Z T C_is_integer C_lowest), He.mkr_ok (c.fact 2 (f := .mkr "Ratio") rfl), He.glo_ok X G (c.fact 0 (f := .glo "Ratio") rfl), b_2, v_2⟩
  have C_ratio : Cal P w K mg base 4 "_ratio" ["top", "bottom"] (spRatio (cC K)) := ⟨_, _, (ok_ratio F_4 B Z T C_lowest C_short C_Ratio_2), He.glo_ok X G (c.fact 8 (f := .glo "_ratio") rfl), F_4.kp, (F_4.bindsN (ps := ["top", "bottom"]) fun _ _ _ _ _ _ us hl => match us, hl with | [_, _], _ => rfl)⟩
  have C_Ratio_pair : Prp P w K mg base 1 (cC K) "pair" (spPair (cC K)) := ⟨_, _, _, (ok_Ratio_pair F_5 B Z T), propB_ok x_p_pair, (F_5.bindsN (ps := ["self"]) fun _ _ _ _ _ _ us hl => match us, hl with | [_], _ => rfl)⟩
  have C_Ratio_bottom : Prp P w K mg base 1 (cC K) "bottom" (spBot (cC K)) := ⟨_, _, _, (ok_Ratio_bottom F_6 B Z T), propB_ok x_p_bottom, (F_6.bindsN (ps := ["self"]) fun _ _ _ _ _ _ us hl => match us, hl with | [_], _ => rfl)⟩
  have C_operand : Cal P w K mg base 3 "_operand" ["value"] (spOper (cC K)) := ⟨_, _, (ok_operand F_7 B Z T C_Ratio_pair C_is_integer), He.glo_ok X G (c.fact 9 (f := .glo "_operand") rfl), F_7.kp, (F_7.bindsN (ps := ["value"]) fun _ _ _ _ _ _ us hl => match us, hl with | [_], _ => rfl)⟩
  have C_Ratio___add__ : Mth P w K mg base 5 (cC K) "__add__" ["self", "other"] (spAdd (cC K)) := ⟨_, _, (ok_Ratio___add__ F_8 B Z T C_operand C_ratio), He.meth_ok (c.fact 10 (f := .meth "Ratio" "__add__") rfl), (F_8.bindsN (ps := ["self", "other"]) fun _ _ _ _ _ _ us hl => match us, hl with | [_, _], _ => rfl)⟩
  have C_Ratio___neg__ : Mth P w K mg base 5 (cC K) "__neg__" ["self"] (spNeg (cC K)) := ⟨_, _, (ok_Ratio___neg__ F_9 B Z T C_ratio), He.meth_ok (c.fact 11 (f := .meth "Ratio" "__neg__") rfl), (F_9.bindsN (ps := ["self"]) fun _ _ _ _ _ _ us hl => match us, hl with | [_], _ => rfl)⟩
  have C_Ratio_is_below : Mth P w K mg base 4 (cC K) "is_below" ["self", "other"] (spBelow (cC K)) := ⟨_, _, (ok_Ratio_is_below F_10 B Z T C_operand), He.meth_ok (c.fact 12 (f := .meth "Ratio" "is_below") rfl), (F_10.bindsN (ps := ["self", "other"]) fun _ _ _ _ _ _ us hl => match us, hl with | [_, _], _ => rfl)⟩
  have C_text_of : Cal P w K mg base 1 "text_of" ["pair"] spTextOf := ⟨_, _, (ok_text_of F_11 B Z T), He.glo_ok X G (c.fact 13 (f := .glo "text_of") rfl), F_11.kp, (F_11.bindsN (ps := ["pair"]) fun _ _ _ _ _ _ us hl => match us, hl with | [_], _ => rfl)⟩
  have C_Ratio_top : Prp P w K mg base 1 (cC K) "top" (spTop (cC K)) := ⟨_, _, _, (ok_Ratio_top F_12 B Z T), propB_ok x_p_top, (F_12.bindsN (ps := ["self"]) fun _ _ _ _ _ _ us hl => match us, hl with | [_], _ => rfl)⟩
  have C_Ratio_text : Prp P w K mg base 3 (cC K) "text" (spText (cC K)) := ⟨_, _, _, (ok_Ratio_text F_13 B Z T C_Ratio_pair C_text_of), propB_ok x_p_text, (F_13.bindsN (ps := ["self"]) fun _ _ _ _ _ _ us hl => match us, hl with | [_], _ => rfl)⟩
  have C_Ratio_sign : Prp P w K mg base 1 (cC K) "sign" (spSign (cC K)) := ⟨_, _, _, (ok_Ratio_sign F_14 B Z T), propB_ok x_p_sign, (F_14.bindsN (ps := ["self"]) fun _ _ _ _ _ _ us hl => match us, hl with | [_], _ => rfl)⟩
  have C_Ratio_whole : Prp P w K mg base 1 (cC K) "whole" (spWhole (cC K)) := ⟨_, _, _, (ok_Ratio_whole F_15 B Z T), propB_ok x_p_whole, (F_15.bindsN (ps := ["self"]) fun _ _ _ _ _ _ us hl => match us, hl with | [_], _ => rfl)⟩
  have C_Ratio___sub__ : Mth P w K mg base 5 (cC K) "__sub__" ["self", "other"] (spSub (cC K)) := ⟨_, _, (ok_Ratio___sub__ F_16 B Z T C_operand C_ratio), He.meth_ok (c.fact 14 (f := .meth "Ratio" "__sub__") rfl), (F_16.bindsN (ps := ["self", "other"]) fun _ _ _ _ _ _ us hl => match us, hl with | [_, _], _ => rfl)⟩
  have C_Ratio___mul__ : Mth P w K mg base 5 (cC K) "__mul__" ["self", "other"] (spMul (cC K)) := ⟨_, _, (ok_Ratio___mul__ F_17 B Z T C_operand C_ratio), He.meth_ok (c.fact 15 (f := .meth "Ratio" "__mul__") rfl), (F_17.bindsN (ps := ["self", "other"]) fun _ _ _ _ _ _ us hl => match us, hl with | [_, _], _ => rfl)⟩
  have C_Ratio_divided : Mth P w K mg base 5 (cC K) "divided" ["self", "other"] (spDiv (cC K)) := ⟨_, _, (ok_Ratio_divided F_18 B Z T C_operand C_ratio), He.meth_ok (c.fact 16 (f := .meth "Ratio" "divided") rfl), (F_18.bindsN (ps := ["self", "other"]) fun _ _ _ _ _ _ us hl => match us, hl with | [_, _], _ => rfl)⟩
  have C_Ratio___abs__ : Mth P w K mg base 5 (cC K) "__abs__" ["self"] (spAbs (cC K)) := ⟨_, _, (ok_Ratio___abs__ F_19 B Z T C_ratio), He.meth_ok (c.fact 17 (f := .meth "Ratio" "__abs__") rfl), (F_19.bindsN (ps := ["self"]) fun _ _ _ _ _ _ us hl => match us, hl with | [_], _ => rfl)⟩
  have C_Ratio___bool__ : Mth P w K mg base 1 (cC K) "__bool__" ["self"] (spBool (cC K)) := ⟨_, _, (ok_Ratio___bool__ F_20 B Z T), He.meth_ok (c.fact 18 (f := .meth "Ratio" "__bool__") rfl), (F_20.bindsN (ps := ["self"]) fun _ _ _ _ _ _ us hl => match us, hl with | [_], _ => rfl)⟩
  have C_Ratio___str__ : Mth P w K mg base 5 (cC K) "__str__" ["self"] (spText (cC K)) := ⟨_, _, (ok_Ratio___str__ F_21 B Z T C_Ratio_text), He.meth_ok (c.fact 19 (f := .meth "Ratio" "__str__") rfl), (F_21.bindsN (ps := ["self"]) fun _ _ _ _ _ _ us hl => match us, hl with | [_], _ => rfl)⟩
  have C_Ratio___eq__ : Mth P w K mg base 1 (cC K) "__eq__" ["self", "other"] (spEqX K (cC K)) := ⟨_, _, (ok_Ratio___eq__ F_22 B Z T), He.meth_ok (c.fact 20 (f := .meth "Ratio" "__eq__") rfl), (F_22.bindsN (ps := ["self", "other"]) fun _ _ _ _ _ _ us hl => match us, hl with | [_, _], _ => rfl)⟩
  have C_Ratio_power : Mth P w K mg base 5 (cC K) "power" ["self", "exponent"] (spPow (cC K)) := ⟨_, _, (ok_Ratio_power F_23 B Z T C_is_integer C_ratio), He.meth_ok (c.fact 21 (f := .meth "Ratio" "power") rfl), (F_23.bindsN (ps := ["self", "exponent"]) fun _ _ _ _ _ _ us hl => match us, hl with | [_, _], _ => rfl)⟩
  have C_law_dice : Cal P w K mg base 1 "_law_dice" ["_law_script", "_law_spot"] (spDice K) := ⟨_, _, (ok_law_dice F_24 B Z T), He.glo_ok X G (c.fact 22 (f := .glo "_law_dice") rfl), F_24.kp, (F_24.bindsN (ps := ["_law_script", "_law_spot"]) fun _ _ _ _ _ _ us hl => match us, hl with | [_, _], _ => rfl)⟩
  have C_law_roll : Cal P w K mg base 1 "_law_roll" ["_law_dice_here", "_law_total"] spRoll := ⟨_, _, (ok_law_roll F_25 B Z T), He.glo_ok X G (c.fact 23 (f := .glo "_law_roll") rfl), F_25.kp, (F_25.bindsN (ps := ["_law_dice_here", "_law_total"]) fun _ _ _ _ _ _ us hl => match us, hl with | [_, _], _ => rfl)⟩
  have C_law_pick : Cal P w K mg base 2 "_law_pick" ["_law_dice_here", "_law_items"] (spPick K) := ⟨_, _, (ok_law_pick F_26 B Z T C_law_roll), He.glo_ok X G (c.fact 24 (f := .glo "_law_pick") rfl), F_26.kp, (F_26.bindsN (ps := ["_law_dice_here", "_law_items"]) fun _ _ _ _ _ _ us hl => match us, hl with | [_, _], _ => rfl)⟩
  have C_law_ratio : Cal P w K mg base 1 "_law_ratio" ["_law_top", "_law_bottom"] spLRatio := ⟨_, _, (ok_law_ratio F_27 B Z T), He.glo_ok X G (c.fact 25 (f := .glo "_law_ratio") rfl), F_27.kp, (F_27.bindsN (ps := ["_law_top", "_law_bottom"]) fun _ _ _ _ _ _ us hl => match us, hl with | [_, _], _ => rfl)⟩
  have C_law_plus : Cal P w K mg base 2 "_law_plus" ["_law_one", "_law_other"] (spLPlus K) := ⟨_, _, (ok_law_plus F_28 B Z T C_law_ratio), He.glo_ok X G (c.fact 26 (f := .glo "_law_plus") rfl), F_28.kp, (F_28.bindsN (ps := ["_law_one", "_law_other"]) fun _ _ _ _ _ _ us hl => match us, hl with | [_, _], _ => rfl)⟩
  have C_law_fraction : Cal P w K mg base 3 "_law_fraction" ["_law_dice_here"] spLFrac := ⟨_, _, (ok_law_fraction F_29 B Z T C_law_roll C_law_pick C_law_ratio), He.glo_ok X G (c.fact 27 (f := .glo "_law_fraction") rfl), F_29.kp, (F_29.bindsN (ps := ["_law_dice_here"]) fun _ _ _ _ _ _ us hl => match us, hl with | [_], _ => rfl)⟩
  have C_law_minus : Cal P w K mg base 2 "_law_minus" ["_law_one", "_law_other"] (spLMinus K) := ⟨_, _, (ok_law_minus F_30 B Z T C_law_ratio), He.glo_ok X G (c.fact 28 (f := .glo "_law_minus") rfl), F_30.kp, (F_30.bindsN (ps := ["_law_one", "_law_other"]) fun _ _ _ _ _ _ us hl => match us, hl with | [_, _], _ => rfl)⟩
  have C_law_times : Cal P w K mg base 2 "_law_times" ["_law_one", "_law_other"] (spLTimes K) := ⟨_, _, (ok_law_times F_31 B Z T C_law_ratio), He.glo_ok X G (c.fact 29 (f := .glo "_law_times") rfl), F_31.kp, (F_31.bindsN (ps := ["_law_one", "_law_other"]) fun _ _ _ _ _ _ us hl => match us, hl with | [_, _], _ => rfl)⟩
  have C_law_over : Cal P w K mg base 2 "_law_over" ["_law_one", "_law_other"] (spLOver K) := ⟨_, _, (ok_law_over F_32 B Z T C_law_ratio), He.glo_ok X G (c.fact 30 (f := .glo "_law_over") rfl), F_32.kp, (F_32.bindsN (ps := ["_law_one", "_law_other"]) fun _ _ _ _ _ _ us hl => match us, hl with | [_, _], _ => rfl)⟩
  have C_law_less : Cal P w K mg base 1 "_law_less" ["_law_one", "_law_other"] (spLLess K) := ⟨_, _, (ok_law_less F_33 B Z T), He.glo_ok X G (c.fact 31 (f := .glo "_law_less") rfl), F_33.kp, (F_33.bindsN (ps := ["_law_one", "_law_other"]) fun _ _ _ _ _ _ us hl => match us, hl with | [_, _], _ => rfl)⟩
  have C_law_text : Cal P w K mg base 1 "_law_text" ["_law_pair"] (spLText K) := ⟨_, _, (ok_law_text F_34 B Z T), He.glo_ok X G (c.fact 32 (f := .glo "_law_text") rfl), F_34.kp, (F_34.bindsN (ps := ["_law_pair"]) fun _ _ _ _ _ _ us hl => match us, hl with | [_], _ => rfl)⟩
  have C_law_great : Cal P w K mg base 4 "_law_great" ["_law_dice_here"] spLGreat := ⟨_, _, (ok_law_great F_35 B Z T C_law_roll C_law_fraction C_law_ratio C_law_pick), He.glo_ok X G (c.fact 33 (f := .glo "_law_great") rfl), F_35.kp, (F_35.bindsN (ps := ["_law_dice_here"]) fun _ _ _ _ _ _ us hl => match us, hl with | [_], _ => rfl)⟩
  have C_law_power : Cal P w K mg base 3 "_law_power" ["_law_pair", "_law_power_here"] (spLPow K) := ⟨_, _, (ok_law_power F_36 B Z T C_law_times C_law_over), He.glo_ok X G (c.fact 34 (f := .glo "_law_power") rfl), F_36.kp, (F_36.bindsN (ps := ["_law_pair", "_law_power_here"]) fun _ _ _ _ _ _ us hl => match us, hl with | [_, _], _ => rfl)⟩
  have C_law_told_right : Cal P w K mg base 8 "_law_told_right" ["_law_one", "_law_pair"] (spLTold (cC K)) := ⟨_, _, (ok_law_told_right F_37 B Z T C_Ratio_pair C_Ratio_top C_Ratio_bottom C_Ratio_sign C_Ratio_whole C_Ratio_text C_Ratio___str__ C_Ratio___bool__ C_law_text), He.glo_ok X G (c.fact 35 (f := .glo "_law_told_right") rfl), F_37.kp, (F_37.bindsN (ps := ["_law_one", "_law_pair"]) fun _ _ _ _ _ _ us hl => match us, hl with | [_, _], _ => rfl)⟩
  have C_law_right : Cal P w K mg base 9 "_law_right" ["_law_dice_here"] spLRight := ⟨_, _, (ok_law_right F_38 B Z T C_law_roll C_law_great C_Ratio_2 C_Ratio_1 C_law_told_right C_Ratio___add__ C_Ratio___sub__ C_Ratio___mul__ C_Ratio___neg__ C_Ratio___abs__ C_Ratio___eq__ C_Ratio_pair C_Ratio_is_below C_Ratio_divided C_Ratio_power C_law_plus C_law_minus C_law_times C_law_over C_law_less C_law_power I_add I_mul x_xt x_xi), He.glo_ok X G (c.fact 36 (f := .glo "_law_right") rfl), F_38.kp, (F_38.bindsN (ps := ["_law_dice_here"]) fun _ _ _ _ _ _ us hl => match us, hl with | [_], _ => rfl)⟩
  exact (ok_law F_39 B Z T C_law_dice C_law_right C_Ratio_2 C_Ratio_1 C_Ratio_pair C_Ratio_whole C_Ratio___str__ C_Ratio___add__ C_Ratio___mul__ C_Ratio_divided C_Ratio_power I_add)
end K05
open PySem PySem.W PySem.Calls PyProof.Rows
set_option maxHeartbeats 0 in
theorem PySem.Challenge.cw_wonbyturns_k05_whole_ratios_reckoned_holds : PySem.Challenge.rw_wonbyturns_k05_whole_ratios_reckoned.Holds := by
  w_on; o_law
  refine HandSHeadRun.head_imp (r := OpenLaw.row PySem.Challenge.rw_wonbyturns_k05_whole_ratios_reckoned) (q := view (OpenLaw.row PySem.Challenge.rw_wonbyturns_k05_whole_ratios_reckoned).prog [0, 40]) (H := K05.hk) (ob := K05.ob) (M := 20000) (loose := K05.loose) (d := HandSHeadRun.topDef (OpenLaw.row PySem.Challenge.rw_wonbyturns_k05_whole_ratios_reckoned).prog 40) (kwd := []) K05.ob_eq K05.run
    (by kernel_rfl) (by kernel_rfl) (by kernel_rfl) (by rfl) (by first | assumption | decide +kernel) (by decide +kernel) ⟨rfl, rfl, rfl, rfl, rfl, by decide +kernel⟩ ?hw ?hc
  case hw => w_witness2
  case hc =>
    refine L2.walk_ofE (l := PySem.Challenge.rw_wonbyturns_k05_whole_ratios_reckoned) (n := 63) (k := 10) (x := "_law_script") (CX := L2.CX0) rfl (by decide) (by kernel_rfl) ⟨rfl, by decide, by decide⟩ ?F (fun _ _ _ _ z => z)
    intro w mg fa h Y G hmg0
    obtain ⟨K, KX, c, cx⟩ := Y
    have hmg : mg ("law" : PySem.Str) = some (.ref fa) := by
      have e : (HandSHeadRun.topDef (OpenLaw.row PySem.Challenge.rw_wonbyturns_k05_whole_ratios_reckoned).prog 40).name = ("law" : PySem.Str) := by kernel_rfl
      rw [← e]
      exact hmg0
    obtain ⟨fd, hb, hF⟩ := K05.facts (P := (PySem.Challenge.rw_wonbyturns_k05_whole_ratios_reckoned).prog) (w := w) KX G hmg c cx
    exact ⟨K, fd, _, KX, hb, fun H a ns hl _ hS => ⟨a, ns, rfl, hS, hl, fun _ => rfl⟩, hF⟩
