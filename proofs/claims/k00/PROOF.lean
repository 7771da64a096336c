import PyProof.Rows.All
import Wide.All
import OpenK.AllK
import Wide.FinOn
import HandS.ForMost
import HandS.Wide
import HandS.IsInst
import HandS.Walk
import HandS.Defaults
import HandS.Head0
import HandS.Head1
import HandS.Head2
import HandS.HeadEnd
import HandS.HeadHook1
import HandS.HeadHook2
import HandS.OwnEq
import HandS.Property
import HandS.ClsMeth
import HandS.HeadNt
import HandS.Gcd
import HandS.CallLocal
import HandS.Codes
import KE.KOpsOwn
import KE.KCallOwn
import KE.KFmtOwn
import PyProof.InstNe
import PyProof.Rows.RuleN_abs
import HandS.Style
import HandS.Ends
import HandS.Exc
import HandS.ExcInit
import HandS.ExcField
import KE.KExcIs
import KE.KExcStr
import KE.KExcInit
import KE.KExcMake
import PyProof.Rows.ReprR
import HandS.ExcValue
import PyProof.StrOps2
import HandS.HeadHook4
import HandS.Head3
import HandS.Head4
import PyProof.ExcBaseAll.LookupError
import PyProof.ExcBaseAll.IndexError
import PyProof.ExcBaseAll.OverflowError
import PyProof.ExcBaseAll.ArithmeticError
import PyProof.ExcBaseAll.RuntimeError
import PySem.Challenge.RW_wonbyturns_k00_errors_and_what_they_keep
set_option Elab.async false
set_option linter.all false
set_option maxRecDepth 100000
set_option maxHeartbeats 4000000
/-! k00: errors and what they keep -/
/-! My own rules beside the layer, and the reading's steps by name. -/
namespace Ow
open PySem PySem.Spec PyProof.Rows L2

/-! ### operations that the layer's rules do not reach -/
section
variable {X : Cx}
/-- a power of a great base -/
def CPowW (i j : Int) : Prop := 0 ≤ j ∧ (Builtin.Int.intBits i : Int) * j ≤ 2 ^ 27
theorem op_powW : OpR X (binaryOp .Pow) (rI CPowW fun i j => .int (i ^ j.toNat)) := opI fun _ _ _ _ _ _ _ hc q => pow_int hc.1 hc.2 q
/-- repr of a truth value -/
def rReprB : List V → Hp → VK → Prop := fun xs H Q => ∃ k : Bool, xs = [.bl k] ∧ Q (.str (if k then "True" else "False")) H
theorem c_reprB : CallR X (.builtin "repr") rReprB := by
  intro pins s σ H xs us Q I r h
  obtain ⟨k, rfl, q⟩ := h
  obtain ⟨u, rfl, rx⟩ := vals1 r
  cases (show u = Value.bool k from rx)
  exact PySem.P.repr_of_bool ⟨.str _, H, I.tok _, ⟨_, rfl⟩, q⟩
/-- the chrs of a text, one by one -/
def chrs (z : Str) : List V := z.cps.toList.map fun c => V.str ⟨#[c]⟩
/-- list(text) -/
def rListS : List V → Hp → VK → Prop := fun xs H Q => ∃ z : Str, xs = [.str z] ∧ z.cps.size ≤ 100000 ∧ ∀ p, H p = none → Q (.ref p) (upd H p (.lst (chrs z)))
theorem vals_chrs : ∀ (l : List Nat) (us : List Value), us.length = l.length → (∀ i, (h : i < l.length) → ∃ c t, l[i]? = some c ∧ us[i]? = some (Value.str ⟨#[c]⟩ t)) → Vals (l.map fun c => V.str ⟨#[c]⟩) us
  | [], [], _, _ => .nil
  | [], _ :: _, h, _ => by simp at h
  | _ :: _, [], h, _ => by simp at h
  | c :: l, u :: us, h, k => by
    obtain ⟨c', t, e1, e2⟩ := k 0 (by simp)
    simp at e1 e2
    subst e1
    subst e2
    refine .cons ⟨t, rfl⟩ (vals_chrs l us (by simpa using h) fun i hi => ?_)
    obtain ⟨c2, t2, e3, e4⟩ := k (i + 1) (by simpa using hi)
    exact ⟨c2, t2, by simpa using e3, by simpa using e4⟩
theorem c_listS (hc : X.calm = true) : CallR X (.type "list") rListS := by
  intro pins s σ H xs us Q I r h
  obtain ⟨z, rfl, hz, q⟩ := h
  obtain ⟨u, rfl, t, rfl⟩ := vals1 r
  have hh : X.A.handled = none := I.ok.hd hc
  refine call_list_str hh z t (fun h' tk acc' c' kp e it => ?_) (Nat.le_trans hz (by decide))
  refine ⟨.ref s.heap.objs.size, _, I.laid (t' := tk) kp (Nat.le_refl _) (show ObjOk X.prog X.w _ h' _ (.lst (chrs z)) from ?_), rfl, q _ (I.hok.fresh (Nat.le_refl _))⟩
  refine ⟨by unfold chrs; rw [List.length_map, Array.length_toList]; exact Nat.le_trans hz (by decide), acc'.toList, c', ?_, e⟩
  refine vals_chrs z.cps.toList acc'.toList (by rw [Array.length_toList, Array.length_toList, it.1]) fun i hi => ?_
  have hi2 : i < acc'.size := by
    rw [it.1]
    simpa using hi
  obtain ⟨c, u, e1, e2⟩ := it.2 i acc'[i] (by simp [hi2])
  exact ⟨c, u, by simpa using e1, by simp [hi2, e2]⟩
end

/-! ### readings by name: each is the reading's own sense, so that a step is found by its head -/
section
variable {σ : L2.St} {H : Hp} {Q : VK} {ta tb te : TE} {tr ts : TA} {n b c : L2.St → Hp → Prop} {rt : VK} {K : PySem.W.Frag}
theorem y_seq {t u : TS} (h : t ⟨u ⟨n, rt, b, c⟩, rt, b, c⟩ σ H) : tSeq t u ⟨n, rt, b, c⟩ σ H := h
theorem y_next (h : n σ H) : tNext ⟨n, rt, b, c⟩ σ H := h
theorem y_asg {g : TG} (h : te σ H fun x H1 => g x σ H1 n) : tAsg te g ⟨n, rt, b, c⟩ σ H := h
theorem y_name {i : Nat} {v : V} {R : L2.St → Hp → Prop} (h : R (σ.set i (some v)) H) : gName i v σ H R := h
theorem y_sub {to ti : TE} {t : TSet} {v : V} {R : L2.St → Hp → Prop} (h : to σ H fun o H1 => ti σ H1 fun i H2 => t o i v H2 fun H3 => R σ H3) : gSub to ti t v σ H R := h
theorem y_ret (h : te σ H rt) : tRet te ⟨n, rt, b, c⟩ σ H := h
theorem y_drop (h : te σ H fun _ H1 => n σ H1) : tDrop te ⟨n, rt, b, c⟩ σ H := h
theorem y_ifs {tc : TT} {t u : TS} (h : tc σ H fun k H1 => if k = true then t ⟨n, rt, b, c⟩ σ H1 else u ⟨n, rt, b, c⟩ σ H1) : tIfS tc t u ⟨n, rt, b, c⟩ σ H := h
theorem y_for {wi : TI} {g : TG} {t : TS} (h : wi σ H fun J H1 => ∃ W : Nat → Nat → L2.St → Hp → Prop, (∃ m, W 0 m σ H1) ∧ ∀ i m σ H, W i m σ H →
  (J.stop i H ∧ n σ H) ∨ (J.go i H ∧ ∃ N : L2.St → Hp → Prop, (∀ σ' H', N σ' H' → ∃ m', m' < m ∧ W (i + 1) m' σ' H') ∧ ∀ x H', J.yld i H x H' → g x σ H' fun σ2 H2 => t ⟨N, rt, n, N⟩ σ2 H2)) : tFor wi g t ⟨n, rt, b, c⟩ σ H := h
theorem y_var {i : Nat} {v : V} (e : σ[i]? = some (some v)) (h : Q v H) : tVar i σ H Q := ⟨v, e, h⟩
theorem y_var2 {i : Nat} (h : ∃ v, σ[i]? = some (some v) ∧ Q v H) : tVar i σ H Q := h
theorem y_con {v : V} (h : Q v H) : tC v σ H Q := h
theorem y_op {r : R2} (h : ta σ H fun x H1 => tb σ H1 fun y H2 => r x y H2 Q) : tOp r ta tb σ H Q := h
theorem y_un {r : V → Hp → VK → Prop} (h : ta σ H fun x H1 => r x H1 Q) : tUn r ta σ H Q := h
theorem y_nil {R : List V → Hp → Prop} (h : R [] H) : tNil σ H R := h
theorem y_cons {R : List V → Hp → Prop} (h : ta σ H fun x H1 => tr σ H1 fun xs H2 => R (x :: xs) H2) : tCons ta tr σ H R := h
theorem y_cb {r : List V → Hp → VK → Prop} (h : tr σ H fun vs H1 => r vs H1 Q) : tCB r tr σ H Q := h
theorem y_I0 {g : Int → Int → V} {i j : Int} (h : Q (g i j) H) : rI0 g (.int i) (.int j) H Q := ⟨i, j, rfl, rfl, h⟩
theorem y_I {C : Int → Int → Prop} {g : Int → Int → V} {i j : Int} (e : C i j) (h : Q (g i j) H) : rI C g (.int i) (.int j) H Q := ⟨i, j, rfl, rfl, e, h⟩
theorem y_test {R : Bool → Hp → Prop} (h : te σ H fun x H' => ∃ k, x = .bl k ∧ R k H') : tTest te σ H R := h
theorem y_B {R : Bool → Hp → Prop} (h : te σ H fun x H' => ∃ k, x = .bl k ∧ R k H') : tB te σ H R := h
theorem y_bl {k : Bool} {R : Bool → Prop} (h : R k) : ∃ k', V.bl k = .bl k' ∧ R k' := ⟨k, rfl, h⟩
theorem y_not {t : TT} {R : Bool → Hp → Prop} (h : t σ H fun k H1 => R (!k) H1) : tNot t σ H R := h
theorem y_and {t u : TT} {R : Bool → Hp → Prop} (h : t σ H fun k H1 => if k = true then u σ H1 R else R false H1) : tAnd t u σ H R := h
theorem y_or {t u : TT} {R : Bool → Hp → Prop} (h : t σ H fun k H1 => if k = true then R true H1 else u σ H1 R) : tOr t u σ H R := h
theorem y_if {t : TT} (h : t σ H fun k H1 => if k = true then ta σ H1 Q else tb σ H1 Q) : tIf t ta tb σ H Q := h
theorem y_chain {r r' : R2} (h : ta σ H fun x H1 => tb σ H1 fun y H2 => r x y H2 fun z H3 => ∃ k, z = .bl k ∧ (if k = true then te σ H3 fun w' H4 => r' y w' H4 Q else Q (.bl false) H3)) : tChain r r' ta tb te σ H Q := h
theorem y_andV (h : ta σ H fun x H1 => ∃ k, x = .bl k ∧ if k = true then tb σ H1 Q else Q (.bl false) H1) : tAndV ta tb σ H Q := h
theorem y_orV (h : ta σ H fun x H1 => ∃ k, x = .bl k ∧ if k = true then Q (.bl true) H1 else tb σ H1 Q) : tOrV ta tb σ H Q := h
theorem y_yes {R : Bool → Hp → Prop} (h : R true H) : tYes σ H R := h
theorem y_lst {t : TA} (h : t σ H fun xs H1 => xs.length ≤ sizeLine ∧ ∀ p, H1 p = none → Q (.ref p) (upd H1 p (.lst xs))) : tLst t σ H Q := h
theorem y_tup {t : TA} (h : t σ H fun xs H1 => xs.length ≤ sizeLine ∧ ∀ p, H1 p = none → Q (.ref p) (upd H1 p (.tup xs))) : tTup t σ H Q := h
theorem y_eqI {i j : Int} (h : Q (.bl (decide (i = j))) H) : rEq (.int i) (.int j) H Q := ⟨rfl, by
  have e : decide (V.int i = V.int j) = decide (i = j) := by
    rw [decide_eq_decide]
    exact ⟨fun z => V.int.inj z, fun z => by rw [z]⟩
  rw [e]
  exact h⟩
theorem y_neI {i j : Int} (h : Q (.bl (!decide (i = j))) H) : rNe (.int i) (.int j) H Q := ⟨rfl, by
  have e : decide (V.int i = V.int j) = decide (i = j) := by
    rw [decide_eq_decide]
    exact ⟨fun z => V.int.inj z, fun z => by rw [z]⟩
  rw [e]
  exact h⟩
theorem y_eqS {i j : Str} (h : Q (.bl (decide (i = j))) H) : rEq (.str i) (.str j) H Q := ⟨rfl, by
  have e : decide (V.str i = V.str j) = decide (i = j) := by
    rw [decide_eq_decide]
    exact ⟨fun z => V.str.inj z, fun z => by rw [z]⟩
  rw [e]
  exact h⟩
theorem y_neS {i j : Str} (h : Q (.bl (!decide (i = j))) H) : rNe (.str i) (.str j) H Q := ⟨rfl, by
  have e : decide (V.str i = V.str j) = decide (i = j) := by
    rw [decide_eq_decide]
    exact ⟨fun z => V.str.inj z, fun z => by rw [z]⟩
  rw [e]
  exact h⟩
/-- calls, by values -/
def rIntI : List V → Hp → VK → Prop := fun xs H Q => (∃ i, xs = [.int i] ∧ Q (.int i) H) ∨ ∃ k, xs = [.bl k] ∧ Q (.int (if k then 1 else 0)) H
theorem c_int {X : Cx} : CallR X (.type "int") rIntI := call_int1
theorem y_intI {i : Int} (h : Q (.int i) H) : rIntI [.int i] H Q := .inl ⟨i, rfl, h⟩
theorem y_intB {k : Bool} (h : Q (.int (if k then 1 else 0)) H) : rIntI [.bl k] H Q := .inr ⟨k, rfl, h⟩
def rAbs : List V → Hp → VK → Prop := fun xs H Q => ∃ i, xs = [.int i] ∧ Q (.int (if i < 0 then -i else i)) H
theorem c_abs {X : Cx} : CallR X (.builtin "abs") rAbs := call_abs
theorem y_abs {i : Int} (h : Q (.int (i.natAbs : Int)) H) : rAbs [.int i] H Q := ⟨i, rfl, by
  have e : (if i < 0 then -i else i) = (i.natAbs : Int) := by split <;> omega
  rw [e]
  exact h⟩
def rMax2 : List V → Hp → VK → Prop := fun xs H Q => ∃ i j, xs = [.int i, .int j] ∧ Q (.int (if j > i then j else i)) H
theorem c_max2 {X : Cx} (hc : X.calm = true) : CallR X (.builtin "max") rMax2 := call_max2 hc
theorem y_max2 {i j : Int} (h : Q (.int (max i j)) H) : rMax2 [.int i, .int j] H Q := ⟨i, j, rfl, by
  have e : (if j > i then j else i) = max i j := by split <;> omega
  rw [e]
  exact h⟩
def rMin2 : List V → Hp → VK → Prop := fun xs H Q => ∃ i j, xs = [.int i, .int j] ∧ Q (.int (if j < i then j else i)) H
theorem c_min2 {X : Cx} (hc : X.calm = true) : CallR X (.builtin "min") rMin2 := call_min2 hc
theorem y_min2 {i j : Int} (h : Q (.int (min i j)) H) : rMin2 [.int i, .int j] H Q := ⟨i, j, rfl, by
  have e : (if j < i then j else i) = min i j := by split <;> omega
  rw [e]
  exact h⟩
def rLenQ (K : PySem.W.Frag) : List V → Hp → VK → Prop := fun xs H Q => ∃ p ys, xs = [.ref p] ∧ (SqL K H p ys ∨ SqT K H p ys) ∧ Q (.int ys.length) H
theorem c_lenQ {X : Cx} {K : PySem.W.Frag} (h : X.K = K := by rfl) : CallR X (.builtin "len") (rLenQ K) := h ▸ call_len_seq
theorem y_lenL {p : Addr} {ys : List V} (e : SqL K H p ys) (h : Q (.int ys.length) H) : rLenQ K [.ref p] H Q := ⟨p, ys, rfl, .inl e, h⟩
theorem y_lenT {p : Addr} {ys : List V} (e : SqT K H p ys) (h : Q (.int ys.length) H) : rLenQ K [.ref p] H Q := ⟨p, ys, rfl, .inr e, h⟩
def rLenS : List V → Hp → VK → Prop := fun xs H Q => ∃ z, xs = [.str z] ∧ z.length ≤ sizeLine ∧ Q (.int z.length) H
theorem c_lenS {X : Cx} : CallR X (.builtin "len") rLenS := call_len_str
theorem y_lenS {z : Str} (e : z.length ≤ 100000) (h : Q (.int z.length) H) : rLenS [.str z] H Q := ⟨z, rfl, Nat.le_trans e (by decide), h⟩
theorem y_reprB {k : Bool} (h : Q (.str (if k then "True" else "False")) H) : rReprB [.bl k] H Q := ⟨k, rfl, h⟩
theorem y_listS {z : Str} (e : z.cps.size ≤ 100000) (h : ∀ p, H p = none → Q (.ref p) (upd H p (.lst (chrs z)))) : rListS [.str z] H Q := ⟨z, rfl, e, h⟩
def rListQ (K : PySem.W.Frag) : List V → Hp → VK → Prop := fun xs H Q => ∃ p ys, xs = [.ref p] ∧ (SqL K H p ys ∨ SqT K H p ys) ∧ ∀ l, H l = none → Q (.ref l) (upd H l (.lst ys))
theorem c_listQ {X : Cx} {K : PySem.W.Frag} (h : X.K = K := by rfl) : CallR X (.type "list") (rListQ K) := h ▸ call_list_of
theorem y_listL {p : Addr} {ys : List V} (e : SqL K H p ys) (h : ∀ l, H l = none → Q (.ref l) (upd H l (.lst ys))) : rListQ K [.ref p] H Q := ⟨p, ys, rfl, .inl e, h⟩
theorem y_listT {p : Addr} {ys : List V} (e : SqT K H p ys) (h : ∀ l, H l = none → Q (.ref l) (upd H l (.lst ys))) : rListQ K [.ref p] H Q := ⟨p, ys, rfl, .inr e, h⟩
theorem y_ixL {p : Addr} {xs : List V} {i : Int} {v : V} (e : SqL K H p xs) (a : atI xs i = some v) (h : Q v H) : rIxL K (.ref p) (.int i) H Q := ⟨p, xs, i, v, rfl, rfl, e, a, h⟩
theorem y_setL {p : Addr} {xs : List V} {k : Int} {j : Nat} {v : V} {R : Hp → Prop} (e : H p = some (.lst xs)) (a : ixN xs.length k = some j) (h : R (upd H p (.lst (xs.set j v)))) : rSetL (.ref p) (.int k) v H R := ⟨p, xs, k, j, rfl, rfl, e, a, h⟩
theorem y_rng1 {t : TA} {R : It → Hp → Prop} (h : t σ H fun vs H1 => ∃ j : Int, vs = [.int j] ∧ -(2 ^ 62) ≤ j ∧ j < 2 ^ 62 ∧ R (Itr 0 j.toNat) H1) : iRng1 t σ H R := h
theorem y_iStr {R : It → Hp → Prop} (h : te σ H fun v H1 => ∃ x, v = .str x ∧ R (Its x) H1) : iStr te σ H R := h
theorem y_iList {R : It → Hp → Prop} (h : te σ H fun x H1 => ∃ a, x = .ref a ∧ (∃ xs, SqL K H1 a xs) ∧ R (Itl K a) H1) : iList K te σ H R := h
end

/-! ### a def that is called: where it stands, how its arguments bind, what it promises -/
structure Cal (P : Program) (w : World) (K : PySem.W.Frag) (mg : Str → Option Value) (base : Heap) (k : Nat) (x : Str) (ps : List Str) (sp : Sp) : Prop where
  ex : ∃ (f : Addr) (fd : FuncData), FnOk P w K mg base CX0 k f fd ps sp ∧ mg x = some (.ref f) ∧ PySem.W.keepIn K (.ref f) = true ∧ Binds K fd ps []
/-- its call: the arguments, then its promise -/
def tFn (sp : Sp) (t : TA) : TE := fun σ H Q => t σ H fun vs H1 => sp vs H1 Q E0
theorem y_fn {σ : L2.St} {H : Hp} {Q : VK} {sp : Sp} {t : TA} (h : t σ H fun vs H1 => sp vs H1 Q E0) : tFn sp t σ H Q := h
theorem pe_fn {X : Cx} {k : Nat} {x : Str} {ps : List Str} {sp : Sp} {p pos : Pos} {e : Expr} {es : List Expr} {t : TA} (c : Cal X.prog X.w X.K X.mg X.base k x ps sp) (hr : Room k X.A) (hg : Gl X x) (ha : PA X (e :: es) t) (hdb : (x == ("__debug__" : Str)) = false := by decide)
    (he : starEach (e :: es) X.env = (false, eval e X.env) :: starEach es X.env := by rfl) (hpl : (backTo pos (starEach es X.env)).any (·.1) = false := by rfl) : PE X (.Call (.Name x p) (e :: es) [] pos) (tFn sp t) := by
  obtain ⟨f, fd, F, hm, hk, hb⟩ := c.ex
  have h := pe_call (p := p) (pos := pos) F hr hg hm hk hb .nil pass0 ha hdb he hpl
  have e : tCall sp [] E0 t = tFn sp t := by
    funext σ H Q
    show t σ H (fun vs H1 => sp (vs ++ []) H1 Q E0) = t σ H fun vs H1 => sp vs H1 Q E0
    congr 1
    funext vs H1
    rw [List.append_nil]
  rw [← e]
  exact h
theorem pe_globI {X : Cx} {x : Str} {i : Int} {pos : Pos} (hg : Gl X x) (hm : ∃ t, X.mg x = some (.int i t)) (hd : (x == ("__debug__" : Str)) = false := by decide) : PE X (.Name x pos) (tC (.int i)) := by
  obtain ⟨t, e⟩ := hm
  exact pe_glob hg e ⟨t, rfl⟩ hd

/-! ### heaps: all that stands but d stands as before -/
def Fr (d : Addr) (H H' : Hp) : Prop := ∀ b o, H b = some o → b ≠ d → H' b = some o
theorem Fr.refl (d : Addr) (H : Hp) : Fr d H H := fun _ _ h _ => h
theorem Fr.trans {d : Addr} {H H1 H2 : Hp} (a : Fr d H H1) (b : Fr d H1 H2) : Fr d H H2 := fun x o h n => b x o (a x o h n) n
theorem Fr.self {d : Addr} {H : Hp} {o : HO} : Fr d H (upd H d o) := fun b u h n => by
  rw [upd_ne n]
  exact h
theorem Fr.new {d p : Addr} {H : Hp} {o : HO} (e : H p = none) : Fr d H (upd H p o) := fun b u h n => by
  rw [upd_ne (ne_of_none h e)]
  exact h
/-- an object that the first heap does not know may change -/
theorem Fr.mut {d p : Addr} {H H1 : Hp} {o : HO} (a : Fr d H H1) (e : H p = none) : Fr d H (upd H1 p o) := fun b u h n => by
  rw [upd_ne (ne_of_none h e)]
  exact a b u h n
theorem Fr.of_same {d : Addr} {H H' : Hp} (a : Same H H') : Fr d H H' := fun b o h _ => a b o h
theorem Fr.lst {d a : Addr} {H H' : Hp} {K : PySem.W.Frag} {xs : List V} (f : Fr d H H') (n : a ≠ d) (h : SqL K H a xs) : SqL K H' a xs := by
  rcases h with (h | ⟨o, h⟩) | h
  · exact .inl (.inl (f _ _ h n))
  · exact .inl (.inr ⟨o, f _ _ h n⟩)
  · exact .inr h
theorem Fr.tup {d a : Addr} {H H' : Hp} {K : PySem.W.Frag} {xs : List V} (f : Fr d H H') (n : a ≠ d) (h : SqT K H a xs) : SqT K H' a xs := by
  rcases h with (h | ⟨o, h⟩) | h
  · exact .inl (.inl (f _ _ h n))
  · exact .inl (.inr ⟨o, f _ _ h n⟩)
  · exact .inr h
/-- what was there ahead of d is there behind -/
theorem same_fr {H0 H H' : Hp} {d : Addr} (s : Same H0 H) (f : Fr d H H') (e : H0 d = none) : Same H0 H' := fun b o h => f b o (s b o h) (ne_of_none h e)
theorem same_new {H : Hp} {p : Addr} {o : HO} (h : H p = none) : Same H (upd H p o) := fun b x e => by
  rw [upd_ne (ne_of_none e h)]
  exact e
theorem same_mut {H H1 : Hp} {p : Addr} {o : HO} (a : Same H H1) (h : H p = none) : Same H (upd H1 p o) := fun b x e => by
  rw [upd_ne (ne_of_none e h)]
  exact a b x e
theorem free_fr {d p : Addr} {H H' : Hp} (f : Fr d H H') (e : H' p = none) (n : p ≠ d) : H p = none := by
  cases q : H p with
  | none => rfl
  | some o =>
    rw [f p o q n] at e
    cases e
theorem sql {K : PySem.W.Frag} {H : Hp} {a : Addr} {xs : List V} (h : H a = some (.lst xs)) : SqL K H a xs := .inl (.inl h)
theorem sqt {K : PySem.W.Frag} {H : Hp} {a : Addr} {xs : List V} (h : H a = some (.tup xs)) : SqT K H a xs := .inl (.inl h)
/-! ### the dice: a list of three numbers that stands at d -/
def DiceAt (H : Hp) (d : Addr) : Prop := ∃ g e c : Int, H d = some (.lst [.int g, .int e, .int c])
theorem DiceAt.new {H : Hp} {d p : Addr} {o : HO} (h : DiceAt H d) (e : H p = none) : DiceAt (upd H p o) d := by
  obtain ⟨g, x, c, h⟩ := h
  exact ⟨g, x, c, by rw [upd_ne (ne_of_none h e)]; exact h⟩
theorem DiceAt.mut {H : Hp} {d p : Addr} {o : HO} (h : DiceAt H d) (e : p ≠ d) : DiceAt (upd H p o) d := by
  obtain ⟨g, x, c, h⟩ := h
  exact ⟨g, x, c, by rw [upd_ne e.symm]; exact h⟩
theorem DiceAt.same {H H' : Hp} {d : Addr} (h : DiceAt H d) (s : Same H H') : DiceAt H' d := by
  obtain ⟨g, x, c, h⟩ := h
  exact ⟨g, x, c, s _ _ h⟩
theorem DiceAt.ne {H : Hp} {d p : Addr} (h : DiceAt H d) (e : H p = none) : p ≠ d := by
  obtain ⟨g, x, c, h⟩ := h
  exact fun z => by
    rw [z, h] at e
    cases e
def spDice (K : PySem.W.Frag) : Sp := fun vs H Q _ => ∃ (a : Addr) (i : Int) (ns : List Int), vs = [.ref a, .int i] ∧ SqL K H a (ns.map V.int) ∧ 0 ≤ i ∧ i ≤ 1000 ∧ ∀ d H', H d = none → DiceAt H' d → Same H H' → Q (.ref d) H'
def spRoll : Sp := fun vs H Q _ => ∃ (d : Addr) (t : Int), vs = [.ref d, .int t] ∧ DiceAt H d ∧ 0 < t ∧ t.natAbs < 2 ^ 4000 ∧ ∀ n H', 0 ≤ n → n < t → DiceAt H' d → Fr d H H' → Q (.int n) H'
def spPick (K : PySem.W.Frag) : Sp := fun vs H Q _ => ∃ (d l : Addr) (ys : List V), vs = [.ref d, .ref l] ∧ DiceAt H d ∧ SqL K H l ys ∧ l ≠ d ∧ 0 < ys.length ∧ ys.length ≤ 100000 ∧ ∀ v H', v ∈ ys → DiceAt H' d → Fr d H H' → Q v H'
theorem big_div {t : Int} (h : 0 < t) (b : t.natAbs < 2 ^ 4000) {i : Int} : CDivW i t := wide_div h b (by decide) (by decide)
theorem getD_at {α : Type} {l : List α} {n : Int} (h0 : 0 ≤ n) (h1 : n < l.length) : ∃ x, l[n.toNat]? = some x ∧ x ∈ l := by
  have hn : n.toNat < l.length := by omega
  exact ⟨l[n.toNat], by simp [hn], List.getElem_mem hn⟩
theorem at_nat {xs : List V} {n : Int} {v : V} (h0 : 0 ≤ n) (h : xs[n.toNat]? = some v) : atI xs n = some v := at_of (j := n.toNat) (by omega) h
/-- both ways of an if without else come together: J is what follows, for any state of the form F x -/
theorem y_join {α : Type} {σ : L2.St} {H : Hp} {k : Bool} {t : TS} {n b c : L2.St → Hp → Prop} {rt : VK} (F : α → L2.St) (x : α) (e : σ = F x) (hJ : ∀ x, n (F x) H) (h : k = true → (∀ x, n (F x) H) → t ⟨n, rt, b, c⟩ σ H) :
    if k = true then t ⟨n, rt, b, c⟩ σ H else tNext ⟨n, rt, b, c⟩ σ H := by
  cases k with
  | true => exact iteT (h rfl hJ)
  | false => exact iteF (show n σ H by rw [e]; exact hJ x)
theorem y_ite {k : Bool} {A B : Prop} (h1 : k = true → A) (h2 : k = false → B) : if k = true then A else B := by
  cases k with
  | true => exact iteT (h1 rfl)
  | false => exact iteF (h2 rfl)
/-! ### rules with the written part by its own name (a comprehension's block has it by another) -/
section
variable {X : Cx} {K : PySem.W.Frag}
theorem x_list (h : X.K = K := by rfl) : IxR X (rIxL K) := h ▸ ix_list
theorem x_tup (h : X.K = K := by rfl) : IxR X (rIxT K) := h ▸ ix_tup
theorem w_list {tg l : Expr} {tl : TE} (hl : PE X l tl) (h : X.K = K := by rfl) : PI X tg l (iList K tl) := h ▸ pi_list hl
theorem w_tup {tg l : Expr} {tl : TE} (hl : PE X l tl) (h : X.K = K := by rfl) : PI X tg l (iTup K tl) := h ▸ pi_tup hl
theorem c_isi (h : X.K = K := by rfl) : CallR X (.builtin "isinstance") (rIsi K) := h ▸ call_isi
theorem c_all (hc : X.calm = true) (h : X.K = K := by rfl) : CallR X (.builtin "all") (rAll K) := h ▸ cr_all hc
theorem o_eqD (hu : X.A.units + 64 < cLine) (h : X.K = K := by rfl) : OpR X (compareOp .Eq) (rEqD K) := h ▸ op_eqD hu
theorem o_neD (hu : X.A.units + 64 < cLine) (h : X.K = K := by rfl) : OpR X (compareOp .NotEq) (rNeD K) := h ▸ op_neD hu
theorem e_bm {o e : Expr} {es : List Expr} {to : TE} {t : TA} {name : Str} {apos cpos : Pos} {T id : String} {r : V → List V → Hp → VK → Prop} (pa : PlainAttrs T) (slot : Slot T name id) (hty : typeOf (.builtin id) = pure (.type "method_descriptor")) (hm : MtR X id r) (ho : PE X o to) (ha : PA X (e :: es) t) (h : X.K = K := by rfl)
    (hbase : attributeBase o name X.env (eval o X.env) = eval o X.env := by rfl)
    (hfew : ((backTo cpos (starEach (e :: es) X.env)).all (fun x => !x.1) && (backToKw cpos (keywordEach [] X.env)).all (fun x => x.1.isSome)
      && decide ((e :: es).length + ([] : List Keyword).length + (if ([] : List Keyword).isEmpty then 0 else 1) < 30)) = true := by rfl)
    (hline : (apos.endLine == cpos.line) = true := by rfl) (hs : starEach (e :: es) X.env = (false, eval e X.env) :: starEach es X.env := by rfl) (hplain : (backTo cpos (starEach es X.env)).any (·.1) = false := by rfl) :
    PE X (.Call (.Attribute o name apos) (e :: es) [] cpos) (tBM K T r to t) := h ▸ pe_bm pa slot hty hm ho ha hbase hfew hline hs hplain
theorem y_bm {σ : L2.St} {H : Hp} {Q : VK} {T : String} {r : V → List V → Hp → VK → Prop} {to : TE} {t : TA} (h : to σ H fun x H1 => tyV K T x H1 ∧ t σ H1 fun xs H2 => r x xs H2 Q) : tBM K T r to t σ H Q := h
theorem y_m1 {σ : L2.St} {H : Hp} {Q : VK} {r : V → List V → Hp → VK → Prop} {to te : TE} (h : to σ H fun x H1 => (∃ a, x = .str a) ∧ te σ H1 fun y H2 => r x [y] H2 Q) : tM1 r to te σ H Q := h
theorem ty_l {H : Hp} {p : Addr} {xs : List V} (h : H p = some (.lst xs)) : tyV K "list" (.ref p) H := .inl ⟨rfl, _, .inl (.inl h)⟩
end
theorem y_lc {σ : L2.St} {H : Hp} {Q : VK} {wi : TI} {g : TG} {tt : TT} {te : TE} {vs : List Nat} (h : wi σ H fun J H1 => ∀ D, H1 D = none → ∃ W : Nat → Nat → Hp → Prop, (∃ m, W 0 m (upd H1 D (.lst []))) ∧ ∀ i m H, W i m H →
  (J.stop i H ∧ Q (.ref D) H) ∨ (J.go i H ∧ ∃ Nx : Hp → Prop, (∀ H', Nx H' → ∃ m', m' < m ∧ W (i + 1) m' H') ∧ ∀ x H', J.yld i H x H' → g x (wipe σ vs) H' fun σ2 H2 => wipe σ2 vs = wipe σ vs ∧ tt σ2 H2 fun b H3 =>
    if b = true then te σ2 H3 fun y H4 => ∃ acc, H4 D = some (.lst acc) ∧ acc.length < sizeLine ∧ Nx (upd H4 D (.lst (acc ++ [y]))) else Nx H3)) : tLc wi g tt te vs σ H Q := h
theorem ix_seq {i : Int} {n : Nat} (h0 : 0 ≤ i) (h1 : i < n) : seqIndex? i n = some i.toNat := by
  unfold seqIndex?
  have e : ¬ i < 0 := by omega
  simp [e, h0, h1]
theorem big_of {t : Int} (h : t.natAbs ≤ 1000000) : t.natAbs < 2 ^ 4000 := Nat.lt_of_le_of_lt h (by decide +kernel)
theorem sz_le {n : Nat} (h : n ≤ 100000) : n ≤ sizeLine := Nat.le_trans h (by decide)
theorem sz_lt {n : Nat} (h : n < 100000) : n < sizeLine := Nat.lt_of_lt_of_le h (by decide)
theorem y_isi {H : Hp} {Q : VK} {K : PySem.W.Frag} {x : V} {t : Value} {T : String} {k : Bool} (ty : TyX K H x t) (e : PySem.W.kitOne K t (.type T) = some k) (h : Q (.bl k) H) : rIsi K [x, .ty T] H Q := ⟨x, .ty T, t, .type T, k, rfl, .ty T, ty, e, h⟩
/-! ### join of texts -/
def rJoin (K : PySem.W.Frag) : V → List V → Hp → VK → Prop := fun x xs H Q => ∃ a p, ∃ ys : List Str, x = .str a ∧ xs = [.ref p] ∧ (SqL K H p (ys.map V.str) ∨ SqT K H p (ys.map V.str)) ∧ (ys.map (·.length)).sum + ys.length * a.length ≤ 16777216 ∧ Q (.str (Txt.join a ys)) H
theorem e_join {X : Cx} {K : PySem.W.Frag} {o e : Expr} {to te : TE} {apos pos : Pos} (ho : PE X o to) (he : PE X e te) (h : X.K = K := by rfl) (hs : starEach [e] X.env = [(false, eval e X.env)] := by rfl) (hbase : attributeBase o "join" X.env (eval o X.env) = eval o X.env := by rfl) (hline : (apos.endLine == pos.line) = true := by rfl) :
    PE X (.Call (.Attribute o "join" apos) [e] [] pos) (tM1 (rJoin K) to te) := by
  subst h
  exact pe_join ho he hs hbase hline
theorem tl_flat : ∀ ps : List (List Nat), TL.joinL [] ps = ps.flatten
  | [] => rfl
  | [p] => by simp [TL.joinL]
  | p :: q :: r => by
    show p ++ ([] ++ TL.joinL [] (q :: r)) = _
    rw [tl_flat (q :: r), List.nil_append]
    rfl
theorem join_nil (ys : List Str) : (Txt.join "" ys).cps.toList = (ys.map fun y => y.cps.toList).flatten := by
  have e : Txt.join "" ys = Str.join "" ys := StrLaws.glued_eq_join "" ys
  rw [e]
  have h := TL.tl_join "" ys
  have z : TL.tl "" = [] := by decide +kernel
  rw [z, tl_flat] at h
  exact h
theorem y_t {k : Bool} {A B : Prop} (e : k = true) (h : A) : if k = true then A else B := by
  rw [e]
  exact iteT h
theorem y_f {k : Bool} {A B : Prop} (e : k = false) (h : B) : if k = true then A else B := by
  rw [e]
  exact iteF h
/-- a for over a range, what stands behind it told part by part -/
theorem y_forR {lo : Int} {m : Nat} {g : TG} {t : TS} {n b c : L2.St → Hp → Prop} {rt : VK} {σ : L2.St} {H : Hp} (Pv : Nat → L2.St → Hp → Prop) (h0 : Pv 0 σ H)
    (hs : ∀ i σ H, i < m → Pv i σ H → g (.int (lo + i)) σ H fun σ2 H2 => t ⟨Pv (i + 1), rt, n, Pv (i + 1)⟩ σ2 H2) (hd : ∀ σ H, Pv m σ H → n σ H) :
    ∃ W : Nat → Nat → L2.St → Hp → Prop, (∃ m, W 0 m σ H) ∧ ∀ i k σ H, W i k σ H →
      ((Itr lo m).stop i H ∧ n σ H) ∨ ((Itr lo m).go i H ∧ ∃ N : L2.St → Hp → Prop, (∀ σ' H', N σ' H' → ∃ m', m' < k ∧ W (i + 1) m' σ' H') ∧ ∀ x H', (Itr lo m).yld i H x H' → g x σ H' fun σ2 H2 => t ⟨N, rt, n, N⟩ σ2 H2) :=
  for_range (D := ⟨n, rt, b, c⟩) Pv h0 hs hd
theorem y_rU {g : Int → V} {i : Int} {H : Hp} {Q : VK} (h : Q (g i) H) : rU g (.int i) H Q := ⟨i, rfl, h⟩
theorem y_ixT {p : Addr} {xs : List V} {i : Int} {v : V} {H : Hp} {Q : VK} {K : PySem.W.Frag} (e : SqT K H p xs) (a : atI xs i = some v) (h : Q v H) : rIxT K (.ref p) (.int i) H Q := ⟨p, xs, i, v, rfl, rfl, e, a, h⟩
/-- x = e; rest: the rest once, for all that P says of the value -/
theorem y_seqAsg {te : TE} {i : Nat} {u : TS} {n b c : L2.St → Hp → Prop} {rt : VK} {σ : L2.St} {H : Hp} (P : V → Hp → Prop) (rest : ∀ v H1, P v H1 → u ⟨n, rt, b, c⟩ (σ.set i (some v)) H1)
    (h : (∀ v H1, P v H1 → u ⟨n, rt, b, c⟩ (σ.set i (some v)) H1) → te σ H (fun v H1 => u ⟨n, rt, b, c⟩ (σ.set i (some v)) H1)) : tSeq (tAsg te (gName i)) u ⟨n, rt, b, c⟩ σ H := h rest
end Ow
/-! Operators upon instances of the text's own classes: the special method's promise. -/
namespace Ow
open PySem PySem.Spec PyProof.Rows L2
section
variable {X : Cx} {CX : CXT} {k : Nat} {C f : Addr} {fd : FuncData} {ps : List Str} {sp : Sp} {E : XK}
/-- a def called from within a built-in, with room -/
theorem run_sub {A : Around} {pins : List (Addr × Obj)} {s : Shared} {σ : L2.St} {H : Hp} {Q : VK} {us : List Value} {vs : List V} (F : FnOk X.prog X.w X.K X.mg X.base CX k f fd ps sp) (sb : Sub X k A) (hb : Binds X.K fd ps []) (hx : Passes CX X E)
    (I : Inv X pins σ H s) (r : Vals vs us) (h : sp vs H Q E) : wpAny (model X.prog X.w) A (call (.ref f) us) (EP X pins σ Q) X.xe s := by
  have e0 : Env0 X.prog X.w X.K X.mg X.base A X.stack s H := by
    have e := I.env0
    exact ⟨by rw [sb.fr]; exact e.frames, e.mod, e.bs, e.bsz, e.funs, e.frf, e.hok, e.bare⟩
  have hl := F.len _ _ _ _ h
  have hl2 : us.length = ps.length := by rw [← r.length]; exact hl
  refine wpAny_call (codeAny_mono (F.run A X.stack s H ⟨us, []⟩ us vs Q E sb.room e0 (by
    have := hb s us I.kIn (by simpa using hl2)
    simpa using this) r h) fun r s' hq => ?_)
  cases r with
  | error e => exact hx pins σ H s e s' I hq
  | ok fl =>
    cases fl with
    | ret w =>
      obtain ⟨z, H', I', rz, q⟩ := I.after hq
      exact ⟨z, H', I', rz, q⟩
    | next => exact False.elim hq
    | brk => exact False.elim hq
    | cont => exact False.elim hq
theorem sub_here (hr : Room k X.A) : Sub X k X.A := ⟨hr, rfl⟩
theorem back_of {Q : Value → Shared → Prop} {z : V} {v : Value} {s' : Shared} (r : RelV z v) (h : Q v s') : PySem.W.CmpBack Q v s' := by
  cases v with
  | notImplemented =>
    exfalso
    cases z <;> first
      | (cases (show Value.notImplemented = _ from r); done)
      | (obtain ⟨t, e⟩ := (show ∃ t, Value.notImplemented = _ from r); cases e)
  | _ => exact h
/-- the class (or one above it) has the name as the def at f -/
structure Spc (K : PySem.W.Frag) (C : Addr) (m : Str) (f : Addr) : Prop where
  at_ : PySem.W.findIn K (.ref C) m = some (some (.ref f))
  fn : PySem.W.isFn K (.ref f) = true
/-- both operands instances of the class -/
def rOwn2 (C : Addr) (sp : Sp) : R2 := fun x y H Q => ∃ a b dx dy fs gs, x = .ref a ∧ y = .ref b ∧ H a = some (.ins C dx fs) ∧ H b = some (.ins C dy gs) ∧ sp [.ref a, .ref b] H Q E0
/-- the right operand an int -/
def rOwnI (C : Addr) (sp : Sp) : R2 := fun x y H Q => ∃ a dx fs i, x = .ref a ∧ y = .int i ∧ H a = some (.ins C dx fs) ∧ sp [.ref a, .int i] H Q E0
def rOwn1 (C : Addr) (sp : Sp) : V → Hp → VK → Prop := fun x H Q => ∃ a dx fs, x = .ref a ∧ H a = some (.ins C dx fs) ∧ sp [.ref a] H Q E0
theorem inst_at {pins : List (Addr × Obj)} {s : Shared} {σ : L2.St} {H : Hp} {a dx : Addr} {fs : List (Str × V)} (I : Inv X pins σ H s) (ha : H a = some (.ins C dx fs)) : ∃ ox od, PySem.W.InstAt s.heap a ox C (some od) := by
  obtain ⟨mA, J, _⟩ := ins_get I.hok ha
  obtain ⟨od, J, _⟩ := J.look
  exact ⟨_, _, J⟩
theorem o_own2 {op : Operator} (F : FnOk X.prog X.w X.K X.mg X.base CX0 k f fd ps sp) (hr : Room k X.A) (hb : Binds X.K fd ps []) (hc : PySem.W.selfFirst X.K C = true) (M : Spc X.K C (PySem.dunder op.info.2) f) : OpR X (binaryOp op) (rOwn2 C sp) := by
  intro pins s σ H x y v u Q I rx ry h
  obtain ⟨a, b, dx, dy, fs, gs, rfl, rfl, ha, hb', hs⟩ := h
  cases rx
  cases ry
  obtain ⟨ox, od, J⟩ := inst_at I ha
  obtain ⟨oy, oe, J'⟩ := inst_at I hb'
  obtain ⟨m, hF⟩ := I.fr
  refine PySem.W.binop_K hF I.ok.mod.kin J J'.type hc M.at_ M.fn ?_
  refine wpAny_mono (run_sub (vs := [.ref a, .ref b]) F (sub_here hr) hb pass0 I (.cons rfl (.cons rfl .nil)) hs) (fun v s' hv => ?_) fun _ _ e => e
  obtain ⟨z, H', I', rz, q⟩ := hv
  exact back_of rz ⟨z, H', I', rz, q⟩
/-- what is asked of int and the class, for an operator -/
structure IntSide (K : PySem.W.Frag) (C : Addr) (nm : String) : Prop where
  hr : PySem.W.findIn K (.ref C) (dunderR nm) = some none
  h1 : ∃ fo, PySem.W.findIn K (.type "int") (PySem.dunder nm) = some fo
  h2 : ∃ ro, PySem.W.findIn K (.type "int") (dunderR nm) = some ro
  sub : PySem.W.subIn K (.type "int") (.ref C) = some false
theorem o_ownI {op : Operator} (F : FnOk X.prog X.w X.K X.mg X.base CX0 k f fd ps sp) (hr : Room k X.A) (hb : Binds X.K fd ps []) (hc : PySem.W.selfFirst X.K C = true) (M : Spc X.K C (PySem.dunder op.info.2) f) (S : IntSide X.K C op.info.2) : OpR X (binaryOp op) (rOwnI C sp) := by
  intro pins s σ H x y v u Q I rx ry h
  obtain ⟨a, dx, fs, i, rfl, rfl, ha, hs⟩ := h
  cases rx
  obtain ⟨t, rfl⟩ := (show ∃ t, u = Value.int i t from ry)
  obtain ⟨ox, od, J⟩ := inst_at I ha
  obtain ⟨m, hF⟩ := I.fr
  obtain ⟨fo, h1⟩ := S.h1
  obtain ⟨ro, h2⟩ := S.h2
  refine PySem.W.ksp_binT (T := "int") hF I.ok.mod.kin J rfl hc M.at_ M.fn S.hr (.inl rfl) h1 h2 S.sub ?_
  refine wpAny_mono (run_sub (vs := [.ref a, .int i]) F (sub_here hr) hb pass0 I (.cons rfl (.cons ⟨t, rfl⟩ .nil)) hs) (fun v s' hv => ?_) fun _ _ e => e
  obtain ⟨z, H', I', rz, q⟩ := hv
  exact back_of rz ⟨z, H', I', rz, q⟩
theorem o_ownNeg (F : FnOk X.prog X.w X.K X.mg X.base CX0 k f fd ps sp) (hr : Room k X.A) (hb : Binds X.K fd ps []) (M : Spc X.K C "__neg__" f) : UnR X (unaryOp .USub) (rOwn1 C sp) := by
  intro pins s σ H x v Q I rx h
  obtain ⟨a, dx, fs, rfl, ha, hs⟩ := h
  cases rx
  obtain ⟨ox, od, J⟩ := inst_at I ha
  obtain ⟨m, hF⟩ := I.fr
  exact PySem.W.ksp_neg hF I.ok.mod.kin J M.at_ M.fn (run_sub (vs := [.ref a]) F (sub_here hr) hb pass0 I (.cons rfl .nil) hs)
/-- a == b, a an instance, b any value whose type is told and is first in nothing -/
def rOwnEq (C : Addr) (sp : Sp) : R2 := fun x y H Q => ∃ a b dx dy fs gs, x = .ref a ∧ y = .ref b ∧ H a = some (.ins C dx fs) ∧ H b = some (.ins C dy gs) ∧ sp [.ref a, .ref b] H Q E0
theorem o_ownEq (F : FnOk X.prog X.w X.K X.mg X.base CX0 k f fd ps sp) (hr : Room k X.A) (hb : Binds X.K fd ps []) (M : Spc X.K C "__eq__" f) : OpR X (compareOp .Eq) (rOwn2 C sp) := by
  intro pins s σ H x y v u Q I rx ry h
  obtain ⟨a, b, dx, dy, fs, gs, rfl, rfl, ha, hb', hs⟩ := h
  cases rx
  cases ry
  obtain ⟨ox, od, J⟩ := inst_at I ha
  obtain ⟨oy, oe, J'⟩ := inst_at I hb'
  obtain ⟨m, hF⟩ := I.fr
  show wpAny _ _ (richCompare .Eq (.ref a) (.ref b)) _ _ _
  refine PySem.W.cmp_K (op := .Eq) (tb := .ref C) hr.units0 hF I.ok.mod.kin J J'.type (by simp [PySem.W.notFirst]) M.at_ M.fn ?_
  refine wpAny_mono (run_sub (vs := [.ref a, .ref b]) F (sub_here hr) hb pass0 I (.cons rfl (.cons rfl .nil)) hs) (fun v s' hv => ?_) fun _ _ e => e
  obtain ⟨z, H', I', rz, q⟩ := hv
  exact back_of rz ⟨z, H', I', rz, q⟩
/-- a special method that is a built-in -/
theorem ifBound_B {M : Model} {A : Around} {E : Value → Shared → Prop} {s : Shared} {K : PySem.W.Frag} {x C : Addr} {ox : Obj} {od : Option Obj} {name : Str} {id : String} {args : List Value} {Q : Option Value → Shared → Prop} (Y : K.In s.heap) (I : PySem.W.InstAt s.heap x ox C od) (hs : PySem.W.findIn K (.ref C) name = some (some (.builtin id)))
    (hb : ∀ self, bindSpecial (.builtin id) self = pure (.builtin id, [self])) (h : wpAny M A (call (.builtin id) (.ref x :: args)) (fun v => Q (some v)) E s) : wpAny M A (callSpecialIfBound? (.ref x) name args) Q E s := by
  simp only [callSpecialIfBound?, bindSpecialIfBound?]
  refine wpAny_holding (wpAny_bind (wpAny_bind (wpAny_bind (I.type.here ((PySem.W.looks_findIn Y hs).here ?_)))))
  refine wpAny_bind (wpAny_askSetting (wpAny_ite ?_))
  have fin : wpAny M A (call (.builtin id) ([.ref x] ++ args) >>= fun v => pure (some v)) Q E s := wpAny_bind (wpAny_mono h (fun v s' h' => wpAny_pure h') fun _ _ h' => h')
  split
  · exact wpAny_bind ((PySem.W.Looks.of_pure (hb _)).here (wpAny_pure (by exact fin)))
  · exact wpAny_tryCatch (wpAny_bind ((PySem.W.Looks.of_pure (hb _)).here (wpAny_pure (by exact fin))))
/-- != by object's own: the own == turned; what the promise gives is a truth value -/
def rOwnNe (C : Addr) (sp : Sp) : R2 := fun x y H Q => ∃ a b dx dy fs gs, x = .ref a ∧ y = .ref b ∧ H a = some (.ins C dx fs) ∧ H b = some (.ins C dy gs) ∧ sp [.ref a, .ref b] H (fun v H' => ∃ t, v = .bl t ∧ Q (.bl (!t)) H') E0
theorem o_ownNe (F : FnOk X.prog X.w X.K X.mg X.base CX0 k f fd ps sp) (hr : Room (k + 1) X.A) (hb : Binds X.K fd ps []) (M : Spc X.K C "__eq__" f) (hn : PySem.W.findIn X.K (.ref C) "__ne__" = some (some (.builtin "object.__ne__"))) (hm : PySem.W.mroIn X.K C (.type "object") = some true) :
    OpR X (compareOp .NotEq) (rOwnNe C sp) := by
  intro pins s σ H x y v u Q I rx ry h
  obtain ⟨a, b, dx, dy, fs, gs, rfl, rfl, ha, hb', hs⟩ := h
  cases rx
  cases ry
  obtain ⟨ox, od, J⟩ := inst_at I ha
  obtain ⟨oy, oe, J'⟩ := inst_at I hb'
  show wpAny _ _ (richCompare .NotEq (.ref a) (.ref b)) _ _ _
  have hu : X.A.units < cLine := hr.units0
  have hu1 : X.A.in1.units < cLine := hr.in1.units0
  have one : wpAny (model X.prog X.w) X.A (tryCompare (.ref a) "__ne__" (.ref b)) (fun r s' => ∃ v, r = some v ∧ EP X pins σ Q v s') X.xe s := by
    unfold tryCompare
    refine wpAny_bind (ifBound_B I.kIn J hn PySem.F.slot_object_ne.bind ?_)
    refine wpAny_call (codeAny_call_builtin PySem.F.slot_object_ne.plain PySem.F.cmpEntry_ne (PySem.W.check_slot (i := "object.__ne__") (owner := "object") (n := "__ne__") PySem.F.cmpKind_ne PySem.F.cmpSplit_ne (J.type.andThen (PySem.W.looks_mroIn I.kIn hm)) (PySem.F.cmpArgs_ne _ _) ?_))
    unfold Builtin.«object.__ne__»
    refine wpAny_bind (m := slotArgs "__ne__" 1 _) (wpAny_pure ?_)
    refine wpAny_bind (m := cRoomFor _ _) (wpAny_cRoomFor hu1 ?_)
    refine wpAny_bind (m := callSpecialIfBound? (.ref a) (Str.ofString "__eq__") _) (PySem.W.ifBound_K I.kIn J M.at_ M.fn (wpAny_mono (run_sub (vs := [.ref a, .ref b]) F (sub_here hr).in1 hb pass0 I (.cons rfl (.cons rfl .nil)) hs) (fun v s' hv => ?_) fun _ _ e => e))
    obtain ⟨z, H', I', rz, t, rfl, q⟩ := hv
    cases (show v = Value.bool t from rz)
    refine wpAny_bind (wpAny_truthy_bool ?_)
    first
      | exact wpAny_pure (wpAny_pure ⟨_, rfl, .bl (!t), H', I', rfl, q⟩)
      | (show wpAny _ _ (ret (Value.bool !t)) _ _ _; exact wpAny_pure (wpAny_pure ⟨_, rfl, .bl (!t), H', I', rfl, q⟩))
      | (refine wpAny_bind (wpAny_pure ?_); exact wpAny_pure (wpAny_pure ⟨_, rfl, .bl (!t), H', I', rfl, q⟩))
  unfold richCompare
  simp only [oneThing_ref]
  refine wpAny_holding (wpAny_bind (wpAny_cRoomFor hu ?_))
  refine wpAny_bind (J.type.here (wpAny_bind (J'.type.here ?_)))
  rw [show (Value.ref C != Value.ref C) = false from by simp]
  simp only [Bool.false_eq_true, if_false]
  refine wpAny_bind (wpAny_pure ?_)
  simp only [Bool.false_eq_true, if_false]
  refine wpAny_bind (wpAny_mono one (fun r s' z => ?_) fun _ _ e => e)
  obtain ⟨v, rfl, hq⟩ := z
  exact wpAny_pure hq
end
section
variable {X : Cx} {C : Addr} {K : PySem.W.Frag}
/-- o.f as a target among others -/
def gFld (K : PySem.W.Frag) (to : TE) (f : Str) : TG := fun v σ H Q => to σ H fun x H1 => ∃ a C dx fs, x = .ref a ∧ H1 a = some (.ins C dx fs) ∧ Cls K C ∧ NoAttr K C f ∧ fs.length < 1000 ∧ Q σ (upd H1 a (.ins C dx (putF f v fs)))
theorem pg_fld {o : Expr} {to : TE} {f : Str} {pos : Pos} (ho : PE X o to) (hk : X.K = K := by rfl) : PG X (.Attribute o f pos) (gFld K to f) := by
  subst hk
  refine ⟨fun pins s σ H v u Q I r h => ?_⟩
  rw [assign_Attribute]
  refine wpAny_bind (wpAny_holding (thn (ho.run pins s σ H _ I h) fun ov s1 ⟨x, H1, I1, r1, a, C, dx, fs, ex, ea, c, n, l, q⟩ => ?_))
  subst ex
  obtain rfl : ov = Value.ref a := r1
  refine wpAny_bind (wpAny_standAt (wpAny_bind (wpAny_holding (setattr_ok I1 ea c n l r fun s2 I2 => ?_))))
  exact wpAny_release ⟨σ, _, I2, q⟩
/-- an instance of the class that a local name holds: cls(..) within a classmethod -/
def tMakeL (i : Nat) (C : Addr) (sp : Sp) (t : TA) : TE := fun σ H Q => σ[i]? = some (some (.ref C)) ∧ t σ H fun vs H1 => ∀ x dx, H1 x = none → H1 dx = none → dx ≠ x →
  sp (.ref x :: vs) (upd (upd H1 dx (.own x)) x (.ins C dx [])) (fun v H2 => v = .non ∧ Q (.ref x) H2) E0
theorem pe_makeL {k i : Nat} {f : Addr} {fd : FuncData} {ps : List Str} {sp : Sp} {x : Str} {p pos : Pos} {e : Expr} {es : List Expr} {t : TA} (M : Mk X.K C f) (F : FnOk X.prog X.w X.K X.mg X.base CX0 k f fd ps sp) (hr : Room (k + 1) X.A) (hN : X.N[i]? = some x) (hv : Vis X.env.scope x) (hb : Binds X.K fd ps [])
    (ha : PA X (e :: es) t) (hdb : (x == ("__debug__" : Str)) = false := by decide) (hcd : (x == ("__classdict__" : Str)) = false := by decide)
    (he : starEach (e :: es) X.env = (false, eval e X.env) :: starEach es X.env := by rfl) (hpl : (backTo pos (starEach es X.env)).any (·.1) = false := by rfl) :
    PE X (.Call (.Name x p) (e :: es) [] pos) (tMakeL i C sp t) := by
  refine ⟨fun pins s σ H Q I h => ?_⟩
  obtain ⟨hs, ht⟩ := h
  refine wpAny_Call_Name_kw (thn ((pe_var (pos := p) hN hv hdb hcd).run pins s σ H (fun v H1 => v = .ref C ∧ H1 = H) I ⟨.ref C, hs, rfl, rfl⟩) fun u s1 ⟨v, H1, I1, r1, q1⟩ => ?_)
  obtain ⟨rfl, rfl⟩ := q1
  cases r1
  refine PySem.W.callWith_K (h₀ := X.base) I.ok.mod.kin M.kp (thn (ha.run pos pins s1 σ _ _ I1 ht) fun us s2 ⟨vs, H2, I2, r, q⟩ => ⟨I2.kIn, ?_⟩) he hpl
  exact run_make M F hr hb .nil pass0 I2 r (by
    intro x dx h1 h2 h3
    have := q x dx h1 h2 h3
    rw [List.append_nil]
    exact this)
end
end Ow
/-! Facts of the text's own classes, told by the head as one Bool. -/
namespace Ow
open PySem PySem.Spec PyProof.Rows L2
/-- o.m(e, ..): the method's promise -/
structure Mth (P : Program) (w : World) (K : PySem.W.Frag) (mg : Str → Option Value) (base : Heap) (k : Nat) (C : Addr) (m : Str) (ps : List Str) (sp : Sp) : Prop where
  ex : ∃ (f : Addr) (fd : FuncData), FnOk P w K mg base CX0 k f fd ps sp ∧ Meth K C m f ∧ Binds K fd ps []
/-- e.m, a property: the getter's promise -/
structure Prp (P : Program) (w : World) (K : PySem.W.Frag) (mg : Str → Option Value) (base : Heap) (k : Nat) (C : Addr) (m : Str) (sp : Sp) : Prop where
  ex : ∃ (p g : Addr) (fd : FuncData), FnOk P w K mg base CX0 k g fd ["self"] sp ∧ PropOf K C m p g ∧ Binds K fd ["self"] []
/-- C.m(e, ..), a classmethod -/
structure Cmt (P : Program) (w : World) (K : PySem.W.Frag) (mg : Str → Option Value) (base : Heap) (k : Nat) (C : Addr) (m : Str) (sp : Sp) : Prop where
  ex : ∃ (p g : Addr), ClX.CMet K C (.type "type") m p g ∧ ClX.CRead K C (.type "type") ∧ FnR P w K mg base CX0 k g sp
/-- C(e, ..): __init__'s promise; n: how many arguments are given, dv: those that fill up -/
structure Mkr (P : Program) (w : World) (K : PySem.W.Frag) (mg : Str → Option Value) (base : Heap) (k : Nat) (x : Str) (C : Addr) (sp : Sp) (dvs : List V) : Prop where
  ex : ∃ (f : Addr) (fd : FuncData) (ps : List Str) (ds : List Value), FnOk P w K mg base CX0 k f fd ps sp ∧ Mk K C f ∧ mg x = some (.ref C) ∧ Binds K fd ps ds ∧ Vals dvs ds
section
variable {X : Cx} {C : Addr} {k : Nat} {m x : Str} {ps : List Str} {sp : Sp} {dvs : List V} {o e : Expr} {es : List Expr} {to ta : TE} {t : TA} {pos apos p : Pos}
def tMth (C : Addr) (m : Str) (sp : Sp) (to : TE) (t : TA) : TE := fun σ H Q => to σ H fun x H1 => ∃ a dx fs, x = .ref a ∧ H1 a = some (.ins C dx fs) ∧ fs.lookup m = none ∧ t σ H1 fun vs H2 => sp (x :: vs) H2 Q E0
theorem e_mth {pl : Sem Bool} (c : Mth X.prog X.w X.K X.mg X.base k C m ps sp) (T : Cls X.K C) (hr : Room k X.A) (ho : PE X o to) (ha : PA X (e :: es) t)
    (hst : starEach (e :: es) X.env = (false, eval e X.env) :: starEach es X.env := by rfl) (hpl : (backTo pos (starEach es X.env)).any (·.1) = false := by rfl)
    (ht : eval (.Call (.Attribute o m apos) (e :: es) [] pos) X.env = (do
      let ov ← eval o X.env
      standAt apos.atName; let (f, first) ← holding [ov] (getMethod ov m pl); callWith pos f first (backTo pos (starEach (e :: es) X.env)) (backToKw pos (keywordEach [] X.env))) := by rfl) :
    PE X (.Call (.Attribute o m apos) (e :: es) [] pos) (tMth C m sp to t) := by
  obtain ⟨f, fd, F, hm, hb⟩ := c.ex
  have h := pe_meth (apos := apos) (pos := pos) (pl := pl) ho T hm F hr hb .nil pass0 ha hst hpl ht
  have e1 : tMeth C m sp [] E0 to t = tMth C m sp to t := by
    funext σ H Q
    show to σ H (fun x H1 => ∃ a dx fs, x = .ref a ∧ H1 a = some (.ins C dx fs) ∧ fs.lookup m = none ∧ t σ H1 fun vs H2 => sp (x :: (vs ++ [])) H2 Q E0) = to σ H (fun x H1 => ∃ a dx fs, x = .ref a ∧ H1 a = some (.ins C dx fs) ∧ fs.lookup m = none ∧ t σ H1 fun vs H2 => sp (x :: vs) H2 Q E0)
    simp only [List.append_nil]
  rw [← e1]
  exact h
def tPrp (C : Addr) (sp : Sp) (ta : TE) : TE := fun σ H Q => ta σ H fun x H1 => ∃ a dx fs, x = .ref a ∧ H1 a = some (.ins C dx fs) ∧ sp [.ref a] H1 Q E0
theorem e_prp (c : Prp X.prog X.w X.K X.mg X.base k C m sp) (T : Cls X.K C) (hr : Room (k + 1) X.A) (he : PE X e ta) (hab : attributeBase e m X.env (eval e X.env) = eval e X.env := by rfl) : PE X (.Attribute e m pos) (tPrp C sp ta) := by
  obtain ⟨p, g, fd, F, hp, hb⟩ := c.ex
  exact pe_prop he T hp F hr hb .nil pass0 hab
def tCmt (C : Addr) (sp : Sp) (ta : TE) (t : TA) : TE := fun σ H Q => ta σ H fun x H1 => x = .ref C ∧ t σ H1 fun vs H2 => sp (.ref C :: vs) H2 Q E0
theorem e_cmt {pl : Sem Bool} (c : Cmt X.prog X.w X.K X.mg X.base k C m sp) (hr : Room k X.A) (ho : PE X o ta) (ha : PA X (e :: es) t)
    (hst : starEach (e :: es) X.env = (false, eval e X.env) :: starEach es X.env := by rfl) (hpl : (backTo pos (starEach es X.env)).any (·.1) = false := by rfl)
    (ht : eval (.Call (.Attribute o m apos) (e :: es) [] pos) X.env = (do
      let ov ← eval o X.env
      standAt apos.atName; let (f, first) ← holding [ov] (getMethod ov m pl); callWith pos f first (backTo pos (starEach (e :: es) X.env)) (backToKw pos (keywordEach [] X.env))) := by rfl) :
    PE X (.Call (.Attribute o m apos) (e :: es) [] pos) (tCmt C sp ta t) := by
  obtain ⟨p, g, hc, hrd, F⟩ := c.ex
  exact ClX.pe_cmeth (pl := pl) ho hrd hc F hr pass0 ha hst hpl ht
def tMkr (C : Addr) (sp : Sp) (dvs : List V) (t : TA) : TE := fun σ H Q => t σ H fun vs H1 => ∀ x dx, H1 x = none → H1 dx = none → dx ≠ x → sp (.ref x :: (vs ++ dvs)) (upd (upd H1 dx (.own x)) x (.ins C dx [])) (fun v H2 => v = .non ∧ Q (.ref x) H2) E0
theorem e_mkr (c : Mkr X.prog X.w X.K X.mg X.base k x C sp dvs) (hr : Room (k + 1) X.A) (hg : Gl X x) (ha : PA X (e :: es) t)
    (hdb : (x == ("__debug__" : Str)) = false := by decide) (he : starEach (e :: es) X.env = (false, eval e X.env) :: starEach es X.env := by rfl) (hpl : (backTo pos (starEach es X.env)).any (·.1) = false := by rfl) :
    PE X (.Call (.Name x p) (e :: es) [] pos) (tMkr C sp dvs t) := by
  obtain ⟨f, fd, ps, ds, F, M, hm, hb, hd⟩ := c.ex
  exact pe_make M F hr hg hm hb hd pass0 ha hdb he hpl
end
section
variable {X : Cx} {K : PySem.W.Frag} {C : Addr} {k : Nat} {nm x : Str} {ps : List Str} {sp : Sp} {e o : Expr} {es : List Expr} {ta : TE} {t : TA} {pos apos p : Pos}
theorem e_fld {f : Str} (he : PE X e ta) (h : X.K = K := by rfl) (hab : attributeBase e f X.env (eval e X.env) = eval e X.env := by rfl) : PE X (.Attribute e f pos) (tFld K ta f) := by
  subst h
  exact pe_fld he hab
theorem g_tup {es : List Expr} {n : Nat} {t : TGs} {j : Nat} (hc : X.calm = true) (h : PGs X es t) (hk : X.K = K := by rfl)
    (hn : (assignEach es X.env).length = n := by rfl) (hst : (assignEach es X.env).findIdx? (·.1) = none := by rfl) : PG X (.Tuple es j pos) (gTup K n t) := by
  subst hk
  exact pg_tup hc h hn hst
/-- cls(e, ..) -/
theorem e_mkl {i : Nat} {y : Str} (c : Mkr X.prog X.w X.K X.mg X.base k x C sp []) (hr : Room (k + 1) X.A) (hN : X.N[i]? = some y) (hv : Vis X.env.scope y) (ha : PA X (e :: es) t)
    (hdb : (y == ("__debug__" : Str)) = false := by decide) (hcd : (y == ("__classdict__" : Str)) = false := by decide)
    (he : starEach (e :: es) X.env = (false, eval e X.env) :: starEach es X.env := by rfl) (hpl : (backTo pos (starEach es X.env)).any (·.1) = false := by rfl) :
    PE X (.Call (.Name y p) (e :: es) [] pos) (tMakeL i C sp t) := by
  obtain ⟨f, fd, ps, ds, F, M, hm, hb, hd⟩ := c.ex
  cases hd
  exact pe_makeL M F hr hN hv hb ha hdb hcd he hpl
theorem q_op2 {op : Operator} (c : Mth X.prog X.w X.K X.mg X.base k C nm ps sp) (hc : PySem.W.selfFirst X.K C = true) (hr : Room k X.A) (hn : PySem.dunder op.info.2 = nm := by decide +kernel) : OpR X (binaryOp op) (rOwn2 C sp) := by
  obtain ⟨f, fd, F, hm, hb⟩ := c.ex
  subst hn
  exact o_own2 F hr hb hc ⟨hm.at_, hm.fn⟩
theorem q_opI {op : Operator} (c : Mth X.prog X.w X.K X.mg X.base k C nm ps sp) (hc : PySem.W.selfFirst X.K C = true) (S : IntSide X.K C op.info.2) (hr : Room k X.A) (hn : PySem.dunder op.info.2 = nm := by decide +kernel) : OpR X (binaryOp op) (rOwnI C sp) := by
  obtain ⟨f, fd, F, hm, hb⟩ := c.ex
  subst hn
  exact o_ownI F hr hb hc ⟨hm.at_, hm.fn⟩ S
theorem q_neg (c : Mth X.prog X.w X.K X.mg X.base k C "__neg__" ps sp) (hr : Room k X.A) : UnR X (unaryOp .USub) (rOwn1 C sp) := by
  obtain ⟨f, fd, F, hm, hb⟩ := c.ex
  exact o_ownNeg F hr hb ⟨hm.at_, hm.fn⟩
theorem q_eq (c : Mth X.prog X.w X.K X.mg X.base k C "__eq__" ps sp) (hr : Room k X.A) : OpR X (compareOp .Eq) (rOwn2 C sp) := by
  obtain ⟨f, fd, F, hm, hb⟩ := c.ex
  exact o_ownEq F hr hb ⟨hm.at_, hm.fn⟩
theorem q_ne (c : Mth X.prog X.w X.K X.mg X.base k C "__eq__" ps sp) (hr : Room (k + 1) X.A) (hn : PySem.W.findIn X.K (.ref C) "__ne__" = some (some (.builtin "object.__ne__"))) (hm : PySem.W.mroIn X.K C (.type "object") = some true) : OpR X (compareOp .NotEq) (rOwnNe C sp) := by
  obtain ⟨f, fd, F, hm2, hb⟩ := c.ex
  exact o_ownNe F hr hb ⟨hm2.at_, hm2.fn⟩ hn hm
theorem cmt_of {P : Program} {w : World} {mg : Str → Option Value} {base : Heap} {g pp : Addr} {fd : FuncData} (F : FnOk P w K mg base CX0 k g fd ps sp) (hb : Binds K fd ps []) (hc : ClX.CMet K C (.type "type") nm pp g) (hr : ClX.CRead K C (.type "type")) : Cmt P w K mg base k C nm sp :=
  ⟨pp, g, hc, hr, (F.raw hb .nil).imp fun vs H Q E h => by rw [List.append_nil]; exact h⟩
/-- // by a great divisor of any sign -/
def CDivWN (_ j : Int) : Prop := j ≠ 0 ∧ j.natAbs.log2 < 9000
theorem op_fdivWN : OpR X (binaryOp .FloorDiv) (rI CDivWN fun i j => .int (i.fdiv j)) := opI fun i j _ _ _ _ _ hc q => floordiv_int hc.1 q (.inl (PyProof.noPylong_of_log2 hc.2))
end
section
variable {σ : L2.St} {H : Hp} {Q : VK} {K : PySem.W.Frag} {C : Addr} {sp : Sp} {ta to : TE} {t : TA} {n b c : L2.St → Hp → Prop} {rt : VK}
theorem y_fld {f : Str} (h : ta σ H fun x H1 => ∃ a C dx fs v, x = .ref a ∧ H1 a = some (.ins C dx fs) ∧ Cls K C ∧ NoAttr K C f ∧ fs.lookup f = some v ∧ Q v H1) : tFld K ta f σ H Q := h
theorem y_prp (h : ta σ H fun x H1 => ∃ a dx fs, x = .ref a ∧ H1 a = some (.ins C dx fs) ∧ sp [.ref a] H1 Q E0) : tPrp C sp ta σ H Q := h
theorem y_mth {m : Str} (h : to σ H fun x H1 => ∃ a dx fs, x = .ref a ∧ H1 a = some (.ins C dx fs) ∧ fs.lookup m = none ∧ t σ H1 fun vs H2 => sp (x :: vs) H2 Q E0) : tMth C m sp to t σ H Q := h
theorem y_cmt (h : ta σ H fun x H1 => x = .ref C ∧ t σ H1 fun vs H2 => sp (.ref C :: vs) H2 Q E0) : tCmt C sp ta t σ H Q := h
theorem y_mkr {dvs : List V} (h : t σ H fun vs H1 => ∀ x dx, H1 x = none → H1 dx = none → dx ≠ x → sp (.ref x :: (vs ++ dvs)) (upd (upd H1 dx (.own x)) x (.ins C dx [])) (fun v H2 => v = .non ∧ Q (.ref x) H2) E0) : tMkr C sp dvs t σ H Q := h
theorem y_mkl {i : Nat} (e : σ[i]? = some (some (.ref C))) (h : t σ H fun vs H1 => ∀ x dx, H1 x = none → H1 dx = none → dx ≠ x → sp (.ref x :: vs) (upd (upd H1 dx (.own x)) x (.ins C dx [])) (fun v H2 => v = .non ∧ Q (.ref x) H2) E0) : tMakeL i C sp t σ H Q := ⟨e, h⟩
theorem y_par {i j : Nat} (h : t σ H fun vs H1 => ∃ v w, vs = [v, w] ∧ n ((σ.set i (some v)).set j (some w)) H1) : tPar i j t ⟨n, rt, b, c⟩ σ H := h
theorem y_par2 {i j : Nat} {v w : V} {R : L2.St → Hp → Prop} (h : R ((σ.set i (some v)).set j (some w)) H) : ∃ v' w', [v, w] = [v', w'] ∧ R ((σ.set i (some v')).set j (some w')) H := ⟨v, w, rfl, h⟩
theorem y_gtup {m : Nat} {g : TGs} {v : V} {R : L2.St → Hp → Prop} {a : Addr} {xs : List V} (e : v = .ref a) (s : SqT K H a xs) (l : xs.length = m) (h : g xs σ H R) : gTup K m g v σ H R := ⟨a, xs, e, s, l, h⟩
theorem y_gcons {g : TG} {u : TGs} {v : V} {vs : List V} {R : L2.St → Hp → Prop} (h : g v σ H fun σ' H' => u vs σ' H' R) : gCons g u (v :: vs) σ H R := ⟨v, vs, rfl, h⟩
theorem y_gnil {R : L2.St → Hp → Prop} (h : R σ H) : gNil [] σ H R := ⟨rfl, h⟩
theorem y_gfld {f : Str} {v : V} {R : L2.St → Hp → Prop} (h : to σ H fun x H1 => ∃ a C dx fs, x = .ref a ∧ H1 a = some (.ins C dx fs) ∧ Cls K C ∧ NoAttr K C f ∧ fs.length < 1000 ∧ R σ (upd H1 a (.ins C dx (putF f v fs)))) : gFld K to f v σ H R := h
theorem y_negI {i : Int} (h : Q (.int (-i)) H) : (∃ j, V.int i = .int j ∧ Q (.int (-j)) H) := ⟨i, rfl, h⟩
theorem y_gcd {i j : Int} (h : Q (.int ((Nat.gcd i.natAbs j.natAbs : Nat) : Int)) H) : rGcd [.int i, .int j] H Q := ⟨i, j, rfl, h⟩
theorem y_rng2 {R : It → Hp → Prop} (h : t σ H fun vs H1 => ∃ i j : Int, vs = [.int i, .int j] ∧ (-(2 ^ 62) ≤ i ∧ i < 2 ^ 62 ∧ -(2 ^ 62) ≤ j ∧ j < 2 ^ 62) ∧ R (Itr i (j - i).toNat) H1) : iRng2 t σ H R := h
theorem y_while {tc : TT} {tb : TS} (h : ∃ W : Nat → L2.St → Hp → Prop, (∃ m, W m σ H) ∧ ∀ m σ H, W m σ H →
  tc σ H fun k H1 => if k = true then ∃ N : L2.St → Hp → Prop, (∀ σ' H', N σ' H' → ∃ m', m' < m ∧ W m' σ' H') ∧ tb ⟨N, rt, n, N⟩ σ H1 else n σ H1) : tWhile tc tb ⟨n, rt, b, c⟩ σ H := h
end
theorem w_rev {X : Cx} {K : PySem.W.Frag} {tg e : Expr} {ta : TA} {p pos : Pos} (hg : Gl X "reversed") (hm : X.mg "reversed" = none) (ha : PA X [e] ta) (h : X.K = K := by rfl) (hs : starEach [e] X.env = [(false, eval e X.env)] := by rfl) : PI X tg (.Call (.Name "reversed" p) [e] [] pos) (iRev K ta) := by
  subst h
  exact pi_reversed hg hm ha hs
theorem y_iRev {σ : L2.St} {H : Hp} {K : PySem.W.Frag} {ta : TA} {R : It → Hp → Prop} (h : ta σ H fun vs H1 => ∃ (a : Addr) (xs : List V), vs = [.ref a] ∧ SqL K H1 a xs ∧ R (Itv K a xs.length) H1) : iRev K ta σ H R := h
theorem e_revL {X : Cx} {K : PySem.W.Frag} {e : Expr} {te : TE} {k : Nat} {p1 p2 p3 pos : Pos} (he : PE X e te) (h : X.K = K := by rfl) : PE X (.Subscript e (.Slice none none (some (.UnaryOp .USub (.Constant (.int 1) k p1) p2)) p3) pos) (tRevL K te) := by
  subst h
  exact pe_revL he
theorem y_revL {σ : L2.St} {H : Hp} {Q : VK} {K : PySem.W.Frag} {te : TE} (h : te σ H fun x H1 => ∃ a xs, x = .ref a ∧ SqL K H1 a xs ∧ ∀ p, H1 p = none → Q (.ref p) (upd H1 p (.lst xs.reverse))) : tRevL K te σ H Q := h
theorem y_forW {J : It} {m : Nat} {G : Hp → Prop} {Y : Nat → Hp → V → Hp → Prop} (w : Walk J m G Y) {g : TG} {t : TS} {n b c : L2.St → Hp → Prop} {rt : VK} {σ : L2.St} {H : Hp} (Pv : Nat → L2.St → Hp → Prop) (h0 : Pv 0 σ H) (hG : ∀ i σ H, i ≤ m → Pv i σ H → G H)
    (hs : ∀ i x σ H H', i < m → Pv i σ H → Y i H x H' → g x σ H' fun σ2 H2 => t ⟨Pv (i + 1), rt, n, Pv (i + 1)⟩ σ2 H2) (hd : ∀ σ H, Pv m σ H → n σ H) :
    ∃ W : Nat → Nat → L2.St → Hp → Prop, (∃ m, W 0 m σ H) ∧ ∀ i k σ H, W i k σ H →
      (J.stop i H ∧ n σ H) ∨ (J.go i H ∧ ∃ N : L2.St → Hp → Prop, (∀ σ' H', N σ' H' → ∃ m', m' < k ∧ W (i + 1) m' σ' H') ∧ ∀ x H', J.yld i H x H' → g x σ H' fun σ2 H2 => t ⟨N, rt, n, N⟩ σ2 H2) :=
  for_it (D := ⟨n, rt, b, c⟩) w Pv h0 hG hs hd
end Ow
/-! Defs that are called where no repr is under way (the guards are empty): what they promise, their calls, the law's end. -/
namespace Ow
open PySem PySem.Spec PyProof.Rows L2
/-- a def's promise where no repr is under way -/
structure FnG (P : Program) (w : World) (K : PySem.W.Frag) (mg : Str → Option Value) (base : Heap) (CX : CXT) (k : Nat) (f : Addr) (fd : FuncData) (ps : List Str) (sp : Sp) : Prop where
  len : ∀ vs H Q E, sp vs H Q E → vs.length = ps.length
  run : ∀ (A : Around) (out : List Env) (s : Shared) (H : Hp) (as : Args) (us : List Value) (vs : List V) (Q : VK) (E : XK), A.guards = some [] → Room k A → Env0 P w K mg base A out s H → BindsTo s fd as (ps.zip us) → Vals vs us → sp vs H Q E → codeAny (model P w) A (.call (.ref f) as) (CR CX out P w H s Q E) s
section
variable {P : Program} {w : World} {K : PySem.W.Frag} {mg : Str → Option Value} {base : Heap}
theorem fnG_of {x qual : Str} {params : Arguments} {body : List Stmt} {scope : Scope} {dvs : List V} {kws : List (Str × V)} {f : Addr} {fd : FuncData} {CX : CXT} {N ps : List Str} {k : Nat} {sp : Sp} (F : FunD K x qual params body scope dvs kws f fd) (S : FnScope N ps scope) (len : ∀ vs H Q E, sp vs H Q E → vs.length = ps.length)
    (hb : ∀ (cdv : Value) (A : Around) (out : List Env) (s : Shared) (H : Hp) (vs : List V) (Q : VK) (E : XK), A.guards = some [] → Room k (A.deeper (envOfC qual scope s.heap.objs.size f cdv)) → sp vs H Q E →
      ∃ t, PSs (cxOf CX P w K mg base N qual scope f cdv A out s H E) body t ∧ t { nx := fun _ H' => Q .non H', rt := Q } (start N vs) H) : FnG P w K mg base CX (k + 1) f fd ps sp := by
  obtain ⟨oc, od, dV, kV, doc, pm, an, cdv, ct, osl, rfl, lk, hcd, _, _⟩ := F.ex
  refine ⟨len, fun A out s H as us vs Q E hG hr e0 bnd r hsp => ?_⟩
  have L := len _ _ _ _ hsp
  have up : ∀ b o, base.get? b = some o → s.heap.get? b = some o := fun b o z => (e0.bs b o z).1
  have KX : K.In s.heap := e0.mod.kin.keeps up
  have hn : ∀ y ∈ ps.zip us, scope.names.lookup y.1 = some .local ∨ (scope.names.lookup y.1 = some .cell ∧ ((cellsFrom (s.heap.objs.size + 1) scope.names []).lookup y.1).isSome = true) := by
    rintro ⟨n, v⟩ hy
    exact (S.par n (List.of_mem_zip hy).1).imp id fun z => ⟨z, PySem.W.cellsFrom_some _ _ _ (.inl z)⟩
  refine codeAny_call_function hr.depth (KX _ _ lk) rfl S.co S.gen rfl (PySem.W.codeRec_of KX hcd) (bnd _ _ _ _ (wpAny_newFunctionEnv_cells S.kind hn fun env he s1 x => ?_))
  cases he
  refine ⟨(e0.mod.nolimit.keeps up).keeps x.toInCall.keep, codeAny_func ?_⟩
  obtain ⟨t, ht, hq⟩ := hb cdv A out s H vs Q E hG (hr.deeper _) hsp
  refine wpAny_mono (ht.run [] s1 (start N vs) H _ (inv_start S hr.hd e0 L r x) hq) (fun fl s' hs => ?_) fun _ _ z => z
  cases fl with
  | ret u => obtain ⟨v, σ', H', J, rv, q⟩ := hs; exact ⟨v, H', J.os, J.bare, J.base, J.hok, rv, q⟩
  | next => obtain ⟨σ', H', J, q⟩ := hs; exact ⟨V.non, H', J.os, J.bare, J.base, J.hok, rfl, q⟩
  | brk => exact hs.choose_spec.choose_spec.2.elim
  | cont => exact hs.choose_spec.choose_spec.2.elim
/-- such a def that is called by its name -/
structure CalG (P : Program) (w : World) (K : PySem.W.Frag) (mg : Str → Option Value) (base : Heap) (k : Nat) (x : Str) (ps : List Str) (sp : Sp) : Prop where
  ex : ∃ (f : Addr) (fd : FuncData), FnG P w K mg base CX0 k f fd ps sp ∧ mg x = some (.ref f) ∧ PySem.W.keepIn K (.ref f) = true ∧ Binds K fd ps []
theorem pe_fnG {X : Cx} {k : Nat} {x : Str} {ps : List Str} {sp : Sp} {p pos : Pos} {e : Expr} {es : List Expr} {t : TA} (hG : X.A.guards = some []) (c : CalG X.prog X.w X.K X.mg X.base k x ps sp) (hr : Room k X.A) (hg : Gl X x) (ha : PA X (e :: es) t) (hdb : (x == ("__debug__" : Str)) = false := by decide)
    (he : starEach (e :: es) X.env = (false, eval e X.env) :: starEach es X.env := by rfl) (hpl : (backTo pos (starEach es X.env)).any (·.1) = false := by rfl) : PE X (.Call (.Name x p) (e :: es) [] pos) (tFn sp t) := by
  obtain ⟨f, fd, F, hm, hk, hb⟩ := c.ex
  refine ⟨fun pins s σ H Q I h => wpAny_Call_Name_kw (ld_glob I hg hm (PySem.W.callWith_K (h₀ := X.base) I.ok.mod.kin hk (thn (ha.run pos pins s σ H _ I h) fun us s1 hh => ?_) he hpl) hdb)⟩
  obtain ⟨vs, H1, I1, r, q⟩ := hh
  refine ⟨I1.kIn, wpAny_call (codeAny_mono (F.run X.A X.stack s1 H1 ⟨us, []⟩ us vs Q E0 hG hr I1.env0 ?_ r q) fun rr s' hq => ?_)⟩
  · have b := hb s1 us I1.kIn (by rw [List.append_nil, ← r.length]; exact F.len _ _ _ _ q)
    rw [List.append_nil] at b
    exact b
  · cases rr with
    | error e => exact False.elim hq
    | ok fl =>
      cases fl with
      | ret u => exact I1.after hq
      | next => exact hq.elim
      | brk => exact hq.elim
      | cont => exact hq.elim
/-- a dict's object -/
def dictB : Option Obj → Bool
  | some ⟨_, _, .dict _ _, _⟩ => true
  | _ => false
theorem dictB_at {x : Option Obj} (h : dictB x = true) : ∃ o es n, x = some o ∧ o.data = .dict es n := by
  unfold dictB at h
  split at h
  · exact ⟨_, _, _, rfl, rfl⟩
  · cases h
/-- the law's call, no repr being under way -/
theorem law_callG {mb : Str → Option Value} {CX : CXT} {k : Nat} {fa a : Addr} {fd : FuncData} {x : Str} {sp : Sp} {s : Shared} {vs : List Value} {ns : List Int}
    (KX : K.In s.heap) (hm : s.heap.Ns mainGlobals mg) (hb : s.heap.Ns builtinsNs mb) (hbb : ∀ x : Str, x ≠ "__name__" → mb x = bootBuiltins x) (hlim : s.heap.NoLimit) (hg : s.gens = #[])
    (ha : s.heap.get? a = some { cls := .type "list", data := .seq vs.toArray }) (hi : IntsAre vs ns) (hl : ns.length ≤ sizeLine) (hr : Room k callerA)
    (hs : dictB (s.heap.get? sysModules) = true) (F : ∀ base : Heap, K.In base → base.Ns mainGlobals mg → (∃ o, base.get? sysModules = some o) → FnG P w K mg base CX k fa fd [x] sp) (hbind : ∀ (s : Shared) (u : Value), BindsTo s fd ⟨[u], []⟩ [(x, u)])
    (hsp : ∀ H : Hp, Only H → SqL K H a (ns.map V.int) → sp [.ref a] H (fun v _ => v = .bl true) fun _ _ _ => False) (hCX : ∀ H e s', CX [] H s (fun _ _ _ => False) e s' → False) :
    codeAny (model P w) callerA (.call (.ref fa) ⟨[.ref a], []⟩) (fun r s' => r = .ok (.ret (.bool true)) ∧ OldK s.heap s'.heap ∧ s'.os = s.os ∧ AllBare s'.gens) s := by
  have rv := vals_ints hi
  have lenV := hi.length
  -- what is tracked at most: the script, where it is none of the module's own things
  suffices main : ∀ H : Hp, Only H → SqL K H a (ns.map V.int) → HOk P w H s.heap → (∀ b u, H b = some u → b = a ∧ K.lookup a = none) → _ by
    cases hk : K.lookup a with
    | some o =>
      have z := KX a o hk
      rw [ha] at z
      cases z
      exact main (fun _ => none) (fun _ => .inl rfl) (.inr ⟨_, vs.toArray, _, hk, rfl, rfl, rfl, by rw [List.size_toArray, lenV]; exact hl, by simpa using rv⟩) (fun _ _ z => nomatch (show (none : Option HO) = some _ from z)) fun _ _ z => nomatch (show (none : Option HO) = some _ from z)
    | none =>
      obtain ⟨ob, hob⟩ : ∃ ob : Obj, ob = { cls := .type "list", data := .seq vs.toArray } := ⟨_, rfl⟩
      have only : ∀ b u, (if b = a then some (HO.frz ob (.lst (ns.map V.int))) else none) = some u → b = a ∧ u = .frz ob (.lst (ns.map V.int)) := fun b u z => by
        split at z
        · rename_i e
          cases z
          exact ⟨e, rfl⟩
        · cases z
      refine main (fun b => if b = a then some (.frz ob (.lst (ns.map V.int))) else none) (fun b => ?_) (.inl (.inr ⟨ob, if_pos rfl⟩)) (fun b u z => ?_) fun b u z => ⟨(only b u z).1, hk⟩
      · by_cases e : b = a
        · exact .inr ⟨ob, _, if_pos e⟩
        · exact .inl (if_neg e)
      · obtain ⟨rfl, rfl⟩ := only b u z
        rw [← hob] at ha
        exact ⟨ha, by rw [List.length_map]; exact hl, vs, _, rv, hob ▸ ha⟩
  intro H hO hS hok hT
  have free : ∀ {b : Addr} {o : Obj}, s.heap.get? b = some o → (b = a → K.lookup a = none → False) → H b = none := fun {b o} _ n => by
    cases q : H b with
    | none => rfl
    | some u => exact (n (hT b u q).1 (hT b u q).2).elim
  have nsK : ∀ {b : Addr} {m : Str → Option Value}, s.heap.Ns b m → (hidT s.heap H).Ns b m := fun {b m} ⟨o, es, ep, e, d, r⟩ => ⟨o, es, ep, hidT_get e (free e fun z _ => by
    rw [z, ha] at e
    cases e
    cases d), d, r⟩
  have hKb : K.In (hidT s.heap H) := fun b o e => hidT_get (KX b o e) (free (KX b o e) fun z n => by
    rw [z, n] at e
    cases e)
  have hSM : ∃ o, (hidT s.heap H).get? sysModules = some o := by
    obtain ⟨o, es, n, e, hd⟩ := dictB_at hs
    refine ⟨o, hidT_get e (free e fun z _ => ?_)⟩
    rw [z, ha] at e
    cases e
    cases hd
  have hM : Mod K mg (hidT s.heap H) := ⟨hKb, nsK hm, ⟨mb, nsK hb, hbb⟩, hlim.imp fun mc h => ⟨nsK h.1, h.2⟩⟩
  have e0 : Env0 P w K mg (hidT s.heap H) callerA [] s H := ⟨rfl, hM, fun _ _ e => of_hidT e, Nat.le_of_eq (hidT_size _ _), trivial, fun b hb => (nomatch (show b ∈ ([] : List Addr) from hb)), hok, .of_eq hg⟩
  refine codeAny_mono ((F _ hKb (nsK hm) hSM).run callerA [] s H ⟨[.ref a], []⟩ [.ref a] [.ref a] _ _ rfl hr e0 (hbind s (.ref a)) (.cons rfl .nil) (hsp H hO hS)) fun r s' h => ?_
  match r, h with
  | .error e, h => exact (hCX H e s' h).elim
  | .ok .next, h => exact h.elim
  | .ok .brk, h => exact h.elim
  | .ok .cont, h => exact h.elim
  | .ok (.ret u), h =>
    obtain ⟨v, H', os, bare, un, hok', ru, rfl⟩ := h
    cases (show u = Value.bool true from ru)
    refine ⟨rfl, OldK.of_keep fun b o e => ?_, os, bare⟩
    rcases hO b with z | z
    · exact un.keep b o e z (fun z => (nomatch (show b ∈ ([] : List Addr) from z))) (fun z => (nomatch z))
    · obtain ⟨ob, xs, z⟩ := z
      have e1 := (hok b _ z).1
      rw [e] at e1
      cases e1
      exact (hok' b _ (un.frzs b _ _ z)).1
end
/-- a law: as walk_ofE, by a promise that holds where no repr is under way -/
theorem walk_ofG {l : PySem.W.OpenLaw} {n k : Nat} {q : Program} {loose : List Str} {XP : (Str → Option Value) → Heap → Prop} {YP : World → Heap → Prop} {d : DefRec} {CX : CXT} {x : Str} (hn : l.most = some n) (hn2 : n ≤ sizeLine) (hdf : d.params.defaults = []) (hr : Room k callerA)
    (F : ∀ (w : World) (mg : Str → Option Value) (fa : Addr) (h : Heap), YP w h → h.Ns mainGlobals mg → mg d.name = some (.ref fa) → ∃ (K : PySem.W.Frag) (fd : FuncData) (sp : Sp), K.In h ∧ dictB (h.get? sysModules) = true ∧ (∀ (s : Shared) (u : Value), BindsTo s fd ⟨[u], []⟩ [(x, u)]) ∧
        (∀ (H : Hp) (a : Addr) (ns : List Int), ns.length ≤ n → Only H → SqL K H a (ns.map V.int) → sp [.ref a] H (fun v _ => v = .bl true) fun _ _ _ => False) ∧ ∀ base : Heap, K.In base → base.Ns mainGlobals mg → (∃ o, base.get? sysModules = some o) → FnG l.prog w K mg base CX k fa fd [x] sp)
    (hCX : ∀ (H : Hp) (s : Shared) (e : Value) (s' : Shared), CX [] H s (fun _ _ _ => False) e s' → False) : PySem.W.WalkO q loose XP YP l.row.toRowW d [] (fun f vs => PySem.call f vs) :=
  Att.attach_call hn hdf fun w s₀ s₁ mg mb fa o pm cd doc a vs ns G Y ho hd hcd hmg hobj hints hlen hg => by
    obtain ⟨K, fd, sp, KX, hs, hb, hsp, hF⟩ := F w mg fa _ Y G.T.g hmg
    exact law_callG KX G.T.g G.T.b G.T.builtins G.T.nolimit hg hobj hints (Nat.le_trans hlen hn2) hr hs hF hb (fun H hO hS => hsp H a ns hlen hO hS) fun H e s' => hCX H s₁ e s'
end Ow
/-! Errors of the text's own classes as values: made by a call, asked for their class, their text, what they keep; repr of data. -/
namespace PySem.F
abbrev kerTail : List Value := [.type "KeyError", .type "LookupError", .type "Exception", .type "BaseException", .type "object"]
theorem kerStore : StoreFacts "KeyError" kerTail "object.__setattr__" "object" :=
  { store_object with mro := by kernel_rfl, hasOwner := by decide +kernel, passes := fun _ => by kernel_rfl
                      slot := .of (owner := "object") (n := "__setattr__") (by rw [typeLookup_type, builtinLookup_eq_fast]; kernel_rfl) (by decide +kernel) (by decide +kernel) (by decide +kernel) (by first | exact .inl (by decide +kernel) | exact .inr (by decide +kernel)) (by rw [isSubtype_type]; kernel_rfl) }
end PySem.F
namespace PySem.ErX
open Builtin Builtin.ObjectAttr PySem.W PySem.Calls PyProof.Rows PySem.HandSPX
section
variable {prog : Program} {w : World} {A : Around} {E : Value → Shared → Prop} {R : Result → Shared → Prop} {h : Heap} {g : Array GenState} {d : Drawn} {t : Nat} {os : OsState} {rest : List Value}
variable {nm q : Str} {C N : Addr} {bs bm bmB : List Value} {hdct : Bool} {sn : List Str} {sub : List Value} {ab : Bool} {col : Option Bool} {dd : Option Addr} {k0 k1 k2 k3 k5 : Option Value} {B newId initId : String}
/-- the class C's mro holds B, and neither of two others -/
abbrev Over (bm : List Value) (B : String) : Prop := bm.contains (.type B) = true ∧ bm.contains (.type "AttributeError") = false ∧ bm.contains (.type "NameError") = false
theorem Over.has (o : Over bm B) : (Value.ref C :: bm).contains (.type B) = true := by rw [List.contains_cons, o.1, Bool.or_true]
theorem Over.nA (o : Over bm B) : (Value.ref C :: bm).contains (.type "AttributeError") = false := by rw [List.contains_cons, o.2.1] <;> rfl
theorem Over.nN (o : Over bm B) : (Value.ref C :: bm).contains (.type "NameError") = false := by rw [List.contains_cons, o.2.2] <;> rfl
theorem chk (F : ExcBaseFacts B newId initId bmB) (o : Over bm B) {M : Model} {Q : Unit → Shared → Prop} (hC : h.get? C = some (excClassObj nm q C N bs bm hdct sn sub ab col dd k0 k1 k2 k3 k5 newId)) (hq : Q () ⟨h, g, d, t, os⟩) :
    wpAny M A (checkBuiltinCall newId ⟨.ref C :: rest, []⟩) Q E ⟨h, g, d, t, os⟩ := by
  have z1 := o.has (C := C)
  have z2 := F.noStar
  simp only [checkBuiltinCall, F.newKind, F.newSplit, F.newRow]
  repeat (first | (refine wpAny_isSubtype_exc hC ?_; rw [z1]) | refine wpAny_loadPart_at hC ?_ | refine wpAny_staticBase_exc hC ?_ | refine wpAny_madeBy_exc hC ?_ | wp_step | simp only [bne_self_eq_false, Bool.false_eq_true, if_false])
  exact hq
theorem new (F : ExcBaseFacts B newId initId bmB) (o : Over bm B) (hC : h.get? C = some (excClassObj nm q C N bs bm hdct sn sub ab col dd k0 k1 k2 k3 k5 newId)) (hrest : rest.length ≤ sizeLine)
    (hq : R (.ok (.ret (.ref (h.objs.size + 1)))) ⟨(h.push (kdv_tup rest)).push (excO C h.objs.size), g, d, t, os⟩) : codeAny (model prog w) A (.builtin newId ⟨.ref C :: rest, []⟩) R ⟨h, g, d, t, os⟩ := by
  have z0 := F.ends
  have z1 := o.has (C := C)
  have z2 := o.nA (C := C)
  have z3 := o.nN (C := C)
  refine codeAny_builtinAt F.entry ?_
  unfold Builtin.«BaseException.__new__»
  refine wpAt_bind ?_
  show wpAt _ _ _ (stack >>= _) _ _ _
  refine wpAt_bind (wpAt_stack fun p below => wpAt_of_wpAny ?_)
  wp_walk
  refine wpAt_of_wpAny ?_
  rw [F.owner]
  repeat (first | (with_reducible refine wpAny_isSubtype_exc hC ?_; first | rw [z1] | rw [z2] | rw [z3]) | with_reducible refine wpAny_madeHere_exc F.canon hC ?_ | with_reducible refine wpAny_loadPart_at hC ?_ | wp_step)
  show R _ _
  rw [Heap.size_push]
  exact hq
theorem typ (F : ExcBaseFacts B newId initId bmB) (o : Over bm B) {fI : Addr} {Q : Fin → Shared → Prop} (hC : h.get? C = some (excClassObj nm q C N bs bm hdct sn sub ab col dd k0 k1 k2 k3 k5 newId)) (hi : Looks (model prog w) h (typeLookup (.ref C) "__init__") (some (.ref fI)))
    (hb : ∀ self, Looks (model prog w) h (bindSpecial (.ref fI) self) (.ref fI, [self])) (hrest : rest.length ≤ sizeLine)
    (hq : codeAny (model prog w) A (.call (.ref fI) ⟨.ref (h.objs.size + 1) :: rest, []⟩) (fun r s' => match r with | .ok (.ret v) => v = .none ∧ Q (.done (.ret (.ref (h.objs.size + 1)))) s' | .ok _ => False | .error e => E e s') ⟨(h.push (kdv_tup rest)).push (excO C h.objs.size), g, d, t, os⟩) :
    wpAny (model prog w) A (Builtin.«type.__call__» ⟨.ref C :: rest, []⟩) Q E ⟨h, g, d, t, os⟩ := by
  repeat (first | with_reducible refine wpAny_madeBy_exc hC ?_ | with_reducible refine wpAny_loadPart_at hC ?_ | wp_step)
  refine codeAny_call_builtin_code (Code.quiet_builtin _ F.quiet) (chk F o hC (new F o hC hrest ?_))
  show wpAny _ _ _ _ _ _
  have up : ∀ b ob, h.get? b = some ob → ((h.push (kdv_tup rest)).push (excO C h.objs.size)).get? b = some ob := fun b ob e => Heap.get?_push_of_some _ (Heap.get?_push_of_some _ e)
  have hC1 := up _ _ hC
  have hx : ((h.push (kdv_tup rest)).push (excO C h.objs.size)).get? (h.objs.size + 1) = some (excO C h.objs.size) := by heap_get
  have z : (Value.ref C :: bm).contains (.ref C) = true := by simp
  unfold isInstance
  repeat (first | (with_reducible refine wpAny_isSubtype_exc hC1 ?_; rw [z]) | with_reducible refine wpAny_loadPart_at hx ?_ | wp_step)
  show wpAny _ _ (typeLookup (.ref C) _) _ _ _
  refine (hi.keeps up).at (wpAny_holding (wpAny_bind (((hb (.ref (h.objs.size + 1))).keeps up).at (wpAny_bind (wpAny_call (codeAny_mono hq fun r s' y => ?_))))))
  match r, y with
  | .error e, y => exact y
  | .ok .next, y => exact y.elim
  | .ok .brk, y => exact y.elim
  | .ok .cont, y => exact y.elim
  | .ok (.ret v), y =>
    obtain ⟨rfl, y⟩ := y
    first | exact wpAny_pure (wpAny_pure y) | (wp_walk; exact y)
/-- C(..) of an own error class whose __init__ is a def -/
theorem own (F : ExcBaseFacts B newId initId bmB) (o : Over bm B) {fI : Addr} (hC : h.get? C = some (excClassObj nm q C N bs bm hdct sn sub ab col dd k0 k1 k2 k3 k5 newId)) (hi : Looks (model prog w) h (typeLookup (.ref C) "__init__") (some (.ref fI)))
    (hb : ∀ self, Looks (model prog w) h (bindSpecial (.ref fI) self) (.ref fI, [self])) (hrest : rest.length ≤ sizeLine)
    (hq : codeAny (model prog w) (A.under (.builtin "type.__call__" ⟨.ref C :: rest, []⟩)) (.call (.ref fI) ⟨.ref (h.objs.size + 1) :: rest, []⟩) (InitBack (h.objs.size + 1) R) ⟨(h.push (kdv_tup rest)).push (excO C h.objs.size), g, d, t, os⟩) :
    codeAny (model prog w) A (.call (.ref C) ⟨rest, []⟩) R ⟨h, g, d, t, os⟩ := by
  have a1 := tc_lookup
  have a2 := tc_bind (.ref C)
  have a3 : (⟨h, g, d, t, os⟩ : Shared).TypeIs (.ref C) "type" := ⟨_, hC, rfl⟩
  refine codeAny_of_tree ?_
  show wpAny _ _ (callAny (.ref C) _) _ _ _
  repeat (any_goals (first | with_reducible refine wpAny_loadPart_at hC ?_ | assumption | wp_step))
  refine ⟨rfl, codeAny_call_builtin_at (Code.quiet_builtin _ (by decide +kernel)) entry_typeCall (wpAny_check_type_call_sub hC (typ F o hC hi hb hrest (codeAny_mono hq fun r s' z => ?_)))⟩
  rcases r with e | (v | _ | _ | _) <;> exact z
end
/-- self.name = v on an error that has no dict yet -/
theorem osa {prog : Program} {w : World} {A : Around} {R : Result → Shared → Prop} {hp : Heap} {g : Array GenState} {d : Drawn} {t : Nat} {os : OsState} {K : Frag} {B : String} {bm : List Value} {name : Str} {tk : Tok} {v : Value} {x C : Addr} {fv : Array Value}
    (SF : StoreFacts B bm "object.__setattr__" "object") (ov : excOver K C bm = true) (hh : hasDictIn K C = true) (X : K.In hp) (hx : hp.get? x = some { cls := .ref C, data := .fields fv }) (ha : findIn K (.ref C) name = some none)
    (hq : ∀ h' tk' dx, (∀ b o, b ≠ x → hp.get? b = some o → h'.get? b = some o) → hp.objs.size ≤ dx → dx ≠ x → h'.get? x = some { cls := .ref C, dict := some dx, data := .fields fv } → h'.Ns1 dx (fun y => if y = name then some v else none) → R (.ok (.ret .none)) ⟨h', g, d, tk', os⟩) :
    codeAny (model prog w) A (.call (.builtin "object.__setattr__") ⟨[.ref x, .str name tk, v], []⟩) R ⟨hp, g, d, t, os⟩ := by
  have tkr : takerIn K C name = some none := by
    unfold takerIn
    rw [ha] <;> rfl
  refine osa_openX (s := ⟨hp, g, d, t, os⟩) (od := none) SF X ⟨hx, rfl, rfl, trivial⟩ ov tkr fun b => ?_
  obtain ⟨cd, hc, hd⟩ := any_some hh
  have Lc : Looks (model prog w) hp (classData C) cd := looks_clsIn X hc
  have ne : x ≠ hp.objs.size := Nat.ne_of_lt (Heap.lt_size hx)
  obtain ⟨c1, c2, c3, c4, c5, c6, c7, c8, c9, c10, c11⟩ := cd
  dsimp only at hd
  subst hd
  show wpAny _ _ (storeInOwnDict (.ref x) (.ref C) (.str name tk) name v b) _ _ _
  unfold storeInOwnDict ownDictForStores
  repeat (first | with_reducible refine store_in_new ?_ ?_ | with_reducible refine Lc.at ?_ | with_reducible refine wpAny_loadPart_at hx ?_ | wp_step)
  · exact ⟨_, #[], _, (Heap.get?_update_ne _ _ _ _ ne.symm).trans (Heap.get?_push_at rfl rfl), rfl, fun e he => absurd he (by simp), fun _ => rfl⟩
  · intro h' tk' hn hs
    have hx1 : (hp.push { cls := .type "dict", data := .dict #[] }).get? x = some { cls := .ref C, data := .fields fv } := Heap.get?_push_of_some _ hx
    exact hq h' tk' hp.objs.size (fun b o hb ho => (hs.2 b (Nat.ne_of_lt (Heap.lt_size ho))).trans ((Heap.get?_update_ne _ _ _ _ hb).trans (Heap.get?_push_of_some _ ho))) (Nat.le_refl _) ne.symm ((hs.2 x ne).trans (Heap.get?_update_self _ hx1 rfl)) hn
end PySem.ErX
namespace Ow
open PySem PySem.Spec PyProof.Rows L2
/-- what the written part says of an own error class C over the built-in error B (tail: B's mro; mk: the maker that it inherits) whose __init__ is a def -/
def mkB (K : PySem.W.Frag) (C : Addr) (mk B : String) : Bool := match K.lookup C with
  | some ⟨.type "type", _, .cls cd, sl⟩ => (match cd.mro, sl.toList with
    | .ref D :: bm, [_, _, _, _, some (.builtin n), _] => D == C && (n == mk && (!cd.hasDel && (bm.contains (.type B) && (!bm.contains (.type "AttributeError") && !bm.contains (.type "NameError")))))
    | _, _ => false)
  | _ => false
theorem mkB_ok {K : PySem.W.Frag} {C : Addr} {mk B : String} (h : mkB K C mk B = true) : ∃ nm q N bs bm hdct sn sub ab col dd k0 k1 k2 k3 k5, K.lookup C = some (excClassObj nm q C N bs bm hdct sn sub ab col dd k0 k1 k2 k3 k5 mk) ∧ ErX.Over bm B := by
  unfold mkB at h
  split at h
  · rename_i dct cdat slo e
    split at h
    · rename_i D up s0 s1 s2 s3 n s5 em es
      simp only [Bool.and_eq_true, beq_iff_eq, Bool.not_eq_true'] at h
      obtain ⟨rfl, rfl, hdl, o⟩ := h
      obtain ⟨c1, c2, c3, c4, c5, c6, c7, c8, c9, c10, c11⟩ := cdat
      dsimp only at em hdl
      subst em hdl
      obtain ⟨l⟩ := slo
      simp only at es
      subst es
      exact ⟨_, _, _, _, _, _, _, _, _, _, _, _, _, _, _, _, e, o⟩
    · cases h
  · cases h
structure OexG (K : PySem.W.Frag) (C : Addr) (mk ini B T : String) (bm tl : List Value) : Prop where
  F : ExcBaseFacts B mk ini bm
  S : StoreFacts T tl "object.__setattr__" "object"
  q : mkB K C mk B = true
  ov : PySem.W.excOver K C tl = true
  hd : PySem.W.hasDictIn K C = true
  sa : PySem.W.findIn K (.ref C) "__setattr__" = some (some (.builtin "object.__setattr__"))
  kC : PySem.W.keepIn K (.ref C) = true
section
variable {X : Cx} {pins : List (Addr × Obj)} {σ : L2.St} {H : Hp} {s : Shared} {a C dx : Addr} {f : Str} {y : V} {u : Value} {mk ini B T : String} {bm tl : List Value}
/-- self.f = y, the first one -/
theorem ostG {Q : Unit → Shared → Prop} {E : Value → Shared → Prop} {A : Around} (G : OexG X.K C mk ini B T bm tl) (I : Inv X pins σ H s) (e : H a = some (exo a C none)) (hno : PySem.W.findIn X.K (.ref C) f = some none) (ry : RelV y u)
    (h : ∀ dx s', H dx = none → dx ≠ a → Inv X pins σ (upd (upd H dx (exd dx [(f, y)])) a (exo a C (some dx))) s' → Q () s') : wpAny (model X.prog X.w) A (setAttr (.ref a) f u) Q E s := by
  obtain ⟨t1, ho⟩ := exo_at I.hok e
  obtain ⟨hp, g, d, t, os⟩ := s
  refine PySem.W.set_plain I.kIn (ox := { cls := .ref C, dict := none, data := .fields #[.ref t1, .none, .none, .none, .bool false, .none] }) (od := none) ⟨ho, rfl, rfl, trivial⟩ G.sa ?_
  refine ErX.osa G.S G.ov G.hd I.kIn ho hno fun h' tk' dx k dn dne hx hn => ?_
  have hnd : H dx = none := I.hok.fresh dn
  have nd : ∀ {b : Addr} {o : Obj}, hp.get? b = some o → b ≠ dx := fun q => Nat.ne_of_lt (Nat.lt_of_lt_of_le (Heap.lt_size q) dn)
  have na : ∀ {b : Addr}, H b = none → b ≠ a := fun n z => by
    rw [z, e] at n
    cases n
  have keepT : ∀ {b : Addr} {o : HO}, H b = some o → b ≠ a → upd (upd H dx (exd dx [(f, y)])) a (exo a C (some dx)) b = some o := fun q hb => by
    rw [upd_ne hb, upd_ne (ne_of_none q hnd)]
    exact q
  refine h dx _ hnd dne (I.un (t' := tk') ⟨fun b o q n _ _ => k b o (na n) q, fun b o q n _ _ => ⟨o.slots, k b o (na n) q⟩, fun b o q n _ => ?_, fun b o q _ => ?_, fun b xs q => keepT q (at_ne e q exo_tup), fun b o v q => keepT q (at_ne e q exo_frz), fun b ps q => ⟨#[], ?_⟩⟩ fun b o q => ?_)
  · rw [upd_ne (na n), upd_ne (nd q)]
    exact n
  · by_cases hb : b = a
    · exact ⟨_, hb ▸ hx⟩
    · exact ⟨o, k b o hb q⟩
  · rw [keepT q (at_ne e q exo_tbl)]
    simp
  · by_cases hb : b = a
    · subst hb
      rw [upd_same] at q
      cases q
      exact exo_ok hx
    rw [upd_ne hb] at q
    by_cases hd : b = dx
    · subst hd
      rw [upd_same] at q
      cases q
      exact exd_ok hn (relO_put (fs := []) ry fun g => True.intro)
    rw [upd_ne hd] at q
    exact (I.hok b o q).stay (fun c v hc z => k c v (hc.elim (fun y => y ▸ hb) fun y => at_ne e y exo_own) z) (fun c hc => keepT hc (at_ne e hc exo_own)) fun c xs hc => keepT hc (at_ne e hc exo_tup)
end
def tOstG (C : Addr) (f : Str) (to te : TE) : TS := fun D σ H => te σ H fun y H1 => to σ H1 fun x H2 => ∃ a : Addr, x = .ref a ∧ H2 a = some (exo a C none) ∧ ∀ dx, H2 dx = none → dx ≠ a → D.nx σ (upd (upd H2 dx (exd dx [(f, y)])) a (exo a C (some dx)))
/-- C(e, ..), a value: C's own __init__ keeping sp -/
def tExI (C : Addr) (sp : Sp) (ta : TA) : TE := fun σ H Q => ta σ H fun vs H1 => vs.length ≤ 1000 ∧ ∀ a, H1 a = none → sp (.ref a :: vs) (upd H1 a (exo a C none)) (fun v H2 => v = .non ∧ Q (.ref a) H2) E0
/-- X.__init__(self, v), which keeps v under the name f -/
def spEI (C : Addr) (f : Str) : Sp := fun vs H Q _ => ∃ (a : Addr) (v : V), vs = [.ref a, v] ∧ H a = some (exo a C none) ∧ ∀ d, H d = none → d ≠ a → Q .non (upd (upd H d (exd d [(f, v)])) a (exo a C (some d)))
/-- an error of the class at C, its args at t -/
def exs (a C t : Addr) : HO := .ext fun h => h.get? a = some (PySem.W.excObj C t none .none)
/-- C(e), C without __init__ of its own, a value -/
def tExT (C : Addr) (ta : TE) : TE := fun σ H Q => ta σ H fun v H1 => ∀ a t, H1 a = none → H1 t = none → a ≠ t → Q (.ref a) (upd (upd H1 t (.tup [v])) a (exs a C t))
section
variable {X : Cx} {o e : Expr} {es : List Expr} {to te : TE} {ta : TA} {f : Str} {p p' pos : Pos} {C : Addr} {mk ini B T : String} {bm tl : List Value}
theorem ps_ostG (G : OexG X.K C mk ini B T bm tl) (hno : PySem.W.findIn X.K (.ref C) f = some none) (ho : PE X o to) (he : PE X e te) (hs : swapsWith e (some (.Attribute o f p')) pos.line X.env = pure false := by rfl) : PS X (.Assign [.Attribute o f p'] e pos) (tOstG C f to te) := by
  refine ⟨fun pins s σ H D I h => plainObj_wpAny_Assign_Attribute (thn (he.run pins s σ H _ I h) fun v s1 hh => ?_) hs⟩
  obtain ⟨y, H1, I1, r1, q1⟩ := hh
  refine thn (ho.run pins s1 σ H1 _ I1 q1) fun u s2 hh => ?_
  obtain ⟨x, H2, I2, r2, a, rfl, ea, q⟩ := hh
  cases (show u = Value.ref a from r2)
  exact ostG G I2 ea hno r1 fun dx s' n ne J => ⟨σ, _, J, q dx n ne⟩
theorem pe_exI {x : Str} {fI : Addr} {k : Nat} {fd : FuncData} {ps : List Str} {sp : Sp} (G : OexG X.K C mk ini B T bm tl) (iC : PySem.W.findIn X.K (.ref C) "__init__" = some (some (.ref fI))) (tI : PySem.W.typeIn X.K (.ref fI) = some (.type "function"))
    (F1 : FnOk X.prog X.w X.K X.mg X.base CX0 k fI fd ps sp) (hb : Binds X.K fd ps []) (hr : Room (k + 1) X.A) (hg : Gl X x) (hm : X.mg x = some (.ref C)) (ha : PA X (e :: es) ta)
    (hdb : (x == ("__debug__" : Str)) = false := by decide) (he : starEach (e :: es) X.env = (false, eval e X.env) :: starEach es X.env := by rfl) (hpl : (backTo pos (starEach es X.env)).any (·.1) = false := by rfl) :
    PE X (.Call (.Name x p) (e :: es) [] pos) (tExI C sp ta) := by
  obtain ⟨nm, q, N, bs, bm', hdct, sn, sub, ab, col, dd, k0, k1, k2, k3, k5, hC, ov⟩ := mkB_ok G.q
  refine ⟨fun pins s σ H Q I h => wpAny_Call_Name_kw (ld_glob I hg hm (PySem.W.callWith_K (h₀ := X.base) I.ok.mod.kin G.kC (thn (ha.run pos pins s σ H _ I h) fun us s1 hh => ?_) he hpl) hdb)⟩
  obtain ⟨vs, H1, I1, r1, hz, q1⟩ := hh
  refine ⟨I1.kIn, ?_⟩
  show wpAny _ _ (call (.ref C) us) _ _ _
  obtain ⟨hp, g, dr, tk, os⟩ := s1
  have hle : hp.objs.size ≤ hp.objs.size + 1 := Nat.le_succ _
  have hq := q1 (hp.objs.size + 1) (I1.hok.fresh hle)
  have up : ∀ b o, hp.get? b = some o → ((hp.push (PySem.W.kdv_tup us)).push (PySem.HandSPX.excO C hp.objs.size)).get? b = some o := fun b o z => Heap.get?_push_of_some _ (Heap.get?_push_of_some _ z)
  have I2 : Inv X pins σ (upd H1 (hp.objs.size + 1) (exo (hp.objs.size + 1) C none)) ⟨(hp.push (PySem.W.kdv_tup us)).push (PySem.HandSPX.excO C hp.objs.size), g, dr, tk, os⟩ :=
    I1.laid (t' := tk) (a := hp.objs.size + 1) (o := exo (hp.objs.size + 1) C none) (h' := (hp.push (PySem.W.kdv_tup us)).push (PySem.HandSPX.excO C hp.objs.size)) up hle (exo_ok (by heap_get))
  have rv : Vals (V.ref (hp.objs.size + 1) :: vs) (Value.ref (hp.objs.size + 1) :: us) := .cons rfl r1
  have len := rv.length
  have ln := F1.len _ _ _ _ hq
  have hus : us.length ≤ sizeLine := by
    rw [← Paired.length r1, sizeLine_eq]
    omega
  have bd := hb _ (Value.ref (hp.objs.size + 1) :: us) I2.kIn (by rw [List.append_nil, ← len]; exact ln)
  rw [List.append_nil] at bd
  refine wpAny_call (ErX.own G.F ov (I1.kIn _ _ hC) (PySem.W.looks_findIn I1.kIn iC) (fun self => PySem.W.bind_fn I1.kIn self tI) hus
    (codeAny_mono (F1.run _ X.stack _ _ ⟨Value.ref (hp.objs.size + 1) :: us, []⟩ (Value.ref (hp.objs.size + 1) :: us) _ _ E0 (hr.make C us []) (I2.env0.make C us []) bd rv hq) fun r s' hh => ?_))
  cases r with
  | error er => exact False.elim hh
  | ok fl =>
    cases fl with
    | next => exact hh.elim
    | brk => exact hh.elim
    | cont => exact hh.elim
    | ret u =>
      obtain ⟨v, H2, os2, bare2, un2, hok2, r3, rfl, q2⟩ := hh
      obtain ⟨h2, g2, d2, t2, os'⟩ := s'
      exact ⟨r3, .ref (hp.objs.size + 1), H2, I2.call' (ch := []) os2 un2 hok2 bare2 (fun b z => absurd z (by simp)), rfl, q2⟩
theorem exs_ok {P : Program} {w : World} {H : Hp} {h : Heap} {a t : Addr} (e : h.get? a = some (PySem.W.excObj C t none .none)) : ObjOk P w H h a (exs a C t) := ⟨e, ⟨_, e⟩, fun _ _ q k => k _ q⟩
theorem exs_at {P : Program} {w : World} {H : Hp} {h : Heap} {a t : Addr} (hok : HOk P w H h) (e : H a = some (exs a C t)) : h.get? a = some (PySem.W.excObj C t none .none) := by
  have z : ObjOk P w H h a (.ext fun h => h.get? a = some (PySem.W.excObj C t none .none)) := hok a _ e
  exact z.1
theorem pe_exT {x : Str} (F : ExcBaseFacts B mk ini bm) (q : PySem.W.excInitIn X.K C bm mk = true) (hi : PySem.W.findIn X.K (.ref C) "__init__" = some (some (.builtin ini))) (kC : PySem.W.keepIn X.K (.ref C) = true) (hg : Gl X x) (hm : X.mg x = some (.ref C)) (he : PE X e te)
    (hdb : (x == ("__debug__" : Str)) = false := by decide) (hs : starEach [e] X.env = (false, eval e X.env) :: starEach [] X.env := by rfl) : PE X (.Call (.Name x p) [e] [] pos) (tExT C te) := by
  refine ⟨fun pins s σ H Q I h => wpAny_Call_Name_kw (ld_glob I hg hm (PySem.W.callWith_K (h₀ := X.base) I.ok.mod.kin kC ?_ hs (by rfl)) hdb)⟩
  rw [hs]
  show wpAny _ _ (spliced ((false, eval e X.env) :: backTo pos (starEach [] X.env))) _ _ s
  refine Calls.spliced_cons (thn (he.run pins s σ H _ I h) fun u s1 hh => Calls.spliced_nil ?_)
  obtain ⟨v, H1, I1, r1, q1⟩ := hh
  refine ⟨I1.kIn, ?_⟩
  show wpAny _ _ (call (.ref C) [u]) _ _ _
  obtain ⟨nm, N, qn, bs, bm', hdct, sn, sub, ab, col, dd, k0, k1, k2, k3, k5, hC, hT⟩ := PySem.W.excInit_of I1.kIn q
  obtain ⟨hp, g, dr, tk, os⟩ := s1
  refine PySem.W.call_B F hT hC (PySem.W.looks_findIn I1.kIn hi) (by show 1 ≤ sizeLine; rw [sizeLine_eq]; omega) fun h' k ea et => ?_
  have na : H1 (hp.objs.size + 1) = none := I1.hok.fresh (Nat.le_succ _)
  have nt : H1 (hp.objs.size + 2) = none := I1.hok.fresh (Nat.le_add_right _ 2)
  have ne : hp.objs.size + 1 ≠ hp.objs.size + 2 := by omega
  obtain ⟨G, g1, g2⟩ := restrict h' fun b => decide (b ≠ hp.objs.size + 1)
  have gk : ∀ b, b ≠ hp.objs.size + 1 → G.get? b = h'.get? b := fun b hb => g1 b (decide_eq_true hb)
  have ga : G.get? (hp.objs.size + 1) = none := g2 _ (by simp)
  have old : ∀ {b : Addr} {o : Obj}, hp.get? b = some o → b < hp.objs.size := fun z => Heap.lt_size z
  have J := I1.laidN (t' := tk) (h' := G) (a := hp.objs.size + 2) (o := .tup [v]) (fun b o z => by rw [gk b (Nat.ne_of_lt (Nat.lt_succ_of_lt (old z)))]; exact k b o z) (Heap.get?_none_of_le (Nat.le_add_right _ 2)) nt
    ⟨by show 1 ≤ sizeLine; rw [sizeLine_eq]; omega, [u], .cons r1 .nil, ⟨_, (gk _ ne.symm).trans et, rfl, _, rfl⟩⟩
  have n2 : upd H1 (hp.objs.size + 2) (.tup [v]) (hp.objs.size + 1) = none := by rw [upd_ne ne]; exact na
  have J2 := J.laidN (t' := tk) (h' := h') (a := hp.objs.size + 1) (o := exs (hp.objs.size + 1) C (hp.objs.size + 2)) (fun b o z => by
    by_cases hb : b = hp.objs.size + 1
    · rw [hb, ga] at z
      cases z
    · exact (gk b hb).symm.trans z) ga n2 (exs_ok ea)
  exact ⟨.ref (hp.objs.size + 1), _, J2, rfl, q1 _ _ na nt ne⟩
end
end Ow
namespace Ow
open PySem PySem.Spec PyProof.Rows L2
/-- at a: an error of the class at C, made of its args alone, or with what it keeps -/
def ErrAt (H : Hp) (a C : Addr) : Prop := (∃ t, H a = some (exs a C t)) ∨ ∃ (d : Addr) (fs : List (Str × V)), H a = some (exo a C (some d)) ∧ H d = some (exd d fs)
theorem ErrAt.same {H H' : Hp} {a C : Addr} (h : ErrAt H a C) (s : Same H H') : ErrAt H' a C := by
  rcases h with ⟨t, e⟩ | ⟨d, fs, e, e2⟩
  · exact .inl ⟨t, s _ _ e⟩
  · exact .inr ⟨d, fs, s _ _ e, s _ _ e2⟩
/-- what the class must say, so that isinstance asks its errors rightly -/
def isB (K : PySem.W.Frag) (C : Addr) : Bool := (PySem.W.clsIn K C).isSome && (decide (PySem.W.findIn K (.ref C) "__getattribute__" = some (some (.builtin "BaseException.__getattribute__"))) && (decide (PySem.W.findIn K (.ref C) "__getattr__" = some none) && (decide (PySem.W.subIn K (.ref C) (.type "BaseException") = some true) &&
  (decide (PySem.W.findIn K (.ref C) "__class__" = some (some (.builtin "object.__class__"))) && (decide (PySem.W.specialIn K (.builtin "object.__class__") "__get__" = some (some (.builtin "getset_descriptor.__get__"))) && (decide (PySem.W.takesIn K (.builtin "object.__class__") = some true) && decide (PySem.W.mroIn K C (.type "object") = some true)))))))
theorem isB_kit {K : PySem.W.Frag} {C a : Addr} {ox : Obj} {od : Option Obj} (h : isB K C = true) : PySem.W.KitX K (.ref a) (.ref C) (fun h => PySem.W.InstAt h a ox C od) := by
  unfold isB at h
  simp only [Bool.and_eq_true, decide_eq_true_eq] at h
  obtain ⟨h1, h2, h3, h4, h5, h6, h7, h8⟩ := h
  exact PySem.W.kitx_exc h1 h2 h3 h4 h5 h6 h7 h8
section
variable {X : Cx} {pins : List (Addr × Obj)} {σ : L2.St} {H : Hp} {s : Shared} {a C d : Addr}
theorem exo_inst {fs : List (Str × V)} (I : Inv X pins σ H s) (e : H a = some (exo a C (some d))) (e2 : H d = some (exd d fs)) : ∃ (ox od : Obj) (mA : Str → Option Value), PySem.W.InstAt s.heap a ox C (some od) ∧ (∀ f, RelO (fs.lookup f) (mA f)) ∧ ∀ f, PySem.W.lookIn f od = some (mA f) := by
  obtain ⟨t1, ho⟩ := exo_at I.hok e
  obtain ⟨mA, hns, rel⟩ := exd_at I.hok e2
  obtain ⟨od, hod, hl⟩ := lookIn_ns hns
  exact ⟨_, od, mA, ⟨ho, rfl, rfl, hod⟩, rel, hl⟩
theorem err_inst (I : Inv X pins σ H s) (h : ErrAt H a C) : ∃ (ox : Obj) (od : Option Obj), PySem.W.InstAt s.heap a ox C od := by
  rcases h with ⟨t, e⟩ | ⟨d, fs, e, e2⟩
  · exact ⟨_, none, exs_at I.hok e, rfl, rfl, trivial⟩
  · obtain ⟨ox, od, _, J, _⟩ := exo_inst I e e2
    exact ⟨ox, _, J⟩
end
/-- isinstance(e, c) -/
def rIsE (K : PySem.W.Frag) : List V → Hp → VK → Prop := fun xs H Q => ∃ (a C : Addr) (c : V) (cv : Value) (b : Bool), xs = [.ref a, c] ∧ ErrAt H a C ∧ isB K C = true ∧ ClsV c cv ∧ PySem.W.kitOne K (.ref C) cv = some b ∧ Q (.bl b) H
theorem c_isE {X : Cx} {K : PySem.W.Frag} (h : X.K = K := by rfl) : CallR X (.builtin "isinstance") (rIsE K) := by
  subst h
  intro pins s σ H xs us Q I r hh
  obtain ⟨a, C, c, cv, b, rfl, ea, T, hc, e, q⟩ := hh
  match r with
  | .cons rx (.cons rt .nil) =>
    cases rx
    cases hc.eq rt
    obtain ⟨ox, od, J⟩ := err_inst I ea
    exact PySem.W.kia_one (isB_kit T) I.kIn J e (fun z => nomatch z) fun tk => ⟨.bl b, H, I.kept (t' := tk) fun _ _ z => z, rfl, q⟩
/-- e.f, what an error keeps -/
def tEf (C : Addr) (f : Str) (te : TE) : TE := fun σ H Q => te σ H fun x H1 => ∃ (a d : Addr) (fs : List (Str × V)) (v : V), x = .ref a ∧ H1 a = some (exo a C (some d)) ∧ H1 d = some (exd d fs) ∧ fs.lookup f = some v ∧ Q v H1
theorem pe_ef {X : Cx} {C : Addr} {e : Expr} {te : TE} {pos : Pos} {n : Str} (T : XfC X.K C) (hno : PySem.W.findIn X.K (.ref C) n = some none) (he : PE X e te) (hb : attributeBase e n X.env (eval e X.env) = eval e X.env := by rfl) : PE X (.Attribute e n pos) (tEf C n te) := by
  refine ⟨fun pins s σ H Q I h => attr_of hb (thn (he.run pins s σ H _ I h) fun u s1 hh => ?_)⟩
  obtain ⟨x, H1, I1, rx, a, d, fs, v, rfl, ea, ed, l, q⟩ := hh
  cases (show u = Value.ref a from rx)
  obtain ⟨ox, od, mA, J, rel, hl⟩ := exo_inst I1 ea ed
  obtain ⟨u, hu, ru⟩ := RelO.some_of (v := v) (o := mA n) (by rw [← l]; exact rel n)
  exact HandSPX.exc_get I1.kIn J T.ga T.gg T.exC (PySem.W.findObj_own T.hdC hno rfl (by rw [hl, hu])) (handed_of ru) ⟨v, H1, I1.tok _, ru, q⟩
/-- str(e), e made of one text -/
def rStrE (K : PySem.W.Frag) : List V → Hp → VK → Prop := fun xs H Q => ∃ (a C t : Addr) (z : Str), xs = [.ref a] ∧ H a = some (exs a C t) ∧ H t = some (.tup [.str z]) ∧ PySem.W.findIn K (.ref C) "__str__" = some (some (.builtin "BaseException.__str__")) ∧ PySem.W.subIn K (.ref C) (.type "BaseException") = some true ∧ Q (.str z) H
theorem c_strE {X : Cx} {K : PySem.W.Frag} (hu : X.A.units + 64 < cLine) (h : X.K = K := by rfl) : CallR X (.type "str") (rStrE K) := by
  subst h
  intro pins s σ H xs us Q I r hh
  obtain ⟨a, C, t, z, rfl, ea, et, hs, hB, q⟩ := hh
  match r with
  | .cons rx .nil =>
    cases rx
    have ot : ObjOk X.prog X.w H s.heap t (.tup [.str z]) := I.hok t _ et
    obtain ⟨_, its, rv, ob, ho, hc, n, hd⟩ := ot
    match its, rv with
    | [_], .cons ⟨tk, rfl⟩ .nil => exact PySem.P.str_of_C_one (by omega) (K := X.K) (C := C) (t0 := t) ⟨I.kIn, _, _, exs_at I.hok ea, rfl, rfl, rfl⟩ ⟨ob, n, ho, hc, hd⟩ hs hB ⟨.str z, H, I, ⟨tk, rfl⟩, q⟩
/-! ### repr of data, where no repr is under way -/
mutual
/-- data in the heap -/
inductive RdH (H : Hp) : V → PyData → Prop
  | non : RdH H .non .none
  | bl (b : Bool) : RdH H (.bl b) (.bool b)
  | int (i : Int) : RdH H (.int i) (.int i)
  | str (x : Str) : RdH H (.str x) (.str x)
  | lst {a : Addr} {xs : List V} {ds : List PyData} : H a = some (.lst xs) → RdA H xs ds → RdH H (.ref a) (.list ds)
  | tup {a : Addr} {xs : List V} {ds : List PyData} : H a = some (.tup xs) → RdA H xs ds → RdH H (.ref a) (.tuple ds)
  | dct {a : Addr} (x : Str) (i : Int) : H a = some (.dK [(.inr x, .int i)]) → RdH H (.ref a) (.dict [(.str x, .int i)])
inductive RdA (H : Hp) : List V → List PyData → Prop
  | nil : RdA H [] []
  | cons {v : V} {vs : List V} {d : PyData} {ds : List PyData} : RdH H v d → RdA H vs ds → RdA H (v :: vs) (d :: ds)
end
mutual
theorem RdH.same {H H' : Hp} (s : Same H H') {v : V} {d : PyData} : RdH H v d → RdH H' v d
  | .non => .non
  | .bl b => .bl b
  | .int i => .int i
  | .str x => .str x
  | .lst e h => .lst (s _ _ e) (RdA.same s h)
  | .tup e h => .tup (s _ _ e) (RdA.same s h)
  | .dct x i e => .dct x i (s _ _ e)
theorem RdA.same {H H' : Hp} (s : Same H H') {v : List V} {d : List PyData} : RdA H v d → RdA H' v d
  | .nil => .nil
  | .cons h t => .cons (RdH.same s h) (RdA.same s t)
end
section
variable {X : Cx} {pins : List (Addr × Obj)} {σ : L2.St} {H : Hp} {s : Shared}
theorem sysM_free (I : Inv X pins σ H s) (hS : ∃ o, X.base.get? sysModules = some o) : H sysModules = none := by
  obtain ⟨o, e⟩ := hS
  exact I.base.free _ _ (I.ok.bs _ _ e).1 (I.ok.bs _ _ e).2 (I.ok.noex _ _ e)
mutual
theorem RdH.reads (I : Inv X pins σ H s) (hS : H sysModules = none) {v : V} {d : PyData} {u : Value} (r : RelV v u) : RdH H v d → ∃ as, Reads s.heap u d as ∧ sysModules ∉ as
  | .non => by cases r; exact ⟨_, .none, fun z => nomatch z⟩
  | .bl b => by cases r; exact ⟨_, .bool b, fun z => nomatch z⟩
  | .int i => by obtain ⟨t, rfl⟩ := r; exact ⟨_, .int i t, fun z => nomatch z⟩
  | .str x => by obtain ⟨t, rfl⟩ := r; exact ⟨_, .str x t, fun z => nomatch z⟩
  | .lst (a := a) (xs := xs) e h => by
    cases r
    have ob : ObjOk X.prog X.w H s.heap a (.lst xs) := I.hok a _ e
    obtain ⟨_, its, n, rv, ho⟩ := ob
    obtain ⟨as, q, z⟩ := RdA.reads I hS rv h
    refine ⟨_, .list ho rfl rfl (by simpa using q), fun m => ?_⟩
    rcases List.mem_cons.mp m with m | m
    · rw [← m, hS] at e
      cases e
    · exact z m
  | .tup (a := a) (xs := xs) e h => by
    cases r
    have ob : ObjOk X.prog X.w H s.heap a (.tup xs) := I.hok a _ e
    obtain ⟨_, its, rv, o, ho, hc, n, hd⟩ := ob
    obtain ⟨as, q, z⟩ := RdA.reads I hS rv h
    exact ⟨_, .tuple ho hc hd (by simpa using q), z⟩
  | .dct (a := a) x i e => by
    cases r
    have ob : ObjOk X.prog X.w H s.heap a (.dK [(.inr x, .int i)]) := I.hok a _ e
    obtain ⟨_, hsm, vs, rel, o, es, ep, ho, hx, hd, _, pr, _⟩ := ob
    match vs, rel with
    | [(_, _)], .cons ⟨rfl, tk, rfl⟩ .nil =>
      obtain ⟨l⟩ := es
      match l, pr with
      | [en], .cons hk hv .nil =>
        obtain ⟨t2, ek⟩ : ∃ t2, en.key = .str x t2 := by
          have hk' : keyIs (.inr x) en.key = true := hk
          rcases keyIs_shape hk' with ⟨i', t', e1, e2⟩ | ⟨x', t', e1, e2⟩
          · cases e1
          · cases e1
            exact ⟨t', e2⟩
        refine ⟨_, .dict (kvs := [(.str x, .int i)]) ho hx.1 hd (as := [] ++ []) (bs := [] ++ []) ?_ ?_, fun m => ?_⟩
        · show ReadsAll s.heap [en.key] [.str x] _
          rw [ek]
          exact .cons (.str x t2) .nil
        · show ReadsAll s.heap [en.val] [.int i] _
          rw [hv]
          exact .cons (.int i tk) .nil
        · have m2 : sysModules = a := by simpa using m
          rw [m2, beq_self_eq_true] at hsm
          cases hsm
theorem RdA.reads (I : Inv X pins σ H s) (hS : H sysModules = none) {vs : List V} {ds : List PyData} {us : List Value} (r : Vals vs us) : RdA H vs ds → ∃ as, ReadsAll s.heap us ds as ∧ sysModules ∉ as
  | .nil => by cases r; exact ⟨_, .nil, fun z => nomatch z⟩
  | .cons h t => by
    match r with
    | .cons r1 r2 =>
      obtain ⟨as, q1, z1⟩ := RdH.reads I hS r1 h
      obtain ⟨bs, q2, z2⟩ := RdA.reads I hS r2 t
      exact ⟨_, .cons q1 q2, fun m => (List.mem_append.mp m).elim z1 z2⟩
end
end
/-- repr -/
def rRepr : List V → Hp → VK → Prop := fun xs H Q => (xs = [.non] ∧ Q (.str "None") H) ∨ (∃ i : Int, xs = [.int i] ∧ i.natAbs.log2 < 1920 ∧ Q (.str (toString i)) H) ∨
  ∃ (a : Addr) (d : PyData), xs = [.ref a] ∧ RdH H (.ref a) d ∧ d.showable = true ∧ d.shown.length ≤ 1000 ∧ d.depth ≤ 20 ∧ Q (.str d.shown) H
theorem c_repr {X : Cx} (hG : X.A.guards = some []) (hu : X.A.units + 64 < cLine) (hS : ∃ o, X.base.get? sysModules = some o) : CallR X (.builtin "repr") rRepr := by
  intro pins s σ H xs us Q I r hh
  rcases hh with ⟨rfl, q⟩ | ⟨i, rfl, hi, q⟩ | ⟨a, d, rfl, h, hs, hl, hd, q⟩
  · obtain ⟨u, rfl, rx⟩ := vals1 r
    cases rx
    exact PySem.P.repr_of_none ⟨.str _, H, I.tok _, ⟨_, rfl⟩, q⟩
  · obtain ⟨u, rfl, t, rfl⟩ := vals1 r
    exact PySem.P.repr_of_int hi ⟨.str _, H, I.tok _, ⟨_, rfl⟩, q⟩
  · obtain ⟨u, rfl, rx⟩ := vals1 r
    cases rx
    obtain ⟨as, rd, no⟩ := RdH.reads I (sysM_free I hS) (v := .ref a) (u := .ref a) rfl h
    refine repr_of_reads' rd hs (fun _ => no) hG (by omega) (fun _ _ z => z) (fun h' u tk hk => ⟨.str _, H, I.kept (t' := tk) hk, ⟨_, rfl⟩, q⟩) (Nat.le_trans hl (by decide))
/-! ### texts -/
/-- "." * n -/
def rDots : R2 := fun x y H Q => ∃ n : Int, x = .str "." ∧ y = .int n ∧ 0 ≤ n ∧ n ≤ 1000 ∧ Q (.str ⟨(List.replicate n.toNat 46).toArray⟩) H
theorem rep_one (c : Nat) : ∀ (n : Nat) (acc : Array Nat), (List.replicate n #[c]).foldl (· ++ ·) acc = acc ++ (List.replicate n c).toArray
  | 0, acc => by simp
  | n + 1, acc => by
    rw [List.replicate_succ, List.foldl_cons, rep_one c n, List.replicate_succ]
    apply Array.ext'
    simp
theorem op_dots {X : Cx} : OpR X (binaryOp .Mult) rDots := by
  intro pins s σ H x y v u Q I rx ry h
  obtain ⟨n, rfl, rfl, h0, h1, q⟩ := h
  obtain ⟨t, rfl⟩ := rx
  obtain ⟨t2, rfl⟩ := ry
  have dot : ("." : Str) = ⟨#[46]⟩ := by decide +kernel
  have len : ("." : Str).length = 1 := by decide +kernel
  refine PySem.P.mul_str (by simp; omega) (fun hn _ => ?_) (fun hn _ => ?_) ?_
  · rw [len]
    have : (1 : Int) ≤ (2 ^ 63 - 1) / n := Int.le_ediv_of_mul_le (by omega) (by omega)
    omega
  · rw [len]
    have e : PySem.Builtin.Str.tooLong (1 * n.toNat) = false ↔ True := ⟨fun _ => trivial, fun _ => by
      show decide (sizeLine < 1 * n.toNat) = false
      refine decide_eq_false fun z => ?_
      have := sizeLine_eq
      omega⟩
    exact e.mpr trivial
  · split
    · rename_i hn
      have : n = 0 := by omega
      subst this
      exact ⟨by decide, .str _, H, I.tok _, ⟨_, rfl⟩, q⟩
    · split
      · rename_i hn h2
        have : n = 1 := by
          rw [len] at h2
          simpa using h2
        subst this
        refine ⟨.str _, H, I, ⟨t, rfl⟩, ?_⟩
        rw [dot]
        exact q
      · rw [dot, rep_one, Array.empty_append]
        refine ⟨?_, .str _, H, I.tok _, ⟨_, rfl⟩, q⟩
        show (List.replicate n.toNat 46).toArray.size ≤ sizeLine
        rw [List.size_toArray, List.length_replicate, sizeLine_eq]
        omega
def marks (bs : List Bool) : Str := ⟨(bs.map fun b => if b then 120 else 46).toArray⟩
theorem join_marks (bs : List Bool) : Txt.join "" (bs.map fun b => if b then ("x" : Str) else ".") = marks bs := by
  have e := join_nil (bs.map fun b => if b then ("x" : Str) else ".")
  have x : ("x" : Str).cps.toList = [120] := by decide +kernel
  have d : ("." : Str).cps.toList = [46] := by decide +kernel
  have f : ((bs.map fun b => if b then ("x" : Str) else ".").map fun y => y.cps.toList).flatten = bs.map fun b => if b then 120 else 46 := by
    clear e
    induction bs with
    | nil => rfl
    | cons b bs ih =>
      rw [List.map_cons, List.map_cons, List.flatten_cons, ih, List.map_cons]
      cases b <;> simp [x, d]
  rw [f] at e
  generalize Txt.join "" (bs.map fun b => if b then ("x" : Str) else ".") = z at e ⊢
  obtain ⟨c⟩ := z
  unfold marks
  congr 1
  apply Array.ext'
  simpa using e
end Ow
/-! k00: the classes of errors, their rows of answers, readings by name. -/
namespace Ow
open PySem PySem.Spec PyProof.Rows L2
theorem exAt {l : List Bool} {n : Nat} {b : Bool} (h : l = List.replicate n true) (i : Nat) (e : l[i]? = some b) : b = true := by
  rw [h] at e
  exact List.eq_of_mem_replicate (List.mem_of_getElem? e)
theorem eqv_strs : ∀ l : List Str, PyData.eqvAll (l.map PyData.str) (l.map PyData.str) = true
  | [] => rfl
  | z :: l => by
    show (z == z && PyData.eqvAll (l.map PyData.str) (l.map PyData.str)) = true
    rw [beq_self_eq_true, eqv_strs l] <;> rfl
theorem dpa_strs {K : PySem.W.Frag} {H : Hp} : ∀ l : List Str, DpAll K H (l.map V.str) (l.map PyData.str)
  | [] => .nil
  | z :: l => .cons (.str z) (dpa_strs l)
/-- two lists of the same texts -/
theorem y_neTs {K : PySem.W.Frag} {H : Hp} {Q : VK} {p q : Addr} (l : List Str) (e1 : H p = some (.lst (l.map V.str))) (e2 : H q = some (.lst (l.map V.str))) (sh : SeqAt.shaped (.list (l.map PyData.str)) = true) (h : Q (.bl false) H) : rNeD K (.ref p) (.ref q) H Q :=
  ⟨.list _, .list _, .lst (sql e1) (dpa_strs l), .lst (sql e2) (dpa_strs l), sh, sh, by rw [show PyData.eqv (.list (l.map PyData.str)) (.list (l.map PyData.str)) = true from eqv_strs l]; exact h⟩
/-- at p: an error of the class at C, made of v alone -/
def TE1 (H : Hp) (p C : Addr) (v : V) : Prop := ∃ t, H p = some (exs p C t) ∧ H t = some (.tup [v])
theorem TE1.same {H H' : Hp} {p C : Addr} {v : V} (h : TE1 H p C v) (s : Same H H') : TE1 H' p C v := h.imp fun _ z => ⟨s _ _ z.1, s _ _ z.2⟩
theorem TE1.err {H : Hp} {p C : Addr} {v : V} (h : TE1 H p C v) : ErrAt H p C := .inl (h.imp fun _ z => z.1)
/-- at p: an error of the class at C that keeps v under the name f -/
def KE1 (H : Hp) (p C : Addr) (f : Str) (v : V) : Prop := ∃ d, H p = some (exo p C (some d)) ∧ H d = some (exd d [(f, v)])
theorem KE1.same {H H' : Hp} {p C : Addr} {f : Str} {v : V} (h : KE1 H p C f v) (s : Same H H') : KE1 H' p C f v := h.imp fun _ z => ⟨s _ _ z.1, s _ _ z.2⟩
theorem KE1.err {H : Hp} {p C : Addr} {f : Str} {v : V} (h : KE1 H p C f v) : ErrAt H p C := .inr (h.imp fun _ z => ⟨_, z.1, z.2⟩)
section
variable {C : Addr} {f : Str} {i : Nat} {σ : L2.St} {H : Hp} {Q : VK} {v : V} {K : PySem.W.Frag}
theorem y_exT (e : σ[i]? = some (some v)) (h : ∀ p H', Same H H' → TE1 H' p C v → Q (.ref p) H') : tExT C (tVar i) σ H Q :=
  ⟨v, e, fun a t na nt ne => h a _ ((same_new nt).trans (same_new (by rw [upd_ne ne]; exact na))) ⟨t, upd_same, by rw [upd_ne ne.symm]; exact upd_same⟩⟩
theorem y_exI' {te : TE} (he : te σ H fun w H1 => w = v ∧ H1 = H) (h : ∀ p H', Same H H' → KE1 H' p C f v → Q (.ref p) H') (mono : ∀ (R R' : VK), (∀ w H1, R w H1 → R' w H1) → te σ H R → te σ H R') : tExI C (spEI C f) (tCons te tNil) σ H Q :=
  mono _ _ (fun w H1 z => by
    obtain ⟨rfl, rfl⟩ := z
    refine ⟨by show 1 ≤ 1000; decide, fun a na => ⟨a, w, rfl, upd_same, fun d nd da => ⟨rfl, h a _ (fun b o hb => ?_) ⟨d, upd_same, by rw [upd_ne da]; exact upd_same⟩⟩⟩⟩
    have b1 : b ≠ a := ne_of_none hb na
    have b2 : b ≠ d := fun z => by
      rw [upd_ne da] at nd
      rw [z, nd] at hb
      cases hb
    rw [upd_ne b1, upd_ne b2, upd_ne b1]
    exact hb) he
theorem y_exI (e : σ[i]? = some (some v)) (h : ∀ p H', Same H H' → KE1 H' p C f v → Q (.ref p) H') : tExI C (spEI C f) (tCons (tVar i) tNil) σ H Q :=
  y_exI' (te := tVar i) ⟨v, e, rfl, rfl⟩ h fun R R' m z => z.imp fun _ y => ⟨y.1, m _ _ y.2⟩
theorem y_exC (h : ∀ p H', Same H H' → KE1 H' p C f v → Q (.ref p) H') : tExI C (spEI C f) (tCons (tC v) tNil) σ H Q :=
  y_exI' (te := tC v) ⟨rfl, rfl⟩ h fun R R' m z => m _ _ z
theorem y_ef {te : TE} (h : te σ H fun x H1 => ∃ (a d : Addr) (fs : List (Str × V)) (v : V), x = .ref a ∧ H1 a = some (exo a C (some d)) ∧ H1 d = some (exd d fs) ∧ fs.lookup f = some v ∧ Q v H1) : tEf C f te σ H Q := h
/-- e.f -/
theorem ef_at {p : Addr} (k : KE1 H p C f v) (h : Q v H) : ∃ (a d : Addr) (fs : List (Str × V)) (w : V), V.ref p = .ref a ∧ H a = some (exo a C (some d)) ∧ H d = some (exd d fs) ∧ fs.lookup f = some w ∧ Q w H := by
  obtain ⟨d, e1, e2⟩ := k
  exact ⟨p, d, _, v, rfl, e1, e2, by simp [List.lookup], h⟩
theorem y_isE {a : Addr} {c : V} {cv : Value} {b : Bool} (ea : ErrAt H a C) (T : isB K C = true) (hc : ClsV c cv) (e : PySem.W.kitOne K (.ref C) cv = some b) (h : Q (.bl b) H) : rIsE K [.ref a, c] H Q := ⟨a, C, c, cv, b, rfl, ea, T, hc, e, h⟩
theorem y_strE {p : Addr} {z : Str} (k : TE1 H p C (.str z)) (h1 : PySem.W.findIn K (.ref C) "__str__" = some (some (.builtin "BaseException.__str__"))) (h2 : PySem.W.subIn K (.ref C) (.type "BaseException") = some true) (h : Q (.str z) H) : rStrE K [.ref p] H Q := by
  obtain ⟨t, e1, e2⟩ := k
  exact ⟨p, C, t, z, rfl, e1, e2, h1, h2, h⟩
end
/-! ### rows of answers -/
def RowOf (K : PySem.W.Frag) (C : Addr) (tg : List Value) (row : List Bool) : Prop := tg.map (PySem.W.kitOne K (.ref C)) = row.map some
theorem RowOf.at {K : PySem.W.Frag} {C : Addr} {tg : List Value} {row : List Bool} (h : RowOf K C tg row) {i : Nat} {v : Value} {b : Bool} (e : tg[i]? = some v) (q : row[i]? = some b) : PySem.W.kitOne K (.ref C) v = some b := by
  have z := congrArg (fun l => l[i]?) h
  simp only [List.getElem?_map, e, q, Option.map_some] at z
  exact Option.some.inj z
theorem len13 {α : Type} {l : List α} (h : l.length = 13) : ∃ a0 a1 a2 a3 a4 a5 a6 a7 a8 a9 a10 a11 a12, l = [a0, a1, a2, a3, a4, a5, a6, a7, a8, a9, a10, a11, a12] := match l, h with
  | [_, _, _, _, _, _, _, _, _, _, _, _, _], _ => ⟨_, _, _, _, _, _, _, _, _, _, _, _, _, rfl⟩
theorem len12 {α : Type} {l : List α} (h : l.length = 12) : ∃ a0 a1 a2 a3 a4 a5 a6 a7 a8 a9 a10 a11, l = [a0, a1, a2, a3, a4, a5, a6, a7, a8, a9, a10, a11] := match l, h with
  | [_, _, _, _, _, _, _, _, _, _, _, _], _ => ⟨_, _, _, _, _, _, _, _, _, _, _, _, rfl⟩
def baseN : List Str := [("InvalidWord" : Str), ("InvalidFraction" : Str), ("InvalidGame" : Str), ("InvalidHouse" : Str), ("InvalidRow" : Str), ("InvalidWeights" : Str), ("InvalidPolicy" : Str), ("InvalidController" : Str), ("InvalidLot" : Str), ("InvalidOperation" : Str), ("GameError" : Str)]
def kinV (K : PySem.W.Frag) : List Value := [.ref (He.ga K "InvalidWord"), .ref (He.ga K "InvalidFraction"), .ref (He.ga K "InvalidGame"), .ref (He.ga K "InvalidHouse"), .ref (He.ga K "InvalidRow"), .ref (He.ga K "InvalidWeights"), .ref (He.ga K "InvalidPolicy"), .ref (He.ga K "InvalidController"), .ref (He.ga K "InvalidLot"), .ref (He.ga K "InvalidOperation"), .ref (He.ga K "ParseError"), .ref (He.ga K "GameError"), .type "ValueError"]
def othV (K : PySem.W.Frag) : List Value := [.ref (He.ga K "UnknownGame"), .ref (He.ga K "NoRow"), .ref (He.ga K "NothingToUndo"), .ref (He.ga K "TooMany"), .ref (He.ga K "Refused"), .ref (He.ga K "InvalidNumber"), .type "KeyError", .type "IndexError", .type "LookupError", .type "OverflowError", .type "ArithmeticError", .type "RuntimeError"]
/-- a class, what its errors are by own classes, and by the others -/
def tblB : List (Str × List Bool × List Bool) := [(("InvalidWord" : Str), [true, false, false, false, false, false, false, false, false, false, false, true, true], [false, false, false, false, false, false, false, false, false, false, false, false]), (("InvalidFraction" : Str), [false, true, false, false, false, false, false, false, false, false, false, true, true], [false, false, false, false, false, false, false, false, false, false, false, false]), (("InvalidGame" : Str), [false, false, true, false, false, false, false, false, false, false, false, true, true], [false, false, false, false, false, false, false, false, false, false, false, false]), (("InvalidHouse" : Str), [false, false, false, true, false, false, false, false, false, false, false, true, true], [false, false, false, false, false, false, false, false, false, false, false, false]), (("InvalidRow" : Str), [false, false, false, false, true, false, false, false, false, false, false, true, true], [false, false, false, false, false, false, false, false, false, false, false, false]), (("InvalidWeights" : Str), [false, false, false, false, false, true, false, false, false, false, false, true, true], [false, false, false, false, false, false, false, false, false, false, false, false]), (("InvalidPolicy" : Str), [false, false, false, false, false, false, true, false, false, false, false, true, true], [false, false, false, false, false, false, false, false, false, false, false, false]), (("InvalidController" : Str), [false, false, false, false, false, false, false, true, false, false, false, true, true], [false, false, false, false, false, false, false, false, false, false, false, false]), (("InvalidLot" : Str), [false, false, false, false, false, false, false, false, true, false, false, true, true], [false, false, false, false, false, false, false, false, false, false, false, false]), (("InvalidOperation" : Str), [false, false, false, false, false, false, false, false, false, true, false, true, true], [false, false, false, false, false, false, false, false, false, false, false, false]), (("ParseError" : Str), [false, false, false, false, false, false, false, false, false, false, true, true, true], [false, false, false, false, false, false, false, false, false, false, false, false]), (("GameError" : Str), [false, false, false, false, false, false, false, false, false, false, false, true, true], [false, false, false, false, false, false, false, false, false, false, false, false])]
def tblS : List (Str × List Bool × List Bool) := [(("UnknownGame" : Str), [false, false, false, false, false, false, false, false, false, false, false, false, false], [true, false, false, false, false, false, true, false, true, false, false, false]), (("NoRow" : Str), [false, false, false, false, false, false, false, false, false, false, false, false, false], [false, true, false, false, false, false, false, false, true, false, false, false]), (("NothingToUndo" : Str), [false, false, false, false, false, false, false, false, false, false, false, false, false], [false, false, true, false, false, false, false, true, true, false, false, false]), (("TooMany" : Str), [false, false, false, false, false, false, false, false, false, false, false, false, false], [false, false, false, true, false, false, false, false, false, true, true, false]), (("Refused" : Str), [false, false, false, false, false, false, false, false, false, false, false, false, false], [false, false, false, false, true, false, false, false, false, false, true, false]), (("InvalidNumber" : Str), [false, false, false, false, false, false, false, false, false, false, false, false, false], [false, false, false, false, false, true, false, false, false, false, false, true])]
theorem tbl_len : ∀ p ∈ tblB ++ tblS, p.2.1.length = 13 ∧ p.2.2.length = 12 := by decide +kernel
def rowB (K : PySem.W.Frag) (p : Str × List Bool × List Bool) : Bool := decide ((kinV K).map (PySem.W.kitOne K (.ref (He.ga K p.1))) = p.2.1.map some) && (decide ((othV K).map (PySem.W.kitOne K (.ref (He.ga K p.1))) = p.2.2.map some) && isB K (He.ga K p.1))
def txB (K : PySem.W.Frag) (x : Str) : Bool := PySem.W.excInitIn K (He.ga K x) PySem.HandSPX.veTail "ValueError.__new__" && (decide (PySem.W.findIn K (.ref (He.ga K x)) "__init__" = some (some (.builtin "ValueError.__init__"))) && (PySem.W.keepIn K (.ref (He.ga K x)) && (decide (PySem.W.findIn K (.ref (He.ga K x)) "__str__" = some (some (.builtin "BaseException.__str__"))) && decide (PySem.W.subIn K (.ref (He.ga K x)) (.type "BaseException") = some true))))
def oxB (K : PySem.W.Frag) (x f : Str) (mk B : String) (tl : List Value) : Bool := mkB K (He.ga K x) mk B && (PySem.W.excOver K (He.ga K x) tl && (PySem.W.hasDictIn K (He.ga K x) && (decide (PySem.W.findIn K (.ref (He.ga K x)) "__setattr__" = some (some (.builtin "object.__setattr__"))) && (PySem.W.keepIn K (.ref (He.ga K x)) &&
  (decide (PySem.W.findIn K (.ref (He.ga K x)) "__init__" = some (some (.ref (He.ma K (He.ga K x) "__init__")))) && (decide (PySem.W.typeIn K (.ref (He.ma K (He.ga K x) "__init__")) = some (.type "function")) && (decide (PySem.W.findIn K (.ref (He.ga K x)) f = some none) && xfB K (He.ga K x))))))))
structure TxC (K : PySem.W.Frag) (C : Addr) : Prop where
  q : PySem.W.excInitIn K C PySem.HandSPX.veTail "ValueError.__new__" = true
  hi : PySem.W.findIn K (.ref C) "__init__" = some (some (.builtin "ValueError.__init__"))
  kC : PySem.W.keepIn K (.ref C) = true
  hs : PySem.W.findIn K (.ref C) "__str__" = some (some (.builtin "BaseException.__str__"))
  hB : PySem.W.subIn K (.ref C) (.type "BaseException") = some true
theorem txB_ok {K : PySem.W.Frag} {x : Str} (h : txB K x = true) : TxC K (He.ga K x) := by
  unfold txB at h
  simp only [Bool.and_eq_true, decide_eq_true_eq] at h
  exact ⟨h.1, h.2.1, h.2.2.1, h.2.2.2.1, h.2.2.2.2⟩
structure OxC (K : PySem.W.Frag) (C fI : Addr) (f : Str) (mk ini B T : String) (bm tl : List Value) : Prop where
  G : OexG K C mk ini B T bm tl
  iC : PySem.W.findIn K (.ref C) "__init__" = some (some (.ref fI))
  tI : PySem.W.typeIn K (.ref fI) = some (.type "function")
  no : PySem.W.findIn K (.ref C) f = some none
  xf : XfC K C
theorem oxB_ok {K : PySem.W.Frag} {x f : Str} {mk ini B T : String} {bm tl : List Value} (F : ExcBaseFacts B mk ini bm) (S : StoreFacts T tl "object.__setattr__" "object") (h : oxB K x f mk B tl = true) : OxC K (He.ga K x) (He.ma K (He.ga K x) "__init__") f mk ini B T bm tl := by
  unfold oxB at h
  simp only [Bool.and_eq_true, decide_eq_true_eq] at h
  obtain ⟨h1, h2, h3, h4, h5, h6, h7, h8, h9⟩ := h
  exact ⟨⟨F, S, h1, h2, h3, h4, h5⟩, h6, h7, h8, xfB_ok h9⟩
/-- an error that stands at v, its rows -/
def ErR (K : PySem.W.Frag) (H : Hp) (v : V) (k o : List Bool) : Prop := ∃ a C, v = .ref a ∧ ErrAt H a C ∧ isB K C = true ∧ RowOf K C (kinV K) k ∧ RowOf K C (othV K) o ∧ k.length = 13 ∧ o.length = 12
theorem ErR.same {K : PySem.W.Frag} {H H' : Hp} {v : V} {k o : List Bool} (h : ErR K H v k o) (s : Same H H') : ErR K H' v k o := by
  obtain ⟨a, C, e, ea, r⟩ := h
  exact ⟨a, C, e, ea.same s, r⟩
/-- the errors of a list, by their rows -/
def ErL (K : PySem.W.Frag) (H : Hp) : List V → List (Str × List Bool × List Bool) → Prop
  | [], [] => True
  | v :: vs, r :: rs => ErR K H v r.2.1 r.2.2 ∧ ErL K H vs rs
  | _, _ => False
theorem ErL.same {K : PySem.W.Frag} {H H' : Hp} (s : Same H H') : ∀ {vs : List V} {rs : List (Str × List Bool × List Bool)}, ErL K H vs rs → ErL K H' vs rs
  | [], [], _ => trivial
  | _ :: _, _ :: _, h => ⟨h.1.same s, ErL.same s h.2⟩
  | [], _ :: _, h => h.elim
  | _ :: _, [], h => h.elim
theorem ErL.at {K : PySem.W.Frag} {H : Hp} : ∀ {vs : List V} {rs : List (Str × List Bool × List Bool)} {j : Nat} {v : V}, ErL K H vs rs → vs[j]? = some v → ∃ r, rs[j]? = some r ∧ ErR K H v r.2.1 r.2.2
  | v :: vs, r :: rs, 0, w, h, e => by
    cases e
    exact ⟨r, rfl, h.1⟩
  | v :: vs, r :: rs, j + 1, w, h, e => ErL.at (j := j) h.2 e
  | [], _, j, w, _, e => by simp at e
  | _ :: _, [], _, _, h, _ => h.elim
/-- what the head tells of all of them -/
structure ErrF (K : PySem.W.Frag) (mg : Str → Option Value) : Prop where
  g_InvalidWord : mg "InvalidWord" = some (.ref (He.ga K "InvalidWord"))
  g_InvalidFraction : mg "InvalidFraction" = some (.ref (He.ga K "InvalidFraction"))
  g_InvalidGame : mg "InvalidGame" = some (.ref (He.ga K "InvalidGame"))
  g_InvalidHouse : mg "InvalidHouse" = some (.ref (He.ga K "InvalidHouse"))
  g_InvalidRow : mg "InvalidRow" = some (.ref (He.ga K "InvalidRow"))
  g_InvalidWeights : mg "InvalidWeights" = some (.ref (He.ga K "InvalidWeights"))
  g_InvalidPolicy : mg "InvalidPolicy" = some (.ref (He.ga K "InvalidPolicy"))
  g_InvalidController : mg "InvalidController" = some (.ref (He.ga K "InvalidController"))
  g_InvalidLot : mg "InvalidLot" = some (.ref (He.ga K "InvalidLot"))
  g_InvalidOperation : mg "InvalidOperation" = some (.ref (He.ga K "InvalidOperation"))
  g_ParseError : mg "ParseError" = some (.ref (He.ga K "ParseError"))
  g_GameError : mg "GameError" = some (.ref (He.ga K "GameError"))
  g_UnknownGame : mg "UnknownGame" = some (.ref (He.ga K "UnknownGame"))
  g_NoRow : mg "NoRow" = some (.ref (He.ga K "NoRow"))
  g_NothingToUndo : mg "NothingToUndo" = some (.ref (He.ga K "NothingToUndo"))
  g_TooMany : mg "TooMany" = some (.ref (He.ga K "TooMany"))
  g_Refused : mg "Refused" = some (.ref (He.ga K "Refused"))
  g_InvalidNumber : mg "InvalidNumber" = some (.ref (He.ga K "InvalidNumber"))
  row : (tblB ++ tblS).all (rowB K) = true
  tx : baseN.all (txB K) = true
  o_ParseError : oxB K "ParseError" "line" "ValueError.__new__" "ValueError" PySem.HandSPX.veTail = true
  o_UnknownGame : oxB K "UnknownGame" "asked" "LookupError.__new__" "LookupError" F.kerTail = true
  o_NoRow : oxB K "NoRow" "wanted" "LookupError.__new__" "LookupError" [.type "LookupError", .type "Exception", .type "BaseException", .type "object"] = true
  o_NothingToUndo : oxB K "NothingToUndo" "amount" "IndexError.__new__" "IndexError" [.type "IndexError", .type "LookupError", .type "Exception", .type "BaseException", .type "object"] = true
  o_TooMany : oxB K "TooMany" "limit" "OverflowError.__new__" "OverflowError" [.type "OverflowError", .type "ArithmeticError", .type "Exception", .type "BaseException", .type "object"] = true
  o_Refused : oxB K "Refused" "cause" "ArithmeticError.__new__" "ArithmeticError" [.type "ArithmeticError", .type "Exception", .type "BaseException", .type "object"] = true
  o_InvalidNumber : oxB K "InvalidNumber" "number" "RuntimeError.__new__" "RuntimeError" [.type "RuntimeError", .type "Exception", .type "BaseException", .type "object"] = true
theorem ErrF.t {K : PySem.W.Frag} {mg : Str → Option Value} (E : ErrF K mg) (x : Str) (h : x ∈ baseN) : TxC K (He.ga K x) := txB_ok (List.all_eq_true.mp E.tx x h)
theorem ErrF.r {K : PySem.W.Frag} {mg : Str → Option Value} (E : ErrF K mg) {H : Hp} {a : Addr} {p : Str × List Bool × List Bool} (h : p ∈ tblB ++ tblS) (ea : ErrAt H a (He.ga K p.1)) : ErR K H (.ref a) p.2.1 p.2.2 := by
  have z := List.all_eq_true.mp E.row p h
  unfold rowB at z
  simp only [Bool.and_eq_true, decide_eq_true_eq] at z
  exact ⟨a, _, rfl, ea, z.2.2, z.1, z.2.1, tbl_len p h⟩
theorem ErrF.c_ParseError {K : PySem.W.Frag} {mg : Str → Option Value} (E : ErrF K mg) : OxC K (He.ga K "ParseError") (He.ma K (He.ga K "ParseError") "__init__") "line" "ValueError.__new__" "ValueError.__init__" "ValueError" "ValueError" PySem.HandSPX.veTail PySem.HandSPX.veTail := oxB_ok F.excBase_ValueError F.store_ValueError E.o_ParseError
theorem ErrF.c_UnknownGame {K : PySem.W.Frag} {mg : Str → Option Value} (E : ErrF K mg) : OxC K (He.ga K "UnknownGame") (He.ma K (He.ga K "UnknownGame") "__init__") "asked" "LookupError.__new__" "LookupError.__init__" "LookupError" "KeyError" [.type "LookupError", .type "Exception", .type "BaseException", .type "object"] F.kerTail := oxB_ok F.excBase_LookupError F.kerStore E.o_UnknownGame
theorem ErrF.c_NoRow {K : PySem.W.Frag} {mg : Str → Option Value} (E : ErrF K mg) : OxC K (He.ga K "NoRow") (He.ma K (He.ga K "NoRow") "__init__") "wanted" "LookupError.__new__" "LookupError.__init__" "LookupError" "LookupError" [.type "LookupError", .type "Exception", .type "BaseException", .type "object"] [.type "LookupError", .type "Exception", .type "BaseException", .type "object"] := oxB_ok F.excBase_LookupError F.store_LookupError E.o_NoRow
theorem ErrF.c_NothingToUndo {K : PySem.W.Frag} {mg : Str → Option Value} (E : ErrF K mg) : OxC K (He.ga K "NothingToUndo") (He.ma K (He.ga K "NothingToUndo") "__init__") "amount" "IndexError.__new__" "IndexError.__init__" "IndexError" "IndexError" [.type "IndexError", .type "LookupError", .type "Exception", .type "BaseException", .type "object"] [.type "IndexError", .type "LookupError", .type "Exception", .type "BaseException", .type "object"] := oxB_ok F.excBase_IndexError F.store_IndexError E.o_NothingToUndo
theorem ErrF.c_TooMany {K : PySem.W.Frag} {mg : Str → Option Value} (E : ErrF K mg) : OxC K (He.ga K "TooMany") (He.ma K (He.ga K "TooMany") "__init__") "limit" "OverflowError.__new__" "OverflowError.__init__" "OverflowError" "OverflowError" [.type "OverflowError", .type "ArithmeticError", .type "Exception", .type "BaseException", .type "object"] [.type "OverflowError", .type "ArithmeticError", .type "Exception", .type "BaseException", .type "object"] := oxB_ok F.excBase_OverflowError F.store_OverflowError E.o_TooMany
theorem ErrF.c_Refused {K : PySem.W.Frag} {mg : Str → Option Value} (E : ErrF K mg) : OxC K (He.ga K "Refused") (He.ma K (He.ga K "Refused") "__init__") "cause" "ArithmeticError.__new__" "ArithmeticError.__init__" "ArithmeticError" "ArithmeticError" [.type "ArithmeticError", .type "Exception", .type "BaseException", .type "object"] [.type "ArithmeticError", .type "Exception", .type "BaseException", .type "object"] := oxB_ok F.excBase_ArithmeticError F.store_ArithmeticError E.o_Refused
theorem ErrF.c_InvalidNumber {K : PySem.W.Frag} {mg : Str → Option Value} (E : ErrF K mg) : OxC K (He.ga K "InvalidNumber") (He.ma K (He.ga K "InvalidNumber") "__init__") "number" "RuntimeError.__new__" "RuntimeError.__init__" "RuntimeError" "RuntimeError" [.type "RuntimeError", .type "Exception", .type "BaseException", .type "object"] [.type "RuntimeError", .type "Exception", .type "BaseException", .type "object"] := oxB_ok F.excBase_RuntimeError F.store_RuntimeError E.o_InvalidNumber
end Ow

namespace K00
open PySem PySem.Spec PyProof.Rows L2 Ow HandSPX F
local macro_rules | `(tactic| walk_at "y1") => `(tactic| with_reducible first | refine y_seq ?_ | refine y_asg ?_ | refine y_name ?_ | refine y_con ?_ | refine y_op ?_ | refine y_un ?_ | refine y_cons ?_ | refine y_nil ?_ | refine y_cb ?_ | refine y_fn ?_ | refine y_I0 ?_ | refine y_ret ?_ | refine y_drop ?_ | refine y_ifs ?_ | refine y_test ?_ | refine y_bl ?_ | refine y_not ?_ | refine y_and ?_ | refine y_or ?_ | refine y_if ?_ | refine y_chain ?_ | refine y_andV ?_ | refine y_orV ?_ | refine y_yes ?_ | refine y_lst ?_ | refine y_tup ?_ | refine y_intI ?_ | refine y_intB ?_ | refine y_abs ?_ | refine y_max2 ?_ | refine y_min2 ?_ | refine y_eqI ?_ | refine y_neI ?_ | refine y_eqS ?_ | refine y_neS ?_ | refine y_reprB ?_ | refine y_sub ?_ | refine y_bm ?_ | refine y_m1 ?_ | refine y_lc ?_ | refine y_for ?_ | refine y_rng1 ?_ | refine y_iStr ?_ | refine y_iList ?_ | refine y_next ?_ | refine y_B ?_ | refine y_rU ?_ | refine y_fld ?_ | refine y_prp ?_ | refine y_mth ?_ | refine y_mkr ?_ | refine y_par ?_ | refine y_par2 ?_ | refine y_gcons ?_ | refine y_gnil ?_ | refine y_gfld ?_ | refine y_gcd ?_ | refine y_rng2 ?_ | refine y_iRev ?_ | refine y_revL ?_ | refine y_ef ?_ | refine y_iTup ?_ | refine y_sl ?_ | refine y_iZipA ?_ | refine y_noP ?_ | refine y_prt ?_)
local macro_rules | `(tactic| walk_at "yy") => `(tactic| repeat (first | walk_at "y1" | ((with_reducible refine y_var2 ?_); refine ⟨_, rfl, ?_⟩)))
local macro_rules | `(tactic| walk_at "yi") => `(tactic| first
  | refine y_I (show CMul _ _ from .inl ⟨by decide, by decide⟩) ?_ | refine y_I (show CMul _ _ from .inl ⟨by omega, by omega⟩) ?_ | refine y_I (show CMul _ _ from .inr ⟨by omega, by omega⟩) ?_
  | refine y_I (show (0 : Int) < _ by decide) ?_ | refine y_I (show (0 : Int) < _ by omega) ?_ | refine y_I (show CPowW _ _ from ⟨by decide, by decide +kernel⟩) ?_ | refine y_I (show (0 : Int) < _ by decide +kernel) ?_ | refine y_I (big_div (by decide) (by decide)) ?_)
local macro_rules | `(tactic| walk_at "yt") => `(tactic| (with_reducible refine y_t ?_ ?_; · decide))
local macro_rules | `(tactic| walk_at "yf") => `(tactic| (with_reducible refine y_f ?_ ?_; · decide))
def top (i : Nat) : Stmt := PySem.Challenge.pw_wonbyturns_k00_errors_and_what_they_keep.main.body.getD i (.Pass ⟨0, 0, 0, 0⟩)
abbrev s_ParseError___init__ : Stmt := inClass (top 12) 0
abbrev s_UnknownGame___init__ : Stmt := inClass (top 13) 0
abbrev s_NoRow___init__ : Stmt := inClass (top 14) 0
abbrev s_NothingToUndo___init__ : Stmt := inClass (top 15) 0
abbrev s_TooMany___init__ : Stmt := inClass (top 16) 0
abbrev s_Refused___init__ : Stmt := inClass (top 17) 0
abbrev s_InvalidNumber___init__ : Stmt := inClass (top 18) 0
abbrev s_law_dice : Stmt := top 20
abbrev s_law_roll : Stmt := top 21
abbrev s_law_pick : Stmt := top 22
abbrev s_law_kinds : Stmt := top 23
abbrev s_law_others : Stmt := top 24
abbrev s_law_right : Stmt := top 25
abbrev s_law : Stmt := top 26
/-- the built-in names are the built-ins -/
structure Blt (mg : Str → Option Value) : Prop where
  n_ArithmeticError : mg "ArithmeticError" = none
  n_IndexError : mg "IndexError" = none
  n_KeyError : mg "KeyError" = none
  n_LookupError : mg "LookupError" = none
  n_OverflowError : mg "OverflowError" = none
  n_RuntimeError : mg "RuntimeError" = none
  n_ValueError : mg "ValueError" = none
  n_abs : mg "abs" = none
  n_int : mg "int" = none
  n_isinstance : mg "isinstance" = none
  n_len : mg "len" = none
  n_max : mg "max" = none
  n_min : mg "min" = none
  n_range : mg "range" = none
  n_repr : mg "repr" = none
  n_str : mg "str" = none
structure Con (mg : Str → Option Value) : Prop where
  ok : True
def spKin (K : PySem.W.Frag) : Sp := fun vs H Q _ => ∃ (a C : Addr) (row : List Bool), vs = [.ref a] ∧ ErrAt H a C ∧ isB K C = true ∧ RowOf K C (kinV K) row ∧ row.length = 13 ∧ ∀ H', Same H H' → Q (.str (marks row)) H'
def spOth (K : PySem.W.Frag) : Sp := fun vs H Q _ => ∃ (a C : Addr) (row : List Bool), vs = [.ref a] ∧ ErrAt H a C ∧ isB K C = true ∧ RowOf K C (othV K) row ∧ row.length = 12 ∧ ∀ H', Same H H' → Q (.str (marks row)) H'
def spRight : Sp := fun vs H Q _ => ∃ d, vs = [.ref d] ∧ DiceAt H d ∧ ∀ H', DiceAt H' d → Fr d H H' → Q (.bl true) H'
def spLaw (K : PySem.W.Frag) : Sp := fun vs H Q _ => ∃ (a : Addr) (ns : List Int), vs = [.ref a] ∧ SqL K H a (ns.map V.int) ∧ ns.length ≤ 63 ∧ ∀ H', Q (.bl true) H'
theorem len_marks (bs : List Bool) : ((bs.map fun b => if b then ("x" : Str) else ".").map (·.length)).sum = bs.length := by
  have x : ("x" : Str).length = 1 := by decide +kernel
  have d : ("." : Str).length = 1 := by decide +kernel
  induction bs with
  | nil => rfl
  | cons b bs ih =>
    rw [List.map_cons, List.map_cons, List.sum_cons, ih, List.length_cons]
    cases b
    · show ("." : Str).length + _ = _
      rw [d, Nat.add_comm]
    · show ("x" : Str).length + _ = _
      rw [x, Nat.add_comm]
/-- data that stands six times in a list can be told -/
def okD (d : PyData) : Bool := (PyData.list [d, d, d, d, d, d]).showable && (decide ((PyData.list [d, d, d, d, d, d]).shown.length ≤ 1000) && decide ((PyData.list [d, d, d, d, d, d]).depth ≤ 20))
theorem ErL.cons {K : PySem.W.Frag} {H : Hp} {v : V} {vs : List V} {r : Str × List Bool × List Bool} {rs : List (Str × List Bool × List Bool)} (h : ErR K H v r.2.1 r.2.2) (t : ErL K H vs rs) : ErL K H (v :: vs) (r :: rs) := ⟨h, t⟩
theorem ErL.nil {K : PySem.W.Frag} {H : Hp} : ErL K H [] [] := trivial
theorem exs_lst {a C t : Addr} {xs : List V} : exs a C t ≠ .lst xs := fun z => by
  have z' : HO.ext _ = HO.lst xs := z
  cases z'
theorem exo_lst {a C : Addr} {d : Option Addr} {xs : List V} : exo a C d ≠ .lst xs := fun z => by
  have z' : HO.ext _ = HO.lst xs := z
  cases z'
theorem exd_lst {a : Addr} {fs : List (Str × V)} {xs : List V} : exd a fs ≠ .lst xs := fun z => by
  have z' : HO.ext _ = HO.lst xs := z
  cases z'
theorem ne_lst {H : Hp} {p L : Addr} {o : HO} {xs : List V} (e : H p = some o) (eL : H L = some (.lst xs)) (n : o ≠ .lst xs) : p ≠ L := fun z => by
  rw [z, eL] at e
  exact n (Option.some.inj e).symm
/-- the heap without two things that change -/
def wo (H : Hp) (d L : Addr) : Hp := fun b => if b = d ∨ b = L then none else H b
theorem wo_ne {H : Hp} {d L b : Addr} (h1 : b ≠ d) (h2 : b ≠ L) : wo H d L b = H b := if_neg fun z => z.elim h1 h2
theorem wo_d {H : Hp} {d L : Addr} : wo H d L d = none := if_pos (.inl rfl)
theorem wo_L {H : Hp} {d L : Addr} : wo H d L L = none := if_pos (.inr rfl)
theorem wo_same {H : Hp} {d L : Addr} : Same (wo H d L) H := fun b o e => by
  unfold wo at e
  split at e
  · cases e
  · exact e
theorem _root_.Ow.TE1.wo {H : Hp} {p C d L : Addr} {v : V} {xs ys : List V} (h : TE1 H p C v) (e1 : H d = some (.lst xs)) (e2 : H L = some (.lst ys)) : TE1 (wo H d L) p C v := by
  obtain ⟨t, a, b⟩ := h
  exact ⟨t, by rw [wo_ne (ne_lst a e1 exs_lst) (ne_lst a e2 exs_lst)]; exact a, by rw [wo_ne (ne_lst b e1 (by simp)) (ne_lst b e2 (by simp))]; exact b⟩
theorem _root_.Ow.KE1.mut {H : Hp} {p C L : Addr} {f : Str} {v : V} {xs ys : List V} (h : KE1 H p C f v) (e : H L = some (.lst xs)) : KE1 (upd H L (.lst ys)) p C f v := by
  obtain ⟨d, a, b⟩ := h
  exact ⟨d, by rw [upd_ne (ne_lst a e exo_lst)]; exact a, by rw [upd_ne (ne_lst b e exd_lst)]; exact b⟩
theorem same_frd {G H H' : Hp} {d : Addr} (s : Same G H) (e : G d = none) (f : Fr d H H') : Same G H' := fun b o h => f b o (s b o h) (ne_of_none h e)
def rowsA : List (Str × List Bool × List Bool) := tblB.take 10 ++ tblB.drop 11
def rowsB : List (Str × List Bool × List Bool) := tblB.take 11
def wordsL : List Str := ["", "no house", "a", "line 3"]
theorem words_ok : ∀ z ∈ wordsL, SeqAt.shaped (.list ((List.replicate 11 z).map PyData.str)) = true := by decide +kernel
def dueL : List Str := rowsB.map fun r => marks r.2.1
theorem due_ok : ∀ i : Nat, i < 11 → dueL[i]? = some ((⟨(List.replicate i 46).toArray⟩ : Str) ++ ("x" : Str) ++ ⟨(List.replicate (10 - i) 46).toArray⟩ ++ ("xx" : Str)) := by
  intro i hi
  have h : i = 0 ∨ i = 1 ∨ i = 2 ∨ i = 3 ∨ i = 4 ∨ i = 5 ∨ i = 6 ∨ i = 7 ∨ i = 8 ∨ i = 9 ∨ i = 10 := by omega
  rcases h with rfl | rfl | rfl | rfl | rfl | rfl | rfl | rfl | rfl | rfl | rfl <;> decide +kernel
theorem dots_len (n : Nat) : (⟨(List.replicate n 46).toArray⟩ : Str).length = n := by
  show (List.replicate n 46).toArray.size = n
  rw [List.size_toArray, List.length_replicate]
theorem app_len (a b : Str) : (a ++ b).length = a.length + b.length := by
  have e : (a ++ b).cps.toList = a.cps.toList ++ b.cps.toList := TL.tl_append a b
  have := congrArg List.length e
  show (a ++ b).cps.size = a.cps.size + b.cps.size
  simpa using this
/-- errors of a list, each made of the one text z, by their classes -/
def TxL (K : PySem.W.Frag) (H : Hp) (z : Str) : List V → List Str → Prop
  | [], [] => True
  | v :: vs, x :: xs => (∃ p, v = .ref p ∧ TE1 H p (He.ga K x) (.str z)) ∧ TxL K H z vs xs
  | _, _ => False
theorem TxL.cons {K : PySem.W.Frag} {H : Hp} {z : Str} {p : Addr} {x : Str} {vs : List V} {xs : List Str} (h : TE1 H p (He.ga K x) (.str z)) (t : TxL K H z vs xs) : TxL K H z (.ref p :: vs) (x :: xs) := ⟨⟨p, rfl, h⟩, t⟩
theorem TxL.nil {K : PySem.W.Frag} {H : Hp} {z : Str} : TxL K H z [] [] := trivial
theorem TxL.at {K : PySem.W.Frag} {H : Hp} {z : Str} : ∀ {vs : List V} {xs : List Str} {j : Nat} {v : V}, TxL K H z vs xs → vs[j]? = some v → ∃ x ∈ xs, ∃ p, v = .ref p ∧ TE1 H p (He.ga K x) (.str z)
  | v :: vs, x :: xs, 0, w, h, e => by
    cases e
    exact ⟨x, List.mem_cons_self, h.1⟩
  | v :: vs, x :: xs, j + 1, w, h, e => by
    obtain ⟨y, m, r⟩ := TxL.at (j := j) h.2 e
    exact ⟨y, List.mem_cons_of_mem _ m, r⟩
  | [], _, j, w, _, e => by simp at e
  | _ :: _, [], _, _, h, _ => h.elim
theorem free_same {G H : Hp} {p : Addr} (s : Same G H) (e : H p = none) : G p = none := Same.free s e
/-- what is told of six times d -/
theorem okD_of {d : PyData} (h : okD d = true) : (PyData.list [d, d, d, d, d, d]).showable = true ∧ (PyData.list [d, d, d, d, d, d]).shown.length ≤ 1000 ∧ (PyData.list [d, d, d, d, d, d]).depth ≤ 20 := by
  unfold okD at h
  simp only [Bool.and_eq_true, decide_eq_true_eq] at h
  exact h
theorem rda6 {H : Hp} {v : V} {d : PyData} (h : RdH H v d) : RdA H [v, v, v, v, v, v] [d, d, d, d, d, d] := .cons h (.cons h (.cons h (.cons h (.cons h (.cons h .nil)))))
section
variable {P : Program} {w : World} {K : PySem.W.Frag} {mg : Str → Option Value} {base : Heap}
theorem sc_law_dice : FnScope ["_law_script", "_law_spot", "_law_cell", "_law_great", "_law_blend"] ["_law_script", "_law_spot"] (defScope s_law_dice) := ⟨rfl, rfl, rfl, by decide +kernel, rfl, by decide +kernel, by decide +kernel⟩
-- 0 _law_script, 1 _law_spot, 2 _law_cell, 3 _law_great, 4 _law_blend
theorem ok_law_dice {f : Addr} {fd : FuncData} (F : FunD K "_law_dice" "_law_dice" (defArgs s_law_dice) (defBody s_law_dice) (defScope s_law_dice) [] [] f fd) (B : Blt mg) (Z : Con mg) (EF : ErrF K mg) (hSM : ∃ o, base.get? sysModules = some o) : FnOk P w K mg base CX0 1 f fd ["_law_script", "_law_spot"] (spDice K) := by
  refine F.ok sc_law_dice (fun vs H Q E h => ?_) (fun cdv A outer s H vs Q E hr h => ?_)
  · obtain ⟨a, i, ns, rfl, _⟩ := h
    rfl
  · obtain ⟨a, i, ns, rfl, hS, h0, h1, k⟩ := h
    refine ⟨_, PSs.nox (pss_cons (ps_set (i := 2) sc_law_dice.nd rfl (Or.inl rfl) (pe_op op_add (pe_op op_mul pe_int (pv 1)) pe_int)) (pss_cons (ps_if (pt_cmpR op_lt (pv 1) (pe_callB (c_lenQ (K := K)) (by rfl) B.n_len (by decide +kernel) (pa_cons (pv 0) pa_nil)) (nomark _)) (pss_one (ps_set (i := 2) sc_law_dice.nd rfl (Or.inl rfl) (pe_ix (x_list (K := K)) (pv 0) (pv 1) (fun _ _ => rfl)))) pss_nil) (pss_cons (ps_set (i := 3) sc_law_dice.nd rfl (Or.inl rfl) (pe_op op_mod (pe_callTy c_int (by rfl) B.n_int (by decide +kernel) (pa_cons (pe_callB c_abs (by rfl) B.n_abs (by decide +kernel) (pa_cons (pv 2) pa_nil)) pa_nil)) (pe_op op_powW (pe_op op_powW pe_int pe_int) pe_int))) (pss_cons (ps_set (i := 4) sc_law_dice.nd rfl (Or.inl rfl) (pe_op op_add (pe_op op_add (pe_op op_add (pe_op op_mul (pe_op op_mod (pe_callTy c_int (by rfl) B.n_int (by decide +kernel) (pa_cons (pv 3) pa_nil)) pe_int) pe_int) (pe_op op_mul pe_int (pv 1))) (pe_op op_mul pe_int (pe_callTy c_int (by rfl) B.n_int (by decide +kernel) (pa_cons (pe_cmpR op_lt (pv 2) pe_int (nomark _)) pa_nil)))) pe_int)) (pss_one (ps_ret (pe_lst (pa_cons (pe_callB (c_max2 rfl) (by rfl) B.n_max (by decide +kernel) (pa_cons pe_int (pa_cons (pe_op op_sub (pv 3) (pe_op op_powW pe_int pe_int)) pa_nil))) (pa_cons (pe_op op_mod (pe_callTy c_int (by rfl) B.n_int (by decide +kernel) (pa_cons (pv 4) pa_nil)) pe_int) (pa_cons pe_int pa_nil)))))))))), ?_⟩
    walk_at "yy"
    walk_at "yi"
    walk_at "yy"
    refine y_lenL hS ?_
    walk_at "yy"
    -- if spot < len(script): cell = script[spot]; both ways come together
    refine y_join (fun cell : Int => [some (.ref a), some (.int i), some (.int cell), none, none]) (71 * i + 29) rfl (fun cell => ?_) (fun hk J => ?_)
    · walk_at "yy"
      walk_at "yi"
      walk_at "yy"
      walk_at "yi"
      walk_at "yy"
      walk_at "yi"
      walk_at "yy"
      generalize ((cell.natAbs : Int) % _) = great
      walk_at "yy"
      walk_at "yi"
      walk_at "yy"
      walk_at "yi"
      walk_at "yy"
      walk_at "yi"
      walk_at "yy"
      walk_at "yi"
      walk_at "yy"
      generalize (great % 2305843009213693613 * 1000427 + 8111 * i + 59 * _ + 31) = blend
      walk_at "yy"
      walk_at "yi"
      walk_at "yy"
      walk_at "yi"
      walk_at "yy"
      exact ⟨by show 3 ≤ sizeLine; decide, fun p hp => k p _ hp ⟨_, _, _, upd_same⟩ (same_new hp)⟩
    · have hk := of_decide_eq_true hk
      rw [List.length_map] at hk
      have hn : i.toNat < ns.length := by omega
      walk_at "yy"
      refine y_ixL hS (at_nat h0 (v := .int ns[i.toNat]) (by simp [hn])) ?_
      exact J _
theorem sc_law_roll : FnScope ["_law_dice_here", "_law_total", "_law_found", "_law_one", "_law_two"] ["_law_dice_here", "_law_total"] (defScope s_law_roll) := ⟨rfl, rfl, rfl, by decide +kernel, rfl, by decide +kernel, by decide +kernel⟩
-- 0 _law_dice_here, 1 _law_total, 2 _law_found, 3 _law_one, 4 _law_two
theorem ok_law_roll {f : Addr} {fd : FuncData} (F : FunD K "_law_roll" "_law_roll" (defArgs s_law_roll) (defBody s_law_roll) (defScope s_law_roll) [] [] f fd) (B : Blt mg) (Z : Con mg) (EF : ErrF K mg) (hSM : ∃ o, base.get? sysModules = some o) : FnOk P w K mg base CX0 1 f fd ["_law_dice_here", "_law_total"] spRoll := by
  refine F.ok sc_law_roll (fun vs H Q E h => ?_) (fun cdv A outer s H vs Q E hr h => ?_)
  · obtain ⟨d, t, rfl, _⟩ := h
    rfl
  · obtain ⟨d, t, rfl, ⟨g, e, c, hd⟩, h0, h1, k⟩ := h
    refine ⟨_, PSs.nox (pss_cons (ps_if (pt_cmpR op_gt (pe_ix (x_list (K := K)) (pv 0) pe_int (fun _ _ => rfl)) pe_int (nomark _)) (pss_cons (ps_set (i := 2) sc_law_roll.nd rfl (Or.inl rfl) (pe_op op_mod (pe_callTy c_int (by rfl) B.n_int (by decide +kernel) (pa_cons (pe_ix (x_list (K := K)) (pv 0) pe_int (fun _ _ => rfl)) pa_nil)) (pv 1))) (pss_cons (ps_asg (pe_op op_fdivW (pe_ix (x_list (K := K)) (pv 0) pe_int (fun _ _ => rfl)) (pv 1)) (pg_sub (pv 0) pe_int set_list)) (pss_one (ps_ret (pv 2))))) pss_nil) (pss_cons (ps_asg (pe_op op_add (pe_ix (x_list (K := K)) (pv 0) pe_int (fun _ _ => rfl)) pe_int) (pg_sub (pv 0) pe_int set_list)) (pss_cons (ps_set (i := 3) sc_law_roll.nd rfl (Or.inl rfl) (pe_op op_mod (pe_callTy c_int (by rfl) B.n_int (by decide +kernel) (pa_cons (pe_op op_add (pe_ix (x_list (K := K)) (pv 0) pe_int (fun _ _ => rfl)) (pe_op op_mul pe_int (pe_ix (x_list (K := K)) (pv 0) pe_int (fun _ _ => rfl)))) pa_nil)) pe_int)) (pss_cons (ps_set (i := 4) sc_law_roll.nd rfl (Or.inl rfl) (pe_op op_add (pe_op op_mul (pe_op op_mod (pe_callTy c_int (by rfl) B.n_int (by decide +kernel) (pa_cons (pe_op op_mul (pv 3) (pv 3)) pa_nil)) pe_int) (pv 3)) (pe_op op_mul pe_int (pe_ix (x_list (K := K)) (pv 0) pe_int (fun _ _ => rfl))))) (pss_cons (ps_set (i := 4) sc_law_roll.nd rfl (Or.inl rfl) (pe_op op_mod (pe_callTy c_int (by rfl) B.n_int (by decide +kernel) (pa_cons (pv 4) pa_nil)) pe_int)) (pss_one (ps_ret (pe_op op_mod (pe_callTy c_int (by rfl) B.n_int (by decide +kernel) (pa_cons (pe_op op_fdivW (pv 4) pe_int) pa_nil)) (pv 1))))))))), ?_⟩
    have hdv : ∀ i : Int, CDivW i t := fun i => big_div h0 h1
    walk_at "yy"
    refine y_ixL (sql hd) rfl ?_
    walk_at "yy"
    refine y_ite (fun hk => ?_) (fun hk => ?_)
    · walk_at "yy"
      refine y_ixL (sql hd) rfl ?_
      walk_at "yy"
      walk_at "yi"
      walk_at "yy"
      refine y_ixL (sql hd) rfl ?_
      walk_at "yy"
      refine y_I (hdv _) ?_
      walk_at "yy"
      refine y_setL hd rfl ?_
      walk_at "yy"
      exact k _ _ (Int.emod_nonneg _ (by omega)) (Int.emod_lt_of_pos _ h0) ⟨_, _, _, upd_same⟩ Fr.self
    · walk_at "yy"
      refine y_ixL (sql hd) rfl ?_
      walk_at "yy"
      refine y_setL hd rfl ?_
      walk_at "yy"
      refine y_ixL (sql upd_same) rfl ?_
      walk_at "yy"
      refine y_ixL (sql upd_same) rfl ?_
      walk_at "yy"
      walk_at "yi"
      walk_at "yy"
      walk_at "yi"
      walk_at "yy"
      generalize e1 : (e + 998244289 * (c + 1)) % 2305843009213693951 = one
      have b0 : 0 ≤ one := by omega
      have b1 : one < 2305843009213693951 := by omega
      clear e1
      walk_at "yy"
      walk_at "yi"
      walk_at "yy"
      walk_at "yi"
      walk_at "yy"
      generalize e2 : one * one % 2305843009213693883 = sq
      have b2 : 0 ≤ sq := by omega
      have b3 : sq < 2305843009213693883 := by omega
      clear e2
      walk_at "yi"
      walk_at "yy"
      refine y_ixL (sql upd_same) rfl ?_
      walk_at "yy"
      walk_at "yi"
      walk_at "yy"
      walk_at "yi"
      walk_at "yy"
      refine y_I (big_div (by decide) (by decide)) ?_
      walk_at "yy"
      refine y_I (show (0 : Int) < t from h0) ?_
      exact k _ _ (Int.emod_nonneg _ (by omega)) (Int.emod_lt_of_pos _ h0) ⟨_, _, _, upd_same⟩ Fr.self
theorem sc_law_pick : FnScope ["_law_dice_here", "_law_items"] ["_law_dice_here", "_law_items"] (defScope s_law_pick) := ⟨rfl, rfl, rfl, by decide +kernel, rfl, by decide +kernel, by decide +kernel⟩
-- 0 _law_dice_here, 1 _law_items
theorem ok_law_pick {f : Addr} {fd : FuncData} (F : FunD K "_law_pick" "_law_pick" (defArgs s_law_pick) (defBody s_law_pick) (defScope s_law_pick) [] [] f fd) (B : Blt mg) (Z : Con mg) (EF : ErrF K mg) (hSM : ∃ o, base.get? sysModules = some o) (C_law_roll : Cal P w K mg base 1 "_law_roll" ["_law_dice_here", "_law_total"] spRoll) : FnOk P w K mg base CX0 2 f fd ["_law_dice_here", "_law_items"] (spPick K) := by
  refine F.ok sc_law_pick (fun vs H Q E h => ?_) (fun cdv A outer s H vs Q E hr h => ?_)
  · obtain ⟨d, l, ys, rfl, _⟩ := h
    rfl
  · obtain ⟨d, l, ys, rfl, hD, hl, nl, h0, h1, k⟩ := h
    refine ⟨_, PSs.nox (pss_one (ps_ret (pe_ix (x_list (K := K)) (pv 1) (pe_fn C_law_roll (hr.mono (by decide)) (by rfl) (pa_cons (pv 0) (pa_cons (pe_callB (c_lenQ (K := K)) (by rfl) B.n_len (by decide +kernel) (pa_cons (pv 1) pa_nil)) pa_nil))) (fun _ _ => rfl)))), ?_⟩
    walk_at "yy"
    refine y_lenL hl ?_
    walk_at "yy"
    refine ⟨d, _, rfl, hD, by omega, ?_, fun n H' n0 n1 hD' f => ?_⟩
    · have : (2 : Nat) ^ 4000 > 100000 := by decide +kernel
      omega
    obtain ⟨v, e, m⟩ := getD_at n0 n1
    exact y_ixL (f.lst nl hl) (at_nat n0 e) (k v H' m hD' f)
theorem sc_ParseError___init__ : FnScope ["self", "line"] ["self", "line"] (defScope s_ParseError___init__) := ⟨rfl, rfl, rfl, by decide +kernel, rfl, by decide +kernel, by decide +kernel⟩
-- 0 self, 1 line
theorem ok_ParseError___init__ {f : Addr} {fd : FuncData} (F : FunD K "__init__" "ParseError.__init__" (defArgs s_ParseError___init__) (defBody s_ParseError___init__) (defScope s_ParseError___init__) [] [] f fd) (B : Blt mg) (Z : Con mg) (EF : ErrF K mg) (hSM : ∃ o, base.get? sysModules = some o) : FnOk P w K mg base CX0 1 f fd ["self", "line"] (spEI (He.ga K "ParseError") "line") := by
  refine F.ok sc_ParseError___init__ (fun vs H Q E h => ?_) (fun cdv A outer s H vs Q E hr h => ?_)
  · obtain ⟨a, v, rfl, _⟩ := h
    rfl
  · obtain ⟨a, v, rfl, ha, k⟩ := h
    refine ⟨_, PSs.nox (pss_one (ps_ostG EF.c_ParseError.G EF.c_ParseError.no (pv 0) (pv 1))), ?_⟩
    exact ⟨_, rfl, _, rfl, a, rfl, ha, fun d nd da => k d nd da⟩
theorem sc_UnknownGame___init__ : FnScope ["self", "asked"] ["self", "asked"] (defScope s_UnknownGame___init__) := ⟨rfl, rfl, rfl, by decide +kernel, rfl, by decide +kernel, by decide +kernel⟩
-- 0 self, 1 asked
theorem ok_UnknownGame___init__ {f : Addr} {fd : FuncData} (F : FunD K "__init__" "UnknownGame.__init__" (defArgs s_UnknownGame___init__) (defBody s_UnknownGame___init__) (defScope s_UnknownGame___init__) [] [] f fd) (B : Blt mg) (Z : Con mg) (EF : ErrF K mg) (hSM : ∃ o, base.get? sysModules = some o) : FnOk P w K mg base CX0 1 f fd ["self", "asked"] (spEI (He.ga K "UnknownGame") "asked") := by
  refine F.ok sc_UnknownGame___init__ (fun vs H Q E h => ?_) (fun cdv A outer s H vs Q E hr h => ?_)
  · obtain ⟨a, v, rfl, _⟩ := h
    rfl
  · obtain ⟨a, v, rfl, ha, k⟩ := h
    refine ⟨_, PSs.nox (pss_one (ps_ostG EF.c_UnknownGame.G EF.c_UnknownGame.no (pv 0) (pv 1))), ?_⟩
    exact ⟨_, rfl, _, rfl, a, rfl, ha, fun d nd da => k d nd da⟩
theorem sc_NoRow___init__ : FnScope ["self", "wanted"] ["self", "wanted"] (defScope s_NoRow___init__) := ⟨rfl, rfl, rfl, by decide +kernel, rfl, by decide +kernel, by decide +kernel⟩
-- 0 self, 1 wanted
theorem ok_NoRow___init__ {f : Addr} {fd : FuncData} (F : FunD K "__init__" "NoRow.__init__" (defArgs s_NoRow___init__) (defBody s_NoRow___init__) (defScope s_NoRow___init__) [] [] f fd) (B : Blt mg) (Z : Con mg) (EF : ErrF K mg) (hSM : ∃ o, base.get? sysModules = some o) : FnOk P w K mg base CX0 1 f fd ["self", "wanted"] (spEI (He.ga K "NoRow") "wanted") := by
  refine F.ok sc_NoRow___init__ (fun vs H Q E h => ?_) (fun cdv A outer s H vs Q E hr h => ?_)
  · obtain ⟨a, v, rfl, _⟩ := h
    rfl
  · obtain ⟨a, v, rfl, ha, k⟩ := h
    refine ⟨_, PSs.nox (pss_one (ps_ostG EF.c_NoRow.G EF.c_NoRow.no (pv 0) (pv 1))), ?_⟩
    exact ⟨_, rfl, _, rfl, a, rfl, ha, fun d nd da => k d nd da⟩
theorem sc_NothingToUndo___init__ : FnScope ["self", "amount"] ["self", "amount"] (defScope s_NothingToUndo___init__) := ⟨rfl, rfl, rfl, by decide +kernel, rfl, by decide +kernel, by decide +kernel⟩
-- 0 self, 1 amount
theorem ok_NothingToUndo___init__ {f : Addr} {fd : FuncData} (F : FunD K "__init__" "NothingToUndo.__init__" (defArgs s_NothingToUndo___init__) (defBody s_NothingToUndo___init__) (defScope s_NothingToUndo___init__) [] [] f fd) (B : Blt mg) (Z : Con mg) (EF : ErrF K mg) (hSM : ∃ o, base.get? sysModules = some o) : FnOk P w K mg base CX0 1 f fd ["self", "amount"] (spEI (He.ga K "NothingToUndo") "amount") := by
  refine F.ok sc_NothingToUndo___init__ (fun vs H Q E h => ?_) (fun cdv A outer s H vs Q E hr h => ?_)
  · obtain ⟨a, v, rfl, _⟩ := h
    rfl
  · obtain ⟨a, v, rfl, ha, k⟩ := h
    refine ⟨_, PSs.nox (pss_one (ps_ostG EF.c_NothingToUndo.G EF.c_NothingToUndo.no (pv 0) (pv 1))), ?_⟩
    exact ⟨_, rfl, _, rfl, a, rfl, ha, fun d nd da => k d nd da⟩
theorem sc_TooMany___init__ : FnScope ["self", "limit"] ["self", "limit"] (defScope s_TooMany___init__) := ⟨rfl, rfl, rfl, by decide +kernel, rfl, by decide +kernel, by decide +kernel⟩
-- 0 self, 1 limit
theorem ok_TooMany___init__ {f : Addr} {fd : FuncData} (F : FunD K "__init__" "TooMany.__init__" (defArgs s_TooMany___init__) (defBody s_TooMany___init__) (defScope s_TooMany___init__) [] [] f fd) (B : Blt mg) (Z : Con mg) (EF : ErrF K mg) (hSM : ∃ o, base.get? sysModules = some o) : FnOk P w K mg base CX0 1 f fd ["self", "limit"] (spEI (He.ga K "TooMany") "limit") := by
  refine F.ok sc_TooMany___init__ (fun vs H Q E h => ?_) (fun cdv A outer s H vs Q E hr h => ?_)
  · obtain ⟨a, v, rfl, _⟩ := h
    rfl
  · obtain ⟨a, v, rfl, ha, k⟩ := h
    refine ⟨_, PSs.nox (pss_one (ps_ostG EF.c_TooMany.G EF.c_TooMany.no (pv 0) (pv 1))), ?_⟩
    exact ⟨_, rfl, _, rfl, a, rfl, ha, fun d nd da => k d nd da⟩
theorem sc_Refused___init__ : FnScope ["self", "cause"] ["self", "cause"] (defScope s_Refused___init__) := ⟨rfl, rfl, rfl, by decide +kernel, rfl, by decide +kernel, by decide +kernel⟩
-- 0 self, 1 cause
theorem ok_Refused___init__ {f : Addr} {fd : FuncData} (F : FunD K "__init__" "Refused.__init__" (defArgs s_Refused___init__) (defBody s_Refused___init__) (defScope s_Refused___init__) [] [] f fd) (B : Blt mg) (Z : Con mg) (EF : ErrF K mg) (hSM : ∃ o, base.get? sysModules = some o) : FnOk P w K mg base CX0 1 f fd ["self", "cause"] (spEI (He.ga K "Refused") "cause") := by
  refine F.ok sc_Refused___init__ (fun vs H Q E h => ?_) (fun cdv A outer s H vs Q E hr h => ?_)
  · obtain ⟨a, v, rfl, _⟩ := h
    rfl
  · obtain ⟨a, v, rfl, ha, k⟩ := h
    refine ⟨_, PSs.nox (pss_one (ps_ostG EF.c_Refused.G EF.c_Refused.no (pv 0) (pv 1))), ?_⟩
    exact ⟨_, rfl, _, rfl, a, rfl, ha, fun d nd da => k d nd da⟩
theorem sc_InvalidNumber___init__ : FnScope ["self", "number"] ["self", "number"] (defScope s_InvalidNumber___init__) := ⟨rfl, rfl, rfl, by decide +kernel, rfl, by decide +kernel, by decide +kernel⟩
-- 0 self, 1 number
theorem ok_InvalidNumber___init__ {f : Addr} {fd : FuncData} (F : FunD K "__init__" "InvalidNumber.__init__" (defArgs s_InvalidNumber___init__) (defBody s_InvalidNumber___init__) (defScope s_InvalidNumber___init__) [] [] f fd) (B : Blt mg) (Z : Con mg) (EF : ErrF K mg) (hSM : ∃ o, base.get? sysModules = some o) : FnOk P w K mg base CX0 1 f fd ["self", "number"] (spEI (He.ga K "InvalidNumber") "number") := by
  refine F.ok sc_InvalidNumber___init__ (fun vs H Q E h => ?_) (fun cdv A outer s H vs Q E hr h => ?_)
  · obtain ⟨a, v, rfl, _⟩ := h
    rfl
  · obtain ⟨a, v, rfl, ha, k⟩ := h
    refine ⟨_, PSs.nox (pss_one (ps_ostG EF.c_InvalidNumber.G EF.c_InvalidNumber.no (pv 0) (pv 1))), ?_⟩
    exact ⟨_, rfl, _, rfl, a, rfl, ha, fun d nd da => k d nd da⟩
theorem sc_law_kinds : FnScope ["_law_error", "_law_told", "_law_one"] ["_law_error"] (defScope s_law_kinds) := ⟨rfl, rfl, rfl, by decide +kernel, rfl, by decide +kernel, by decide +kernel⟩
-- 0 _law_error, 1 _law_told, 2 _law_one
theorem ok_law_kinds {f : Addr} {fd : FuncData} (F : FunD K "_law_kinds" "_law_kinds" (defArgs s_law_kinds) (defBody s_law_kinds) (defScope s_law_kinds) [] [] f fd) (B : Blt mg) (Z : Con mg) (EF : ErrF K mg) (hSM : ∃ o, base.get? sysModules = some o) : FnOk P w K mg base CX0 1 f fd ["_law_error"] (spKin K) := by
  refine F.ok sc_law_kinds (fun vs H Q E h => ?_) (fun cdv A outer s H vs Q E hr h => ?_)
  · obtain ⟨a, C, row, rfl, _⟩ := h
    rfl
  · obtain ⟨a, C, row, rfl, ea, hT, hk, hl, k⟩ := h
    refine ⟨_, PSs.nox (pss_cons (ps_set (i := 1) sc_law_kinds.nd rfl (Or.inl rfl) (pe_lst (pa_cons (pe_callB (c_isE (K := K)) (by rfl) B.n_isinstance (by decide +kernel) (pa_cons (pv 0) (pa_cons (pe_glob (v := .ref (He.ga K "InvalidWord")) (by rfl) EF.g_InvalidWord rfl) pa_nil))) (pa_cons (pe_callB (c_isE (K := K)) (by rfl) B.n_isinstance (by decide +kernel) (pa_cons (pv 0) (pa_cons (pe_glob (v := .ref (He.ga K "InvalidFraction")) (by rfl) EF.g_InvalidFraction rfl) pa_nil))) (pa_cons (pe_callB (c_isE (K := K)) (by rfl) B.n_isinstance (by decide +kernel) (pa_cons (pv 0) (pa_cons (pe_glob (v := .ref (He.ga K "InvalidGame")) (by rfl) EF.g_InvalidGame rfl) pa_nil))) pa_nil))))) (pss_cons (ps_set (i := 1) sc_law_kinds.nd rfl (Or.inl rfl) (pe_op op_cat (pv 1) (pe_lst (pa_cons (pe_callB (c_isE (K := K)) (by rfl) B.n_isinstance (by decide +kernel) (pa_cons (pv 0) (pa_cons (pe_glob (v := .ref (He.ga K "InvalidHouse")) (by rfl) EF.g_InvalidHouse rfl) pa_nil))) (pa_cons (pe_callB (c_isE (K := K)) (by rfl) B.n_isinstance (by decide +kernel) (pa_cons (pv 0) (pa_cons (pe_glob (v := .ref (He.ga K "InvalidRow")) (by rfl) EF.g_InvalidRow rfl) pa_nil))) (pa_cons (pe_callB (c_isE (K := K)) (by rfl) B.n_isinstance (by decide +kernel) (pa_cons (pv 0) (pa_cons (pe_glob (v := .ref (He.ga K "InvalidWeights")) (by rfl) EF.g_InvalidWeights rfl) pa_nil))) pa_nil)))))) (pss_cons (ps_set (i := 1) sc_law_kinds.nd rfl (Or.inl rfl) (pe_op op_cat (pv 1) (pe_lst (pa_cons (pe_callB (c_isE (K := K)) (by rfl) B.n_isinstance (by decide +kernel) (pa_cons (pv 0) (pa_cons (pe_glob (v := .ref (He.ga K "InvalidPolicy")) (by rfl) EF.g_InvalidPolicy rfl) pa_nil))) (pa_cons (pe_callB (c_isE (K := K)) (by rfl) B.n_isinstance (by decide +kernel) (pa_cons (pv 0) (pa_cons (pe_glob (v := .ref (He.ga K "InvalidController")) (by rfl) EF.g_InvalidController rfl) pa_nil))) (pa_cons (pe_callB (c_isE (K := K)) (by rfl) B.n_isinstance (by decide +kernel) (pa_cons (pv 0) (pa_cons (pe_glob (v := .ref (He.ga K "InvalidLot")) (by rfl) EF.g_InvalidLot rfl) pa_nil))) pa_nil)))))) (pss_cons (ps_set (i := 1) sc_law_kinds.nd rfl (Or.inl rfl) (pe_op op_cat (pv 1) (pe_lst (pa_cons (pe_callB (c_isE (K := K)) (by rfl) B.n_isinstance (by decide +kernel) (pa_cons (pv 0) (pa_cons (pe_glob (v := .ref (He.ga K "InvalidOperation")) (by rfl) EF.g_InvalidOperation rfl) pa_nil))) (pa_cons (pe_callB (c_isE (K := K)) (by rfl) B.n_isinstance (by decide +kernel) (pa_cons (pv 0) (pa_cons (pe_glob (v := .ref (He.ga K "ParseError")) (by rfl) EF.g_ParseError rfl) pa_nil))) (pa_cons (pe_callB (c_isE (K := K)) (by rfl) B.n_isinstance (by decide +kernel) (pa_cons (pv 0) (pa_cons (pe_glob (v := .ref (He.ga K "GameError")) (by rfl) EF.g_GameError rfl) pa_nil))) pa_nil)))))) (pss_one (ps_ret (e_join (K := K) pe_str (pe_lc (own := [("_law_one", 2)]) (g := gName 2) (tt := tYes) rfl sc_law_kinds.nd (w_list (K := K) (pe_op op_cat (pv 1) (pe_lst (pa_cons (pe_callB (c_isE (K := K)) (by rfl) B.n_isinstance (by decide +kernel) (pa_cons (pv 0) (pa_cons (pe_bltn (v := .ty "ValueError") (by rfl) B.n_ValueError (by decide +kernel) rfl) pa_nil))) pa_nil)))) (blkOk_by (own := [("_law_one", 2)]) (N := ["_law_error", "_law_told", "_law_one"]) (sc := defScope s_law_kinds) (by decide +kernel)) (fun _ _ _ _ _ => pg_name (i := 2) sc_law_kinds.nd rfl (Or.inl rfl)) (fun _ _ _ _ _ => pts_nil) (fun _ _ _ _ _ => (pe_ifExp (pt_val (pv 2)) pe_str pe_str)))))))))), ?_⟩
    obtain ⟨b0, b1, b2, b3, b4, b5, b6, b7, b8, b9, b10, b11, b12, rfl⟩ := len13 hl
    have sH : Same H H := Same.refl H
    have ea0 := ea
    walk_at "yy"
    refine y_isE (b := b0) ea hT (.own _) (hk.at (i := 0) rfl rfl) ?_
    walk_at "yy"
    refine y_isE (b := b1) ea hT (.own _) (hk.at (i := 1) rfl rfl) ?_
    walk_at "yy"
    refine y_isE (b := b2) ea hT (.own _) (hk.at (i := 2) rfl rfl) ?_
    walk_at "yy"
    refine ⟨by show 3 ≤ sizeLine; decide, fun N0 n0 => ?_⟩
    have eN : (upd H N0 (.lst [V.bl b0, V.bl b1, V.bl b2])) N0 = some (.lst [V.bl b0, V.bl b1, V.bl b2]) := upd_same
    have s1 := same_new (o := .lst [V.bl b0, V.bl b1, V.bl b2]) n0
    generalize upd H N0 (.lst [V.bl b0, V.bl b1, V.bl b2]) = H1 at eN s1 ⊢
    have ea := ea.same s1
    have sH := sH.trans s1
    walk_at "yy"
    refine y_isE (b := b3) ea hT (.own _) (hk.at (i := 3) rfl rfl) ?_
    walk_at "yy"
    refine y_isE (b := b4) ea hT (.own _) (hk.at (i := 4) rfl rfl) ?_
    walk_at "yy"
    refine y_isE (b := b5) ea hT (.own _) (hk.at (i := 5) rfl rfl) ?_
    walk_at "yy"
    refine ⟨by show 3 ≤ sizeLine; decide, fun o1 m1 => ?_⟩
    walk_at "yy"
    refine ⟨N0, o1, _, _, rfl, rfl, by rw [upd_ne (ne_of_none eN m1)]; exact eN, upd_same, by show 6 ≤ sizeLine; decide, fun N1 n1 => ?_⟩
    have s1 := (same_new (o := .lst [V.bl b3, V.bl b4, V.bl b5]) m1).trans (same_new (o := .lst [V.bl b0, V.bl b1, V.bl b2, V.bl b3, V.bl b4, V.bl b5]) n1)
    have eN : (upd (upd H1 o1 (.lst [V.bl b3, V.bl b4, V.bl b5])) N1 (.lst [V.bl b0, V.bl b1, V.bl b2, V.bl b3, V.bl b4, V.bl b5])) N1 = some (.lst [V.bl b0, V.bl b1, V.bl b2, V.bl b3, V.bl b4, V.bl b5]) := upd_same
    change Same _ (upd (upd H1 o1 (.lst [V.bl b3, V.bl b4, V.bl b5])) N1 (.lst [V.bl b0, V.bl b1, V.bl b2, V.bl b3, V.bl b4, V.bl b5])) at s1
    generalize hgen : upd (upd H1 o1 (.lst [V.bl b3, V.bl b4, V.bl b5])) N1 (.lst [V.bl b0, V.bl b1, V.bl b2, V.bl b3, V.bl b4, V.bl b5]) = H2 at eN s1
    simp only [List.cons_append, List.nil_append]
    rw [hgen]
    clear hgen
    have ea := ea.same s1
    have sH := sH.trans s1
    walk_at "yy"
    refine y_isE (b := b6) ea hT (.own _) (hk.at (i := 6) rfl rfl) ?_
    walk_at "yy"
    refine y_isE (b := b7) ea hT (.own _) (hk.at (i := 7) rfl rfl) ?_
    walk_at "yy"
    refine y_isE (b := b8) ea hT (.own _) (hk.at (i := 8) rfl rfl) ?_
    walk_at "yy"
    refine ⟨by show 3 ≤ sizeLine; decide, fun o1 m1 => ?_⟩
    walk_at "yy"
    refine ⟨N1, o1, _, _, rfl, rfl, by rw [upd_ne (ne_of_none eN m1)]; exact eN, upd_same, by show 9 ≤ sizeLine; decide, fun N2 n1 => ?_⟩
    have s1 := (same_new (o := .lst [V.bl b6, V.bl b7, V.bl b8]) m1).trans (same_new (o := .lst [V.bl b0, V.bl b1, V.bl b2, V.bl b3, V.bl b4, V.bl b5, V.bl b6, V.bl b7, V.bl b8]) n1)
    have eN : (upd (upd H2 o1 (.lst [V.bl b6, V.bl b7, V.bl b8])) N2 (.lst [V.bl b0, V.bl b1, V.bl b2, V.bl b3, V.bl b4, V.bl b5, V.bl b6, V.bl b7, V.bl b8])) N2 = some (.lst [V.bl b0, V.bl b1, V.bl b2, V.bl b3, V.bl b4, V.bl b5, V.bl b6, V.bl b7, V.bl b8]) := upd_same
    change Same _ (upd (upd H2 o1 (.lst [V.bl b6, V.bl b7, V.bl b8])) N2 (.lst [V.bl b0, V.bl b1, V.bl b2, V.bl b3, V.bl b4, V.bl b5, V.bl b6, V.bl b7, V.bl b8])) at s1
    generalize hgen : upd (upd H2 o1 (.lst [V.bl b6, V.bl b7, V.bl b8])) N2 (.lst [V.bl b0, V.bl b1, V.bl b2, V.bl b3, V.bl b4, V.bl b5, V.bl b6, V.bl b7, V.bl b8]) = H3 at eN s1
    simp only [List.cons_append, List.nil_append]
    rw [hgen]
    clear hgen
    have ea := ea.same s1
    have sH := sH.trans s1
    walk_at "yy"
    refine y_isE (b := b9) ea hT (.own _) (hk.at (i := 9) rfl rfl) ?_
    walk_at "yy"
    refine y_isE (b := b10) ea hT (.own _) (hk.at (i := 10) rfl rfl) ?_
    walk_at "yy"
    refine y_isE (b := b11) ea hT (.own _) (hk.at (i := 11) rfl rfl) ?_
    walk_at "yy"
    refine ⟨by show 3 ≤ sizeLine; decide, fun o1 m1 => ?_⟩
    walk_at "yy"
    refine ⟨N2, o1, _, _, rfl, rfl, by rw [upd_ne (ne_of_none eN m1)]; exact eN, upd_same, by show 12 ≤ sizeLine; decide, fun N3 n1 => ?_⟩
    have s1 := (same_new (o := .lst [V.bl b9, V.bl b10, V.bl b11]) m1).trans (same_new (o := .lst [V.bl b0, V.bl b1, V.bl b2, V.bl b3, V.bl b4, V.bl b5, V.bl b6, V.bl b7, V.bl b8, V.bl b9, V.bl b10, V.bl b11]) n1)
    have eN : (upd (upd H3 o1 (.lst [V.bl b9, V.bl b10, V.bl b11])) N3 (.lst [V.bl b0, V.bl b1, V.bl b2, V.bl b3, V.bl b4, V.bl b5, V.bl b6, V.bl b7, V.bl b8, V.bl b9, V.bl b10, V.bl b11])) N3 = some (.lst [V.bl b0, V.bl b1, V.bl b2, V.bl b3, V.bl b4, V.bl b5, V.bl b6, V.bl b7, V.bl b8, V.bl b9, V.bl b10, V.bl b11]) := upd_same
    change Same _ (upd (upd H3 o1 (.lst [V.bl b9, V.bl b10, V.bl b11])) N3 (.lst [V.bl b0, V.bl b1, V.bl b2, V.bl b3, V.bl b4, V.bl b5, V.bl b6, V.bl b7, V.bl b8, V.bl b9, V.bl b10, V.bl b11])) at s1
    generalize hgen : upd (upd H3 o1 (.lst [V.bl b9, V.bl b10, V.bl b11])) N3 (.lst [V.bl b0, V.bl b1, V.bl b2, V.bl b3, V.bl b4, V.bl b5, V.bl b6, V.bl b7, V.bl b8, V.bl b9, V.bl b10, V.bl b11]) = H4 at eN s1
    simp only [List.cons_append, List.nil_append]
    rw [hgen]
    clear hgen
    have ea := ea.same s1
    have sH := sH.trans s1
    walk_at "yy"
    refine ⟨⟨_, rfl⟩, ?_⟩
    walk_at "yy"
    refine y_isE (b := b12) ea hT (.ty _) (hk.at (i := 12) rfl rfl) ?_
    walk_at "yy"
    refine ⟨by show 1 ≤ sizeLine; decide, fun o1 m1 => ?_⟩
    walk_at "yy"
    refine ⟨N3, o1, _, _, rfl, rfl, by rw [upd_ne (ne_of_none eN m1)]; exact eN, upd_same, by show 13 ≤ sizeLine; decide, fun N4 n1 => ?_⟩
    have s1 := (same_new (o := .lst [V.bl b12]) m1).trans (same_new (o := .lst [V.bl b0, V.bl b1, V.bl b2, V.bl b3, V.bl b4, V.bl b5, V.bl b6, V.bl b7, V.bl b8, V.bl b9, V.bl b10, V.bl b11, V.bl b12]) n1)
    have eN : (upd (upd H4 o1 (.lst [V.bl b12])) N4 (.lst [V.bl b0, V.bl b1, V.bl b2, V.bl b3, V.bl b4, V.bl b5, V.bl b6, V.bl b7, V.bl b8, V.bl b9, V.bl b10, V.bl b11, V.bl b12])) N4 = some (.lst [V.bl b0, V.bl b1, V.bl b2, V.bl b3, V.bl b4, V.bl b5, V.bl b6, V.bl b7, V.bl b8, V.bl b9, V.bl b10, V.bl b11, V.bl b12]) := upd_same
    change Same _ (upd (upd H4 o1 (.lst [V.bl b12])) N4 (.lst [V.bl b0, V.bl b1, V.bl b2, V.bl b3, V.bl b4, V.bl b5, V.bl b6, V.bl b7, V.bl b8, V.bl b9, V.bl b10, V.bl b11, V.bl b12])) at s1
    generalize hgen : upd (upd H4 o1 (.lst [V.bl b12])) N4 (.lst [V.bl b0, V.bl b1, V.bl b2, V.bl b3, V.bl b4, V.bl b5, V.bl b6, V.bl b7, V.bl b8, V.bl b9, V.bl b10, V.bl b11, V.bl b12]) = H5 at eN s1
    simp only [List.cons_append, List.nil_append]
    rw [hgen]
    clear hgen
    have ea := ea.same s1
    have sH := sH.trans s1
    refine ⟨N4, rfl, ⟨_, sql eN⟩, fun D nD => lc_list (xs := ([b0, b1, b2, b3, b4, b5, b6, b7, b8, b9, b10, b11, b12]).map V.bl) (fun j G => G D = some (.lst ((([b0, b1, b2, b3, b4, b5, b6, b7, b8, b9, b10, b11, b12]).take j).map fun b => V.str (if b then "x" else "."))) ∧ Same H5 G) ?_ (fun _ _ _ h => sql (h.2 _ _ eN)) ?_ ?_⟩
    · exact ⟨upd_same, same_new nD⟩
    · rintro j x G hx ⟨eD, s2⟩
      rw [List.getElem?_map] at hx
      obtain ⟨b, hb, rfl⟩ := Option.map_eq_some_iff.mp hx
      have fin : ∀ z : Str, z = (if b then ("x" : Str) else ".") → ∃ acc, G D = some (.lst acc) ∧ acc.length < sizeLine ∧ (upd G D (.lst (acc ++ [V.str z]))) D = some (.lst ((([b0, b1, b2, b3, b4, b5, b6, b7, b8, b9, b10, b11, b12]).take (j + 1)).map fun b => V.str (if b then "x" else "."))) ∧ Same H5 (upd G D (.lst (acc ++ [V.str z]))) := fun z hz =>
        ⟨_, eD, sz_lt (by rw [List.length_map, List.length_take]; show min j 13 < _; omega), by rw [upd_same, List.take_add_one, hb, List.map_append, hz]; rfl, same_mut s2 nD⟩
      walk_at "yy"
      refine ⟨rfl, ?_⟩
      walk_at "yy"
      walk_at "yt"
      walk_at "yy"
      refine y_ite (fun h1 => ?_) (fun h1 => ?_)
      · walk_at "yy"
        exact fin _ (by rw [h1]; rfl)
      · walk_at "yy"
        exact fin _ (by rw [h1]; rfl)
    · rintro G ⟨eD, s2⟩
      rw [List.length_map, List.take_length] at eD
      walk_at "yy"
      refine ⟨"", D, ([b0, b1, b2, b3, b4, b5, b6, b7, b8, b9, b10, b11, b12]).map fun b => if b then "x" else ".", rfl, rfl, .inl (sql (by rw [eD, List.map_map]; rfl)), by rw [len_marks, List.length_map, show ("" : Str).length = 0 by decide +kernel]; show 13 + 13 * 0 ≤ 16777216; decide, ?_⟩
      rw [join_marks]
      exact k _ (sH.trans s2)
theorem sc_law_others : FnScope ["_law_error", "_law_told", "_law_one"] ["_law_error"] (defScope s_law_others) := ⟨rfl, rfl, rfl, by decide +kernel, rfl, by decide +kernel, by decide +kernel⟩
-- 0 _law_error, 1 _law_told, 2 _law_one
theorem ok_law_others {f : Addr} {fd : FuncData} (F : FunD K "_law_others" "_law_others" (defArgs s_law_others) (defBody s_law_others) (defScope s_law_others) [] [] f fd) (B : Blt mg) (Z : Con mg) (EF : ErrF K mg) (hSM : ∃ o, base.get? sysModules = some o) : FnOk P w K mg base CX0 1 f fd ["_law_error"] (spOth K) := by
  refine F.ok sc_law_others (fun vs H Q E h => ?_) (fun cdv A outer s H vs Q E hr h => ?_)
  · obtain ⟨a, C, row, rfl, _⟩ := h
    rfl
  · obtain ⟨a, C, row, rfl, ea, hT, hk, hl, k⟩ := h
    refine ⟨_, PSs.nox (pss_cons (ps_set (i := 1) sc_law_others.nd rfl (Or.inl rfl) (pe_lst (pa_cons (pe_callB (c_isE (K := K)) (by rfl) B.n_isinstance (by decide +kernel) (pa_cons (pv 0) (pa_cons (pe_glob (v := .ref (He.ga K "UnknownGame")) (by rfl) EF.g_UnknownGame rfl) pa_nil))) (pa_cons (pe_callB (c_isE (K := K)) (by rfl) B.n_isinstance (by decide +kernel) (pa_cons (pv 0) (pa_cons (pe_glob (v := .ref (He.ga K "NoRow")) (by rfl) EF.g_NoRow rfl) pa_nil))) (pa_cons (pe_callB (c_isE (K := K)) (by rfl) B.n_isinstance (by decide +kernel) (pa_cons (pv 0) (pa_cons (pe_glob (v := .ref (He.ga K "NothingToUndo")) (by rfl) EF.g_NothingToUndo rfl) pa_nil))) pa_nil))))) (pss_cons (ps_set (i := 1) sc_law_others.nd rfl (Or.inl rfl) (pe_op op_cat (pv 1) (pe_lst (pa_cons (pe_callB (c_isE (K := K)) (by rfl) B.n_isinstance (by decide +kernel) (pa_cons (pv 0) (pa_cons (pe_glob (v := .ref (He.ga K "TooMany")) (by rfl) EF.g_TooMany rfl) pa_nil))) (pa_cons (pe_callB (c_isE (K := K)) (by rfl) B.n_isinstance (by decide +kernel) (pa_cons (pv 0) (pa_cons (pe_glob (v := .ref (He.ga K "Refused")) (by rfl) EF.g_Refused rfl) pa_nil))) (pa_cons (pe_callB (c_isE (K := K)) (by rfl) B.n_isinstance (by decide +kernel) (pa_cons (pv 0) (pa_cons (pe_glob (v := .ref (He.ga K "InvalidNumber")) (by rfl) EF.g_InvalidNumber rfl) pa_nil))) pa_nil)))))) (pss_cons (ps_set (i := 1) sc_law_others.nd rfl (Or.inl rfl) (pe_op op_cat (pv 1) (pe_lst (pa_cons (pe_callB (c_isE (K := K)) (by rfl) B.n_isinstance (by decide +kernel) (pa_cons (pv 0) (pa_cons (pe_bltn (v := .ty "KeyError") (by rfl) B.n_KeyError (by decide +kernel) rfl) pa_nil))) (pa_cons (pe_callB (c_isE (K := K)) (by rfl) B.n_isinstance (by decide +kernel) (pa_cons (pv 0) (pa_cons (pe_bltn (v := .ty "IndexError") (by rfl) B.n_IndexError (by decide +kernel) rfl) pa_nil))) (pa_cons (pe_callB (c_isE (K := K)) (by rfl) B.n_isinstance (by decide +kernel) (pa_cons (pv 0) (pa_cons (pe_bltn (v := .ty "LookupError") (by rfl) B.n_LookupError (by decide +kernel) rfl) pa_nil))) pa_nil)))))) (pss_cons (ps_set (i := 1) sc_law_others.nd rfl (Or.inl rfl) (pe_op op_cat (pv 1) (pe_lst (pa_cons (pe_callB (c_isE (K := K)) (by rfl) B.n_isinstance (by decide +kernel) (pa_cons (pv 0) (pa_cons (pe_bltn (v := .ty "OverflowError") (by rfl) B.n_OverflowError (by decide +kernel) rfl) pa_nil))) (pa_cons (pe_callB (c_isE (K := K)) (by rfl) B.n_isinstance (by decide +kernel) (pa_cons (pv 0) (pa_cons (pe_bltn (v := .ty "ArithmeticError") (by rfl) B.n_ArithmeticError (by decide +kernel) rfl) pa_nil))) pa_nil))))) (pss_one (ps_ret (e_join (K := K) pe_str (pe_lc (own := [("_law_one", 2)]) (g := gName 2) (tt := tYes) rfl sc_law_others.nd (w_list (K := K) (pe_op op_cat (pv 1) (pe_lst (pa_cons (pe_callB (c_isE (K := K)) (by rfl) B.n_isinstance (by decide +kernel) (pa_cons (pv 0) (pa_cons (pe_bltn (v := .ty "RuntimeError") (by rfl) B.n_RuntimeError (by decide +kernel) rfl) pa_nil))) pa_nil)))) (blkOk_by (own := [("_law_one", 2)]) (N := ["_law_error", "_law_told", "_law_one"]) (sc := defScope s_law_others) (by decide +kernel)) (fun _ _ _ _ _ => pg_name (i := 2) sc_law_others.nd rfl (Or.inl rfl)) (fun _ _ _ _ _ => pts_nil) (fun _ _ _ _ _ => (pe_ifExp (pt_val (pv 2)) pe_str pe_str)))))))))), ?_⟩
    obtain ⟨b0, b1, b2, b3, b4, b5, b6, b7, b8, b9, b10, b11, rfl⟩ := len12 hl
    have sH : Same H H := Same.refl H
    have ea0 := ea
    walk_at "yy"
    refine y_isE (b := b0) ea hT (.own _) (hk.at (i := 0) rfl rfl) ?_
    walk_at "yy"
    refine y_isE (b := b1) ea hT (.own _) (hk.at (i := 1) rfl rfl) ?_
    walk_at "yy"
    refine y_isE (b := b2) ea hT (.own _) (hk.at (i := 2) rfl rfl) ?_
    walk_at "yy"
    refine ⟨by show 3 ≤ sizeLine; decide, fun N0 n0 => ?_⟩
    have eN : (upd H N0 (.lst [V.bl b0, V.bl b1, V.bl b2])) N0 = some (.lst [V.bl b0, V.bl b1, V.bl b2]) := upd_same
    have s1 := same_new (o := .lst [V.bl b0, V.bl b1, V.bl b2]) n0
    generalize upd H N0 (.lst [V.bl b0, V.bl b1, V.bl b2]) = H1 at eN s1 ⊢
    have ea := ea.same s1
    have sH := sH.trans s1
    walk_at "yy"
    refine y_isE (b := b3) ea hT (.own _) (hk.at (i := 3) rfl rfl) ?_
    walk_at "yy"
    refine y_isE (b := b4) ea hT (.own _) (hk.at (i := 4) rfl rfl) ?_
    walk_at "yy"
    refine y_isE (b := b5) ea hT (.own _) (hk.at (i := 5) rfl rfl) ?_
    walk_at "yy"
    refine ⟨by show 3 ≤ sizeLine; decide, fun o1 m1 => ?_⟩
    walk_at "yy"
    refine ⟨N0, o1, _, _, rfl, rfl, by rw [upd_ne (ne_of_none eN m1)]; exact eN, upd_same, by show 6 ≤ sizeLine; decide, fun N1 n1 => ?_⟩
    have s1 := (same_new (o := .lst [V.bl b3, V.bl b4, V.bl b5]) m1).trans (same_new (o := .lst [V.bl b0, V.bl b1, V.bl b2, V.bl b3, V.bl b4, V.bl b5]) n1)
    have eN : (upd (upd H1 o1 (.lst [V.bl b3, V.bl b4, V.bl b5])) N1 (.lst [V.bl b0, V.bl b1, V.bl b2, V.bl b3, V.bl b4, V.bl b5])) N1 = some (.lst [V.bl b0, V.bl b1, V.bl b2, V.bl b3, V.bl b4, V.bl b5]) := upd_same
    change Same _ (upd (upd H1 o1 (.lst [V.bl b3, V.bl b4, V.bl b5])) N1 (.lst [V.bl b0, V.bl b1, V.bl b2, V.bl b3, V.bl b4, V.bl b5])) at s1
    generalize hgen : upd (upd H1 o1 (.lst [V.bl b3, V.bl b4, V.bl b5])) N1 (.lst [V.bl b0, V.bl b1, V.bl b2, V.bl b3, V.bl b4, V.bl b5]) = H2 at eN s1
    simp only [List.cons_append, List.nil_append]
    rw [hgen]
    clear hgen
    have ea := ea.same s1
    have sH := sH.trans s1
    walk_at "yy"
    refine y_isE (b := b6) ea hT (.ty _) (hk.at (i := 6) rfl rfl) ?_
    walk_at "yy"
    refine y_isE (b := b7) ea hT (.ty _) (hk.at (i := 7) rfl rfl) ?_
    walk_at "yy"
    refine y_isE (b := b8) ea hT (.ty _) (hk.at (i := 8) rfl rfl) ?_
    walk_at "yy"
    refine ⟨by show 3 ≤ sizeLine; decide, fun o1 m1 => ?_⟩
    walk_at "yy"
    refine ⟨N1, o1, _, _, rfl, rfl, by rw [upd_ne (ne_of_none eN m1)]; exact eN, upd_same, by show 9 ≤ sizeLine; decide, fun N2 n1 => ?_⟩
    have s1 := (same_new (o := .lst [V.bl b6, V.bl b7, V.bl b8]) m1).trans (same_new (o := .lst [V.bl b0, V.bl b1, V.bl b2, V.bl b3, V.bl b4, V.bl b5, V.bl b6, V.bl b7, V.bl b8]) n1)
    have eN : (upd (upd H2 o1 (.lst [V.bl b6, V.bl b7, V.bl b8])) N2 (.lst [V.bl b0, V.bl b1, V.bl b2, V.bl b3, V.bl b4, V.bl b5, V.bl b6, V.bl b7, V.bl b8])) N2 = some (.lst [V.bl b0, V.bl b1, V.bl b2, V.bl b3, V.bl b4, V.bl b5, V.bl b6, V.bl b7, V.bl b8]) := upd_same
    change Same _ (upd (upd H2 o1 (.lst [V.bl b6, V.bl b7, V.bl b8])) N2 (.lst [V.bl b0, V.bl b1, V.bl b2, V.bl b3, V.bl b4, V.bl b5, V.bl b6, V.bl b7, V.bl b8])) at s1
    generalize hgen : upd (upd H2 o1 (.lst [V.bl b6, V.bl b7, V.bl b8])) N2 (.lst [V.bl b0, V.bl b1, V.bl b2, V.bl b3, V.bl b4, V.bl b5, V.bl b6, V.bl b7, V.bl b8]) = H3 at eN s1
    simp only [List.cons_append, List.nil_append]
    rw [hgen]
    clear hgen
    have ea := ea.same s1
    have sH := sH.trans s1
    walk_at "yy"
    refine y_isE (b := b9) ea hT (.ty _) (hk.at (i := 9) rfl rfl) ?_
    walk_at "yy"
    refine y_isE (b := b10) ea hT (.ty _) (hk.at (i := 10) rfl rfl) ?_
    walk_at "yy"
    refine ⟨by show 2 ≤ sizeLine; decide, fun o1 m1 => ?_⟩
    walk_at "yy"
    refine ⟨N2, o1, _, _, rfl, rfl, by rw [upd_ne (ne_of_none eN m1)]; exact eN, upd_same, by show 11 ≤ sizeLine; decide, fun N3 n1 => ?_⟩
    have s1 := (same_new (o := .lst [V.bl b9, V.bl b10]) m1).trans (same_new (o := .lst [V.bl b0, V.bl b1, V.bl b2, V.bl b3, V.bl b4, V.bl b5, V.bl b6, V.bl b7, V.bl b8, V.bl b9, V.bl b10]) n1)
    have eN : (upd (upd H3 o1 (.lst [V.bl b9, V.bl b10])) N3 (.lst [V.bl b0, V.bl b1, V.bl b2, V.bl b3, V.bl b4, V.bl b5, V.bl b6, V.bl b7, V.bl b8, V.bl b9, V.bl b10])) N3 = some (.lst [V.bl b0, V.bl b1, V.bl b2, V.bl b3, V.bl b4, V.bl b5, V.bl b6, V.bl b7, V.bl b8, V.bl b9, V.bl b10]) := upd_same
    change Same _ (upd (upd H3 o1 (.lst [V.bl b9, V.bl b10])) N3 (.lst [V.bl b0, V.bl b1, V.bl b2, V.bl b3, V.bl b4, V.bl b5, V.bl b6, V.bl b7, V.bl b8, V.bl b9, V.bl b10])) at s1
    generalize hgen : upd (upd H3 o1 (.lst [V.bl b9, V.bl b10])) N3 (.lst [V.bl b0, V.bl b1, V.bl b2, V.bl b3, V.bl b4, V.bl b5, V.bl b6, V.bl b7, V.bl b8, V.bl b9, V.bl b10]) = H4 at eN s1
    simp only [List.cons_append, List.nil_append]
    rw [hgen]
    clear hgen
    have ea := ea.same s1
    have sH := sH.trans s1
    walk_at "yy"
    refine ⟨⟨_, rfl⟩, ?_⟩
    walk_at "yy"
    refine y_isE (b := b11) ea hT (.ty _) (hk.at (i := 11) rfl rfl) ?_
    walk_at "yy"
    refine ⟨by show 1 ≤ sizeLine; decide, fun o1 m1 => ?_⟩
    walk_at "yy"
    refine ⟨N3, o1, _, _, rfl, rfl, by rw [upd_ne (ne_of_none eN m1)]; exact eN, upd_same, by show 12 ≤ sizeLine; decide, fun N4 n1 => ?_⟩
    have s1 := (same_new (o := .lst [V.bl b11]) m1).trans (same_new (o := .lst [V.bl b0, V.bl b1, V.bl b2, V.bl b3, V.bl b4, V.bl b5, V.bl b6, V.bl b7, V.bl b8, V.bl b9, V.bl b10, V.bl b11]) n1)
    have eN : (upd (upd H4 o1 (.lst [V.bl b11])) N4 (.lst [V.bl b0, V.bl b1, V.bl b2, V.bl b3, V.bl b4, V.bl b5, V.bl b6, V.bl b7, V.bl b8, V.bl b9, V.bl b10, V.bl b11])) N4 = some (.lst [V.bl b0, V.bl b1, V.bl b2, V.bl b3, V.bl b4, V.bl b5, V.bl b6, V.bl b7, V.bl b8, V.bl b9, V.bl b10, V.bl b11]) := upd_same
    change Same _ (upd (upd H4 o1 (.lst [V.bl b11])) N4 (.lst [V.bl b0, V.bl b1, V.bl b2, V.bl b3, V.bl b4, V.bl b5, V.bl b6, V.bl b7, V.bl b8, V.bl b9, V.bl b10, V.bl b11])) at s1
    generalize hgen : upd (upd H4 o1 (.lst [V.bl b11])) N4 (.lst [V.bl b0, V.bl b1, V.bl b2, V.bl b3, V.bl b4, V.bl b5, V.bl b6, V.bl b7, V.bl b8, V.bl b9, V.bl b10, V.bl b11]) = H5 at eN s1
    simp only [List.cons_append, List.nil_append]
    rw [hgen]
    clear hgen
    have ea := ea.same s1
    have sH := sH.trans s1
    refine ⟨N4, rfl, ⟨_, sql eN⟩, fun D nD => lc_list (xs := ([b0, b1, b2, b3, b4, b5, b6, b7, b8, b9, b10, b11]).map V.bl) (fun j G => G D = some (.lst ((([b0, b1, b2, b3, b4, b5, b6, b7, b8, b9, b10, b11]).take j).map fun b => V.str (if b then "x" else "."))) ∧ Same H5 G) ?_ (fun _ _ _ h => sql (h.2 _ _ eN)) ?_ ?_⟩
    · exact ⟨upd_same, same_new nD⟩
    · rintro j x G hx ⟨eD, s2⟩
      rw [List.getElem?_map] at hx
      obtain ⟨b, hb, rfl⟩ := Option.map_eq_some_iff.mp hx
      have fin : ∀ z : Str, z = (if b then ("x" : Str) else ".") → ∃ acc, G D = some (.lst acc) ∧ acc.length < sizeLine ∧ (upd G D (.lst (acc ++ [V.str z]))) D = some (.lst ((([b0, b1, b2, b3, b4, b5, b6, b7, b8, b9, b10, b11]).take (j + 1)).map fun b => V.str (if b then "x" else "."))) ∧ Same H5 (upd G D (.lst (acc ++ [V.str z]))) := fun z hz =>
        ⟨_, eD, sz_lt (by rw [List.length_map, List.length_take]; show min j 12 < _; omega), by rw [upd_same, List.take_add_one, hb, List.map_append, hz]; rfl, same_mut s2 nD⟩
      walk_at "yy"
      refine ⟨rfl, ?_⟩
      walk_at "yy"
      walk_at "yt"
      walk_at "yy"
      refine y_ite (fun h1 => ?_) (fun h1 => ?_)
      · walk_at "yy"
        exact fin _ (by rw [h1]; rfl)
      · walk_at "yy"
        exact fin _ (by rw [h1]; rfl)
    · rintro G ⟨eD, s2⟩
      rw [List.length_map, List.take_length] at eD
      walk_at "yy"
      refine ⟨"", D, ([b0, b1, b2, b3, b4, b5, b6, b7, b8, b9, b10, b11]).map fun b => if b then "x" else ".", rfl, rfl, .inl (sql (by rw [eD, List.map_map]; rfl)), by rw [len_marks, List.length_map, show ("" : Str).length = 0 by decide +kernel]; show 12 + 12 * 0 ≤ 16777216; decide, ?_⟩
      rw [join_marks]
      exact k _ (sH.trans s2)
theorem sc_law_right : FnScope ["_law_dice_here", "_law_thing", "_law_words", "_law_base", "_law_at", "_law_due", "_law_others_here", "_law_kept", "_law_spot", "_law_one"] ["_law_dice_here"] (defScope s_law_right) := ⟨rfl, rfl, rfl, by decide +kernel, rfl, by decide +kernel, by decide +kernel⟩
-- 0 _law_dice_here, 1 _law_thing, 2 _law_words, 3 _law_base, 4 _law_at, 5 _law_due, 6 _law_others_here, 7 _law_kept, 8 _law_spot, 9 _law_one
theorem ok_law_right {f : Addr} {fd : FuncData} (F : FunD K "_law_right" "_law_right" (defArgs s_law_right) (defBody s_law_right) (defScope s_law_right) [] [] f fd) (B : Blt mg) (Z : Con mg) (EF : ErrF K mg) (hSM : ∃ o, base.get? sysModules = some o) (C_law_pick : Cal P w K mg base 2 "_law_pick" ["_law_dice_here", "_law_items"] (spPick K)) (C_law_kinds : Cal P w K mg base 1 "_law_kinds" ["_law_error"] (spKin K)) (C_law_others : Cal P w K mg base 1 "_law_others" ["_law_error"] (spOth K)) (C_ParseError___init__ : ∃ (fd : FuncData) (ps : List Str), FnOk P w K mg base CX0 1 (He.ma K (He.ga K "ParseError") "__init__") fd ps (spEI (He.ga K "ParseError") "line") ∧ Binds K fd ps []) (C_UnknownGame___init__ : ∃ (fd : FuncData) (ps : List Str), FnOk P w K mg base CX0 1 (He.ma K (He.ga K "UnknownGame") "__init__") fd ps (spEI (He.ga K "UnknownGame") "asked") ∧ Binds K fd ps []) (C_NoRow___init__ : ∃ (fd : FuncData) (ps : List Str), FnOk P w K mg base CX0 1 (He.ma K (He.ga K "NoRow") "__init__") fd ps (spEI (He.ga K "NoRow") "wanted") ∧ Binds K fd ps []) (C_NothingToUndo___init__ : ∃ (fd : FuncData) (ps : List Str), FnOk P w K mg base CX0 1 (He.ma K (He.ga K "NothingToUndo") "__init__") fd ps (spEI (He.ga K "NothingToUndo") "amount") ∧ Binds K fd ps []) (C_TooMany___init__ : ∃ (fd : FuncData) (ps : List Str), FnOk P w K mg base CX0 1 (He.ma K (He.ga K "TooMany") "__init__") fd ps (spEI (He.ga K "TooMany") "limit") ∧ Binds K fd ps []) (C_Refused___init__ : ∃ (fd : FuncData) (ps : List Str), FnOk P w K mg base CX0 1 (He.ma K (He.ga K "Refused") "__init__") fd ps (spEI (He.ga K "Refused") "cause") ∧ Binds K fd ps []) (C_InvalidNumber___init__ : ∃ (fd : FuncData) (ps : List Str), FnOk P w K mg base CX0 1 (He.ma K (He.ga K "InvalidNumber") "__init__") fd ps (spEI (He.ga K "InvalidNumber") "number") ∧ Binds K fd ps []) : FnG P w K mg base CX0 4 f fd ["_law_dice_here"] spRight := by
  refine fnG_of F sc_law_right (fun vs H Q E h => ?_) (fun cdv A outer s H vs Q E hG hr h => ?_)
  · obtain ⟨d, rfl, _⟩ := h
    rfl
  · obtain ⟨d, rfl, hD, k⟩ := h
    obtain ⟨fd_ParseError, ps_ParseError, F_ParseError, B_ParseError⟩ := C_ParseError___init__
    obtain ⟨fd_UnknownGame, ps_UnknownGame, F_UnknownGame, B_UnknownGame⟩ := C_UnknownGame___init__
    obtain ⟨fd_NoRow, ps_NoRow, F_NoRow, B_NoRow⟩ := C_NoRow___init__
    obtain ⟨fd_NothingToUndo, ps_NothingToUndo, F_NothingToUndo, B_NothingToUndo⟩ := C_NothingToUndo___init__
    obtain ⟨fd_TooMany, ps_TooMany, F_TooMany, B_TooMany⟩ := C_TooMany___init__
    obtain ⟨fd_Refused, ps_Refused, F_Refused, B_Refused⟩ := C_Refused___init__
    obtain ⟨fd_InvalidNumber, ps_InvalidNumber, F_InvalidNumber, B_InvalidNumber⟩ := C_InvalidNumber___init__
    refine ⟨_, PSs.nox (pss_cons (ps_set (i := 1) sc_law_right.nd rfl (Or.inl rfl) (pe_fn C_law_pick (hr.mono (by decide)) (by rfl) (pa_cons (pv 0) (pa_cons (pe_lst (pa_cons pe_int (pa_cons pe_str (pa_cons pe_str (pa_cons pe_non (pa_cons (pe_tup pa_nil) (pa_cons (pe_tup (pa_cons pe_str (pa_cons pe_str pa_nil))) (pa_cons (pe_op op_powW pe_int pe_int) (pa_cons pe_bl (pa_cons (pe_tup (pa_cons pe_str (pa_cons (pe_tup (pa_cons pe_int (pa_cons pe_int pa_nil))) pa_nil))) (pa_cons (pe_lst (pa_cons pe_int pa_nil)) (pa_cons (pe_disp (pps_cons pe_str pe_int pps_nil) (by rfl) (by rfl) (fun z => by cases z) (by decide)) pa_nil)))))))))))) pa_nil)))) (pss_cons (ps_set (i := 2) sc_law_right.nd rfl (Or.inl rfl) (pe_fn C_law_pick (hr.mono (by decide)) (by rfl) (pa_cons (pv 0) (pa_cons (pe_lst (pa_cons pe_str (pa_cons pe_str (pa_cons pe_str (pa_cons pe_str pa_nil))))) pa_nil)))) (pss_cons (ps_set (i := 3) sc_law_right.nd rfl (Or.inl rfl) (pe_lst (pa_cons (pe_exT PySem.F.excBase_ValueError (EF.t "InvalidWord" (by decide +kernel)).q (EF.t "InvalidWord" (by decide +kernel)).hi (EF.t "InvalidWord" (by decide +kernel)).kC (by rfl) EF.g_InvalidWord (pv 2)) (pa_cons (pe_exT PySem.F.excBase_ValueError (EF.t "InvalidFraction" (by decide +kernel)).q (EF.t "InvalidFraction" (by decide +kernel)).hi (EF.t "InvalidFraction" (by decide +kernel)).kC (by rfl) EF.g_InvalidFraction (pv 2)) (pa_cons (pe_exT PySem.F.excBase_ValueError (EF.t "InvalidGame" (by decide +kernel)).q (EF.t "InvalidGame" (by decide +kernel)).hi (EF.t "InvalidGame" (by decide +kernel)).kC (by rfl) EF.g_InvalidGame (pv 2)) (pa_cons (pe_exT PySem.F.excBase_ValueError (EF.t "InvalidHouse" (by decide +kernel)).q (EF.t "InvalidHouse" (by decide +kernel)).hi (EF.t "InvalidHouse" (by decide +kernel)).kC (by rfl) EF.g_InvalidHouse (pv 2)) (pa_cons (pe_exT PySem.F.excBase_ValueError (EF.t "InvalidRow" (by decide +kernel)).q (EF.t "InvalidRow" (by decide +kernel)).hi (EF.t "InvalidRow" (by decide +kernel)).kC (by rfl) EF.g_InvalidRow (pv 2)) pa_nil))))))) (pss_cons (ps_set (i := 3) sc_law_right.nd rfl (Or.inl rfl) (pe_op op_cat (pv 3) (pe_lst (pa_cons (pe_exT PySem.F.excBase_ValueError (EF.t "InvalidWeights" (by decide +kernel)).q (EF.t "InvalidWeights" (by decide +kernel)).hi (EF.t "InvalidWeights" (by decide +kernel)).kC (by rfl) EF.g_InvalidWeights (pv 2)) (pa_cons (pe_exT PySem.F.excBase_ValueError (EF.t "InvalidPolicy" (by decide +kernel)).q (EF.t "InvalidPolicy" (by decide +kernel)).hi (EF.t "InvalidPolicy" (by decide +kernel)).kC (by rfl) EF.g_InvalidPolicy (pv 2)) (pa_cons (pe_exT PySem.F.excBase_ValueError (EF.t "InvalidController" (by decide +kernel)).q (EF.t "InvalidController" (by decide +kernel)).hi (EF.t "InvalidController" (by decide +kernel)).kC (by rfl) EF.g_InvalidController (pv 2)) (pa_cons (pe_exT PySem.F.excBase_ValueError (EF.t "InvalidLot" (by decide +kernel)).q (EF.t "InvalidLot" (by decide +kernel)).hi (EF.t "InvalidLot" (by decide +kernel)).kC (by rfl) EF.g_InvalidLot (pv 2)) pa_nil))))))) (pss_cons (ps_set (i := 3) sc_law_right.nd rfl (Or.inl rfl) (pe_op op_cat (pv 3) (pe_lst (pa_cons (pe_exT PySem.F.excBase_ValueError (EF.t "InvalidOperation" (by decide +kernel)).q (EF.t "InvalidOperation" (by decide +kernel)).hi (EF.t "InvalidOperation" (by decide +kernel)).kC (by rfl) EF.g_InvalidOperation (pv 2)) (pa_cons (pe_exT PySem.F.excBase_ValueError (EF.t "GameError" (by decide +kernel)).q (EF.t "GameError" (by decide +kernel)).hi (EF.t "GameError" (by decide +kernel)).kC (by rfl) EF.g_GameError (pv 2)) pa_nil))))) (pss_cons (ps_if (PW.pt (pw_or (pt_cmpR (o_neD (K := K) hr.units) (pe_lc (own := [("_law_one", 9)]) (g := gName 9) (tt := tYes) rfl sc_law_right.nd (w_list (K := K) (pv 3)) (blkOk_by (own := [("_law_one", 9)]) (N := ["_law_dice_here", "_law_thing", "_law_words", "_law_base", "_law_at", "_law_due", "_law_others_here", "_law_kept", "_law_spot", "_law_one"]) (sc := defScope s_law_right) (by decide +kernel)) (fun _ _ _ _ _ => pg_name (i := 9) sc_law_right.nd rfl (Or.inl rfl)) (fun _ _ _ _ _ => pts_nil) (fun _ _ _ _ _ => (pe_callTy (c_strE (K := K) hr.units) (by rfl) B.n_str (by decide +kernel) (pa_cons (pv 9) pa_nil)))) (pe_op op_rep (pe_lst (pa_cons (pv 2) pa_nil)) pe_int) (nomark _)) (pw_or1 (pt_cmpR (o_neD (K := K) hr.units) (pe_lc (own := [("_law_one", 9)]) (g := gName 9) (tt := tYes) rfl sc_law_right.nd (w_list (K := K) (pv 3)) (blkOk_by (own := [("_law_one", 9)]) (N := ["_law_dice_here", "_law_thing", "_law_words", "_law_base", "_law_at", "_law_due", "_law_others_here", "_law_kept", "_law_spot", "_law_one"]) (sc := defScope s_law_right) (by decide +kernel)) (fun _ _ _ _ _ => pg_name (i := 9) sc_law_right.nd rfl (Or.inl rfl)) (fun _ _ _ _ _ => pts_nil) (fun _ _ _ _ _ => (pe_fn C_law_others (hr.mono (by decide)) (by rfl) (pa_cons (pv 9) pa_nil)))) (pe_op op_rep (pe_lst (pa_cons (pe_op op_dots pe_str pe_int) pa_nil)) pe_int) (nomark _))))) (pss_one (ps_ret pe_bl)) pss_nil) (pss_cons (ps_set (i := 4) sc_law_right.nd rfl (Or.inl rfl) (pe_fn C_law_pick (hr.mono (by decide)) (by rfl) (pa_cons (pv 0) (pa_cons (pe_lst (pa_cons pe_non (pa_cons pe_int (pa_cons pe_int (pa_cons (pe_op op_powW pe_int pe_int) pa_nil))))) pa_nil)))) (pss_cons (ps_asg (pe_exI EF.c_ParseError.G EF.c_ParseError.iC EF.c_ParseError.tI F_ParseError B_ParseError (hr.mono (by decide)) (by rfl) EF.g_ParseError (pa_cons (pv 4) pa_nil)) (pg_sub (pv 3) pe_int set_list)) (pss_cons (ps_setLc (i := 5) (own := [("_law_spot", 8)]) (g := gName 8) (tt := tYes) rfl sc_law_right.nd rfl rfl (sw_true rfl rfl rfl (by decide +kernel)) (pi_range1 (by rfl) B.n_range (pa_cons pe_int pa_nil)) (blkOk_by (own := [("_law_spot", 8)]) (N := ["_law_dice_here", "_law_thing", "_law_words", "_law_base", "_law_at", "_law_due", "_law_others_here", "_law_kept", "_law_spot", "_law_one"]) (sc := defScope s_law_right) (by decide +kernel)) (fun _ _ _ _ _ => pg_name (i := 8) sc_law_right.nd rfl (Or.inl rfl)) (fun _ _ _ _ _ => pts_nil) (fun _ _ _ _ _ => (pe_op op_add_str (pe_op op_add_str (pe_op op_add_str (pe_op op_dots pe_str (pv 8)) pe_str) (pe_op op_dots pe_str (pe_op op_sub pe_int (pv 8)))) pe_str))) (pss_cons (ps_if (PW.pt (pw_or (pt_cmpR (o_neD (K := K) hr.units) (pe_lc (own := [("_law_one", 9)]) (g := gName 9) (tt := tYes) rfl sc_law_right.nd (w_list (K := K) (pv 3)) (blkOk_by (own := [("_law_one", 9)]) (N := ["_law_dice_here", "_law_thing", "_law_words", "_law_base", "_law_at", "_law_due", "_law_others_here", "_law_kept", "_law_spot", "_law_one"]) (sc := defScope s_law_right) (by decide +kernel)) (fun _ _ _ _ _ => pg_name (i := 9) sc_law_right.nd rfl (Or.inl rfl)) (fun _ _ _ _ _ => pts_nil) (fun _ _ _ _ _ => (pe_fn C_law_kinds (hr.mono (by decide)) (by rfl) (pa_cons (pv 9) pa_nil)))) (pv 5) (nomark _)) (pw_or1 (pt_cmpR op_ne (pe_fn C_law_kinds (hr.mono (by decide)) (by rfl) (pa_cons (pe_exT PySem.F.excBase_ValueError (EF.t "GameError" (by decide +kernel)).q (EF.t "GameError" (by decide +kernel)).hi (EF.t "GameError" (by decide +kernel)).kC (by rfl) EF.g_GameError (pv 2)) pa_nil)) (pe_op op_add_str (pe_op op_dots pe_str pe_int) pe_str) (nomark _))))) (pss_one (ps_ret pe_bl)) pss_nil) (pss_cons (ps_set (i := 6) sc_law_right.nd rfl (Or.inl rfl) (pe_lst (pa_cons (pe_exI EF.c_UnknownGame.G EF.c_UnknownGame.iC EF.c_UnknownGame.tI F_UnknownGame B_UnknownGame (hr.mono (by decide)) (by rfl) EF.g_UnknownGame (pa_cons (pv 1) pa_nil)) (pa_cons (pe_exI EF.c_NoRow.G EF.c_NoRow.iC EF.c_NoRow.tI F_NoRow B_NoRow (hr.mono (by decide)) (by rfl) EF.g_NoRow (pa_cons (pv 1) pa_nil)) (pa_cons (pe_exI EF.c_NothingToUndo.G EF.c_NothingToUndo.iC EF.c_NothingToUndo.tI F_NothingToUndo B_NothingToUndo (hr.mono (by decide)) (by rfl) EF.g_NothingToUndo (pa_cons (pv 1) pa_nil)) (pa_cons (pe_exI EF.c_TooMany.G EF.c_TooMany.iC EF.c_TooMany.tI F_TooMany B_TooMany (hr.mono (by decide)) (by rfl) EF.g_TooMany (pa_cons (pv 1) pa_nil)) (pa_cons (pe_exI EF.c_Refused.G EF.c_Refused.iC EF.c_Refused.tI F_Refused B_Refused (hr.mono (by decide)) (by rfl) EF.g_Refused (pa_cons (pv 1) pa_nil)) pa_nil))))))) (pss_cons (ps_expr (e_bm (K := K) PySem.F.plainAttrs_list PySem.F.slot_list_append PySem.F.type_list_append mt_append (pv 6) (pa_cons (pe_exI EF.c_InvalidNumber.G EF.c_InvalidNumber.iC EF.c_InvalidNumber.tI F_InvalidNumber B_InvalidNumber (hr.mono (by decide)) (by rfl) EF.g_InvalidNumber (pa_cons (pv 1) pa_nil)) pa_nil))) (pss_cons (ps_set (i := 5) sc_law_right.nd rfl (Or.inl rfl) (pe_lst (pa_cons pe_str (pa_cons pe_str (pa_cons pe_str (pa_cons pe_str (pa_cons pe_str (pa_cons pe_str pa_nil)))))))) (pss_cons (ps_if (PW.pt (pw_or (pt_cmpR (o_neD (K := K) hr.units) (pe_lc (own := [("_law_one", 9)]) (g := gName 9) (tt := tYes) rfl sc_law_right.nd (w_list (K := K) (pv 6)) (blkOk_by (own := [("_law_one", 9)]) (N := ["_law_dice_here", "_law_thing", "_law_words", "_law_base", "_law_at", "_law_due", "_law_others_here", "_law_kept", "_law_spot", "_law_one"]) (sc := defScope s_law_right) (by decide +kernel)) (fun _ _ _ _ _ => pg_name (i := 9) sc_law_right.nd rfl (Or.inl rfl)) (fun _ _ _ _ _ => pts_nil) (fun _ _ _ _ _ => (pe_fn C_law_others (hr.mono (by decide)) (by rfl) (pa_cons (pv 9) pa_nil)))) (pv 5) (nomark _)) (pw_or1 (pt_cmpR (o_neD (K := K) hr.units) (pe_lc (own := [("_law_one", 9)]) (g := gName 9) (tt := tYes) rfl sc_law_right.nd (w_list (K := K) (pv 6)) (blkOk_by (own := [("_law_one", 9)]) (N := ["_law_dice_here", "_law_thing", "_law_words", "_law_base", "_law_at", "_law_due", "_law_others_here", "_law_kept", "_law_spot", "_law_one"]) (sc := defScope s_law_right) (by decide +kernel)) (fun _ _ _ _ _ => pg_name (i := 9) sc_law_right.nd rfl (Or.inl rfl)) (fun _ _ _ _ _ => pts_nil) (fun _ _ _ _ _ => (pe_fn C_law_kinds (hr.mono (by decide)) (by rfl) (pa_cons (pv 9) pa_nil)))) (pe_op op_rep (pe_lst (pa_cons (pe_op op_dots pe_str pe_int) pa_nil)) pe_int) (nomark _))))) (pss_one (ps_ret pe_bl)) pss_nil) (pss_cons (ps_if (PW.pt (pw_or (pt_cmpR op_ne (pe_fn C_law_others (hr.mono (by decide)) (by rfl) (pa_cons (pe_ix (x_list (K := K)) (pv 3) pe_int (fun _ _ => rfl)) pa_nil)) (pe_op op_dots pe_str pe_int) (nomark _)) (pw_or1 (pt_cmpR op_ne (pe_callB (c_repr hG hr.units hSM) (by rfl) B.n_repr (by decide +kernel) (pa_cons (pe_ef EF.c_ParseError.xf EF.c_ParseError.no (pe_ix (x_list (K := K)) (pv 3) pe_int (fun _ _ => rfl))) pa_nil)) (pe_callB (c_repr hG hr.units hSM) (by rfl) B.n_repr (by decide +kernel) (pa_cons (pv 4) pa_nil)) (nomark _))))) (pss_one (ps_ret pe_bl)) pss_nil) (pss_cons (ps_set (i := 7) sc_law_right.nd rfl (Or.inl rfl) (pe_lst (pa_cons (pe_ef EF.c_UnknownGame.xf EF.c_UnknownGame.no (pe_ix (x_list (K := K)) (pv 6) pe_int (fun _ _ => rfl))) (pa_cons (pe_ef EF.c_NoRow.xf EF.c_NoRow.no (pe_ix (x_list (K := K)) (pv 6) pe_int (fun _ _ => rfl))) (pa_cons (pe_ef EF.c_NothingToUndo.xf EF.c_NothingToUndo.no (pe_ix (x_list (K := K)) (pv 6) pe_int (fun _ _ => rfl))) (pa_cons (pe_ef EF.c_TooMany.xf EF.c_TooMany.no (pe_ix (x_list (K := K)) (pv 6) pe_int (fun _ _ => rfl))) (pa_cons (pe_ef EF.c_Refused.xf EF.c_Refused.no (pe_ix (x_list (K := K)) (pv 6) pe_int (fun _ _ => rfl))) (pa_cons (pe_ef EF.c_InvalidNumber.xf EF.c_InvalidNumber.no (pe_ix (x_list (K := K)) (pv 6) pe_int (fun _ _ => rfl))) pa_nil)))))))) (pss_one (ps_ret (pe_cmpR op_eq (pe_callB (c_repr hG hr.units hSM) (by rfl) B.n_repr (by decide +kernel) (pa_cons (pv 7) pa_nil)) (pe_callB (c_repr hG hr.units hSM) (by rfl) B.n_repr (by decide +kernel) (pa_cons (pe_op op_rep (pe_lst (pa_cons (pv 1) pa_nil)) pe_int) pa_nil)) (nomark _)))))))))))))))))))), ?_⟩
    have fr : Fr d H H := Fr.refl d H
    walk_at "yy"
    refine ⟨by show 0 ≤ sizeLine; decide, fun q0 m0 => ?_⟩
    have e_q0 : (upd H q0 (.tup [])) q0 = some (.tup []) := upd_same
    have s1 := same_new (H := H) (p := q0) (o := .tup []) m0
    have nd_q0 : q0 ≠ d := hD.ne m0
    have n0_q0 : H q0 = none := free_fr fr m0 nd_q0
    generalize hgen : upd H q0 (.tup []) = H1 at e_q0 s1 ⊢
    clear hgen
    have hD := hD.same s1
    have fr := fr.trans (Fr.of_same s1)
    walk_at "yy"
    refine ⟨by show 2 ≤ sizeLine; decide, fun q1 m1 => ?_⟩
    have e_q1 : (upd H1 q1 (.tup [.str "a", .str "b"])) q1 = some (.tup [.str "a", .str "b"]) := upd_same
    have s1 := same_new (H := H1) (p := q1) (o := .tup [.str "a", .str "b"]) m1
    have nd_q1 : q1 ≠ d := hD.ne m1
    have n0_q1 : H q1 = none := free_fr fr m1 nd_q1
    generalize hgen : upd H1 q1 (.tup [.str "a", .str "b"]) = H2 at e_q1 s1 ⊢
    clear hgen
    have e_q0 := s1 _ _ e_q0
    have hD := hD.same s1
    have fr := fr.trans (Fr.of_same s1)
    walk_at "yy"
    walk_at "yi"
    walk_at "yy"
    refine ⟨by show 2 ≤ sizeLine; decide, fun q2 m2 => ?_⟩
    have e_q2 : (upd H2 q2 (.tup [.int 1, .int 2])) q2 = some (.tup [.int 1, .int 2]) := upd_same
    have s1 := same_new (H := H2) (p := q2) (o := .tup [.int 1, .int 2]) m2
    have nd_q2 : q2 ≠ d := hD.ne m2
    have n0_q2 : H q2 = none := free_fr fr m2 nd_q2
    generalize hgen : upd H2 q2 (.tup [.int 1, .int 2]) = H3 at e_q2 s1 ⊢
    clear hgen
    have e_q0 := s1 _ _ e_q0
    have e_q1 := s1 _ _ e_q1
    have hD := hD.same s1
    have fr := fr.trans (Fr.of_same s1)
    walk_at "yy"
    refine ⟨by show 2 ≤ sizeLine; decide, fun q3 m3 => ?_⟩
    have e_q3 : (upd H3 q3 (.tup [.str "least", .ref q2])) q3 = some (.tup [.str "least", .ref q2]) := upd_same
    have s1 := same_new (H := H3) (p := q3) (o := .tup [.str "least", .ref q2]) m3
    have nd_q3 : q3 ≠ d := hD.ne m3
    have n0_q3 : H q3 = none := free_fr fr m3 nd_q3
    generalize hgen : upd H3 q3 (.tup [.str "least", .ref q2]) = H4 at e_q3 s1 ⊢
    clear hgen
    have e_q0 := s1 _ _ e_q0
    have e_q1 := s1 _ _ e_q1
    have e_q2 := s1 _ _ e_q2
    have hD := hD.same s1
    have fr := fr.trans (Fr.of_same s1)
    walk_at "yy"
    refine ⟨by show 1 ≤ sizeLine; decide, fun q4 m4 => ?_⟩
    have e_q4 : (upd H4 q4 (.lst [.int 1])) q4 = some (.lst [.int 1]) := upd_same
    have s1 := same_new (H := H4) (p := q4) (o := .lst [.int 1]) m4
    have nd_q4 : q4 ≠ d := hD.ne m4
    have n0_q4 : H q4 = none := free_fr fr m4 nd_q4
    generalize hgen : upd H4 q4 (.lst [.int 1]) = H5 at e_q4 s1 ⊢
    clear hgen
    have e_q0 := s1 _ _ e_q0
    have e_q1 := s1 _ _ e_q1
    have e_q2 := s1 _ _ e_q2
    have e_q3 := s1 _ _ e_q3
    have hD := hD.same s1
    have fr := fr.trans (Fr.of_same s1)
    walk_at "yy"
    refine fun q5 m5 => ?_
    refine ⟨upd_same, [(.inr "a", .int 1)], rfl, by decide, ?_⟩
    rw [upd_upd, show mergeK [] [((.inr "a" : Key), V.int 1)] = [((.inr "a" : Key), V.int 1)] from rfl]
    have e_q5 : (upd H5 q5 (.dK [(.inr "a", .int 1)])) q5 = some (.dK [(.inr "a", .int 1)]) := upd_same
    have s1 := same_new (H := H5) (p := q5) (o := .dK [(.inr "a", .int 1)]) m5
    have nd_q5 : q5 ≠ d := hD.ne m5
    have n0_q5 : H q5 = none := free_fr fr m5 nd_q5
    generalize hgen : upd H5 q5 (.dK [(.inr "a", .int 1)]) = H6 at e_q5 s1 ⊢
    clear hgen
    have e_q0 := s1 _ _ e_q0
    have e_q1 := s1 _ _ e_q1
    have e_q2 := s1 _ _ e_q2
    have e_q3 := s1 _ _ e_q3
    have e_q4 := s1 _ _ e_q4
    have hD := hD.same s1
    have fr := fr.trans (Fr.of_same s1)
    walk_at "yy"
    refine ⟨by show 11 ≤ sizeLine; decide, fun lo mo => ?_⟩
    have e_lo : (upd H6 lo (.lst [V.int 0, .str "", .str "a", .non, .ref q0, .ref q1, .int (10 ^ Int.toNat 60), .bl true, .ref q3, .ref q4, .ref q5])) lo = some (.lst [V.int 0, .str "", .str "a", .non, .ref q0, .ref q1, .int (10 ^ Int.toNat 60), .bl true, .ref q3, .ref q4, .ref q5]) := upd_same
    have s1 := same_new (H := H6) (p := lo) (o := .lst [V.int 0, .str "", .str "a", .non, .ref q0, .ref q1, .int (10 ^ Int.toNat 60), .bl true, .ref q3, .ref q4, .ref q5]) mo
    have nd_lo : lo ≠ d := hD.ne mo
    have n0_lo : H lo = none := free_fr fr mo nd_lo
    generalize hgen : upd H6 lo (.lst [V.int 0, .str "", .str "a", .non, .ref q0, .ref q1, .int (10 ^ Int.toNat 60), .bl true, .ref q3, .ref q4, .ref q5]) = H7 at e_lo s1 ⊢
    clear hgen
    have e_q0 := s1 _ _ e_q0
    have e_q1 := s1 _ _ e_q1
    have e_q2 := s1 _ _ e_q2
    have e_q3 := s1 _ _ e_q3
    have e_q4 := s1 _ _ e_q4
    have e_q5 := s1 _ _ e_q5
    have hD := hD.same s1
    have fr := fr.trans (Fr.of_same s1)
    have hT : ∀ v ∈ [V.int 0, .str "", .str "a", .non, .ref q0, .ref q1, .int (10 ^ Int.toNat 60), .bl true, .ref q3, .ref q4, .ref q5], ∃ D, RdH (wo H7 d d) v D ∧ okD D = true := by
      intro v hv
      simp only [List.mem_cons, List.not_mem_nil, or_false] at hv
      rcases hv with rfl | rfl | rfl | rfl | rfl | rfl | rfl | rfl | rfl | rfl | rfl
      · exact ⟨_, .int _, by decide +kernel⟩
      · exact ⟨_, .str _, by decide +kernel⟩
      · exact ⟨_, .str _, by decide +kernel⟩
      · exact ⟨_, .non, by decide +kernel⟩
      · exact ⟨_, .tup (by rw [wo_ne nd_q0 nd_q0]; exact e_q0) .nil, by decide +kernel⟩
      · exact ⟨_, .tup (by rw [wo_ne nd_q1 nd_q1]; exact e_q1) (.cons (.str _) (.cons (.str _) .nil)), by decide +kernel⟩
      · exact ⟨_, .int _, by decide +kernel⟩
      · exact ⟨_, .bl _, by decide +kernel⟩
      · exact ⟨_, .tup (by rw [wo_ne nd_q3 nd_q3]; exact e_q3) (.cons (.str _) (.cons (.tup (by rw [wo_ne nd_q2 nd_q2]; exact e_q2) (.cons (.int _) (.cons (.int _) .nil))) .nil)), by decide +kernel⟩
      · exact ⟨_, .lst (by rw [wo_ne nd_q4 nd_q4]; exact e_q4) (.cons (.int _) .nil), by decide +kernel⟩
      · exact ⟨_, .dct _ _ (by rw [wo_ne nd_q5 nd_q5]; exact e_q5), by decide +kernel⟩
    refine ⟨d, lo, _, rfl, hD, sql e_lo, nd_lo, by show 0 < 11; decide, by show 11 ≤ 100000; decide, fun thing HT mv hD2 f2 => ?_⟩
    obtain ⟨DD, hDD, okDD⟩ := hT thing mv
    have sG : Same (wo H7 d d) HT := same_frd wo_same wo_d f2
    have nGd : wo H7 d d d = none := wo_d
    generalize wo H7 d d = G0 at hDD sG nGd
    have fr := fr.trans f2
    have hD := hD2
    clear hT mv hD2 f2 e_lo nd_lo n0_lo e_q0 nd_q0 n0_q0 e_q1 nd_q1 n0_q1 e_q2 nd_q2 n0_q2 e_q3 nd_q3 n0_q3 e_q4 nd_q4 n0_q4 e_q5 nd_q5 n0_q5
    walk_at "yy"
    refine ⟨by show 4 ≤ sizeLine; decide, fun lw mw => ?_⟩
    have e_lw : (upd HT lw (.lst [.str "", .str "no house", .str "a", .str "line 3"])) lw = some (.lst [.str "", .str "no house", .str "a", .str "line 3"]) := upd_same
    have s1 := same_new (H := HT) (p := lw) (o := .lst [.str "", .str "no house", .str "a", .str "line 3"]) mw
    have nd_lw : lw ≠ d := hD.ne mw
    have n0_lw : H lw = none := free_fr fr mw nd_lw
    generalize hgen : upd HT lw (.lst [.str "", .str "no house", .str "a", .str "line 3"]) = H8 at e_lw s1 ⊢
    clear hgen
    have sG := sG.trans s1
    have hD := hD.same s1
    have fr := fr.trans (Fr.of_same s1)
    refine ⟨d, lw, _, rfl, hD, sql e_lw, nd_lw, by show 0 < 4; decide, by show 4 ≤ 100000; decide, fun wv HW mv hD2 f2 => ?_⟩
    obtain ⟨z, hz, rfl⟩ : ∃ z ∈ wordsL, wv = .str z := by
      simp only [List.mem_cons, List.not_mem_nil, or_false] at mv
      rcases mv with rfl | rfl | rfl | rfl
      all_goals exact ⟨_, by decide +kernel, rfl⟩
    have sG := same_frd sG nGd f2
    have fr := fr.trans f2
    have hD := hD2
    clear mv hD2 f2 e_lw nd_lw n0_lw
    walk_at "yy"
    refine y_exT rfl (fun p0 H9 s1 t_p0 => ?_)
    have sG := sG.trans s1
    have hD := hD.same s1
    have fr := fr.trans (Fr.of_same s1)
    walk_at "yy"
    refine y_exT rfl (fun p1 H10 s1 t_p1 => ?_)
    have t_p0 := t_p0.same s1
    have sG := sG.trans s1
    have hD := hD.same s1
    have fr := fr.trans (Fr.of_same s1)
    walk_at "yy"
    refine y_exT rfl (fun p2 H11 s1 t_p2 => ?_)
    have t_p0 := t_p0.same s1
    have t_p1 := t_p1.same s1
    have sG := sG.trans s1
    have hD := hD.same s1
    have fr := fr.trans (Fr.of_same s1)
    walk_at "yy"
    refine y_exT rfl (fun p3 H12 s1 t_p3 => ?_)
    have t_p0 := t_p0.same s1
    have t_p1 := t_p1.same s1
    have t_p2 := t_p2.same s1
    have sG := sG.trans s1
    have hD := hD.same s1
    have fr := fr.trans (Fr.of_same s1)
    walk_at "yy"
    refine y_exT rfl (fun p4 H13 s1 t_p4 => ?_)
    have t_p0 := t_p0.same s1
    have t_p1 := t_p1.same s1
    have t_p2 := t_p2.same s1
    have t_p3 := t_p3.same s1
    have sG := sG.trans s1
    have hD := hD.same s1
    have fr := fr.trans (Fr.of_same s1)
    walk_at "yy"
    refine ⟨by show 5 ≤ sizeLine; decide, fun L5 n5 => ?_⟩
    have e_L5 : (upd H13 L5 (.lst [V.ref p0, V.ref p1, V.ref p2, V.ref p3, V.ref p4])) L5 = some (.lst [V.ref p0, V.ref p1, V.ref p2, V.ref p3, V.ref p4]) := upd_same
    have s1 := same_new (H := H13) (p := L5) (o := .lst [V.ref p0, V.ref p1, V.ref p2, V.ref p3, V.ref p4]) n5
    have nd_L5 : L5 ≠ d := hD.ne n5
    have n0_L5 : H L5 = none := free_fr fr n5 nd_L5
    generalize hgen : upd H13 L5 (.lst [V.ref p0, V.ref p1, V.ref p2, V.ref p3, V.ref p4]) = H14 at e_L5 s1 ⊢
    clear hgen
    have t_p0 := t_p0.same s1
    have t_p1 := t_p1.same s1
    have t_p2 := t_p2.same s1
    have t_p3 := t_p3.same s1
    have t_p4 := t_p4.same s1
    have sG := sG.trans s1
    have hD := hD.same s1
    have fr := fr.trans (Fr.of_same s1)
    walk_at "yy"
    refine y_exT rfl (fun p5 H15 s1 t_p5 => ?_)
    have t_p0 := t_p0.same s1
    have t_p1 := t_p1.same s1
    have t_p2 := t_p2.same s1
    have t_p3 := t_p3.same s1
    have t_p4 := t_p4.same s1
    have e_L5 := s1 _ _ e_L5
    have sG := sG.trans s1
    have hD := hD.same s1
    have fr := fr.trans (Fr.of_same s1)
    walk_at "yy"
    refine y_exT rfl (fun p6 H16 s1 t_p6 => ?_)
    have t_p0 := t_p0.same s1
    have t_p1 := t_p1.same s1
    have t_p2 := t_p2.same s1
    have t_p3 := t_p3.same s1
    have t_p4 := t_p4.same s1
    have e_L5 := s1 _ _ e_L5
    have t_p5 := t_p5.same s1
    have sG := sG.trans s1
    have hD := hD.same s1
    have fr := fr.trans (Fr.of_same s1)
    walk_at "yy"
    refine y_exT rfl (fun p7 H17 s1 t_p7 => ?_)
    have t_p0 := t_p0.same s1
    have t_p1 := t_p1.same s1
    have t_p2 := t_p2.same s1
    have t_p3 := t_p3.same s1
    have t_p4 := t_p4.same s1
    have e_L5 := s1 _ _ e_L5
    have t_p5 := t_p5.same s1
    have t_p6 := t_p6.same s1
    have sG := sG.trans s1
    have hD := hD.same s1
    have fr := fr.trans (Fr.of_same s1)
    walk_at "yy"
    refine y_exT rfl (fun p8 H18 s1 t_p8 => ?_)
    have t_p0 := t_p0.same s1
    have t_p1 := t_p1.same s1
    have t_p2 := t_p2.same s1
    have t_p3 := t_p3.same s1
    have t_p4 := t_p4.same s1
    have e_L5 := s1 _ _ e_L5
    have t_p5 := t_p5.same s1
    have t_p6 := t_p6.same s1
    have t_p7 := t_p7.same s1
    have sG := sG.trans s1
    have hD := hD.same s1
    have fr := fr.trans (Fr.of_same s1)
    walk_at "yy"
    refine ⟨by show 4 ≤ sizeLine; decide, fun o4 m4 => ?_⟩
    have e_o4 : (upd H18 o4 (.lst [V.ref p5, V.ref p6, V.ref p7, V.ref p8])) o4 = some (.lst [V.ref p5, V.ref p6, V.ref p7, V.ref p8]) := upd_same
    have s1 := same_new (H := H18) (p := o4) (o := .lst [V.ref p5, V.ref p6, V.ref p7, V.ref p8]) m4
    have nd_o4 : o4 ≠ d := hD.ne m4
    have n0_o4 : H o4 = none := free_fr fr m4 nd_o4
    generalize hgen : upd H18 o4 (.lst [V.ref p5, V.ref p6, V.ref p7, V.ref p8]) = H19 at e_o4 s1 ⊢
    clear hgen
    have t_p0 := t_p0.same s1
    have t_p1 := t_p1.same s1
    have t_p2 := t_p2.same s1
    have t_p3 := t_p3.same s1
    have t_p4 := t_p4.same s1
    have e_L5 := s1 _ _ e_L5
    have t_p5 := t_p5.same s1
    have t_p6 := t_p6.same s1
    have t_p7 := t_p7.same s1
    have t_p8 := t_p8.same s1
    have sG := sG.trans s1
    have hD := hD.same s1
    have fr := fr.trans (Fr.of_same s1)
    refine ⟨L5, o4, _, _, rfl, rfl, e_L5, e_o4, by show 9 ≤ sizeLine; decide, fun L9 n9 => ?_⟩
    rw [show ([V.ref p0, V.ref p1, V.ref p2, V.ref p3, V.ref p4] ++ [V.ref p5, V.ref p6, V.ref p7, V.ref p8] : List V) = [V.ref p0, V.ref p1, V.ref p2, V.ref p3, V.ref p4, V.ref p5, V.ref p6, V.ref p7, V.ref p8] from rfl]
    have e_L9 : (upd H19 L9 (.lst [V.ref p0, V.ref p1, V.ref p2, V.ref p3, V.ref p4, V.ref p5, V.ref p6, V.ref p7, V.ref p8])) L9 = some (.lst [V.ref p0, V.ref p1, V.ref p2, V.ref p3, V.ref p4, V.ref p5, V.ref p6, V.ref p7, V.ref p8]) := upd_same
    have s1 := same_new (H := H19) (p := L9) (o := .lst [V.ref p0, V.ref p1, V.ref p2, V.ref p3, V.ref p4, V.ref p5, V.ref p6, V.ref p7, V.ref p8]) n9
    have nd_L9 : L9 ≠ d := hD.ne n9
    have n0_L9 : H L9 = none := free_fr fr n9 nd_L9
    generalize hgen : upd H19 L9 (.lst [V.ref p0, V.ref p1, V.ref p2, V.ref p3, V.ref p4, V.ref p5, V.ref p6, V.ref p7, V.ref p8]) = H20 at e_L9 s1 ⊢
    clear hgen
    have t_p0 := t_p0.same s1
    have t_p1 := t_p1.same s1
    have t_p2 := t_p2.same s1
    have t_p3 := t_p3.same s1
    have t_p4 := t_p4.same s1
    have e_L5 := s1 _ _ e_L5
    have t_p5 := t_p5.same s1
    have t_p6 := t_p6.same s1
    have t_p7 := t_p7.same s1
    have t_p8 := t_p8.same s1
    have e_o4 := s1 _ _ e_o4
    have sG := sG.trans s1
    have hD := hD.same s1
    have fr := fr.trans (Fr.of_same s1)
    walk_at "yy"
    refine y_exT rfl (fun p9 H21 s1 t_p9 => ?_)
    have t_p0 := t_p0.same s1
    have t_p1 := t_p1.same s1
    have t_p2 := t_p2.same s1
    have t_p3 := t_p3.same s1
    have t_p4 := t_p4.same s1
    have t_p5 := t_p5.same s1
    have t_p6 := t_p6.same s1
    have t_p7 := t_p7.same s1
    have t_p8 := t_p8.same s1
    have e_L9 := s1 _ _ e_L9
    have sG := sG.trans s1
    have hD := hD.same s1
    have fr := fr.trans (Fr.of_same s1)
    walk_at "yy"
    refine y_exT rfl (fun p10 H22 s1 t_p10 => ?_)
    have t_p0 := t_p0.same s1
    have t_p1 := t_p1.same s1
    have t_p2 := t_p2.same s1
    have t_p3 := t_p3.same s1
    have t_p4 := t_p4.same s1
    have t_p5 := t_p5.same s1
    have t_p6 := t_p6.same s1
    have t_p7 := t_p7.same s1
    have t_p8 := t_p8.same s1
    have e_L9 := s1 _ _ e_L9
    have t_p9 := t_p9.same s1
    have sG := sG.trans s1
    have hD := hD.same s1
    have fr := fr.trans (Fr.of_same s1)
    walk_at "yy"
    refine ⟨by show 2 ≤ sizeLine; decide, fun o2 m2 => ?_⟩
    have e_o2 : (upd H22 o2 (.lst [V.ref p9, V.ref p10])) o2 = some (.lst [V.ref p9, V.ref p10]) := upd_same
    have s1 := same_new (H := H22) (p := o2) (o := .lst [V.ref p9, V.ref p10]) m2
    have nd_o2 : o2 ≠ d := hD.ne m2
    have n0_o2 : H o2 = none := free_fr fr m2 nd_o2
    generalize hgen : upd H22 o2 (.lst [V.ref p9, V.ref p10]) = H23 at e_o2 s1 ⊢
    clear hgen
    have t_p0 := t_p0.same s1
    have t_p1 := t_p1.same s1
    have t_p2 := t_p2.same s1
    have t_p3 := t_p3.same s1
    have t_p4 := t_p4.same s1
    have t_p5 := t_p5.same s1
    have t_p6 := t_p6.same s1
    have t_p7 := t_p7.same s1
    have t_p8 := t_p8.same s1
    have e_L9 := s1 _ _ e_L9
    have t_p9 := t_p9.same s1
    have t_p10 := t_p10.same s1
    have sG := sG.trans s1
    have hD := hD.same s1
    have fr := fr.trans (Fr.of_same s1)
    refine ⟨L9, o2, _, _, rfl, rfl, e_L9, e_o2, by show 11 ≤ sizeLine; decide, fun LB nB => ?_⟩
    rw [show ([V.ref p0, V.ref p1, V.ref p2, V.ref p3, V.ref p4, V.ref p5, V.ref p6, V.ref p7, V.ref p8] ++ [V.ref p9, V.ref p10] : List V) = [V.ref p0, V.ref p1, V.ref p2, V.ref p3, V.ref p4, V.ref p5, V.ref p6, V.ref p7, V.ref p8, V.ref p9, V.ref p10] from rfl]
    have nG0_LB : G0 LB = none := free_same sG nB
    have e_LB : (upd H23 LB (.lst [V.ref p0, V.ref p1, V.ref p2, V.ref p3, V.ref p4, V.ref p5, V.ref p6, V.ref p7, V.ref p8, V.ref p9, V.ref p10])) LB = some (.lst [V.ref p0, V.ref p1, V.ref p2, V.ref p3, V.ref p4, V.ref p5, V.ref p6, V.ref p7, V.ref p8, V.ref p9, V.ref p10]) := upd_same
    have s1 := same_new (H := H23) (p := LB) (o := .lst [V.ref p0, V.ref p1, V.ref p2, V.ref p3, V.ref p4, V.ref p5, V.ref p6, V.ref p7, V.ref p8, V.ref p9, V.ref p10]) nB
    have nd_LB : LB ≠ d := hD.ne nB
    have n0_LB : H LB = none := free_fr fr nB nd_LB
    generalize hgen : upd H23 LB (.lst [V.ref p0, V.ref p1, V.ref p2, V.ref p3, V.ref p4, V.ref p5, V.ref p6, V.ref p7, V.ref p8, V.ref p9, V.ref p10]) = H24 at e_LB s1 ⊢
    clear hgen
    have t_p0 := t_p0.same s1
    have t_p1 := t_p1.same s1
    have t_p2 := t_p2.same s1
    have t_p3 := t_p3.same s1
    have t_p4 := t_p4.same s1
    have t_p5 := t_p5.same s1
    have t_p6 := t_p6.same s1
    have t_p7 := t_p7.same s1
    have t_p8 := t_p8.same s1
    have e_L9 := s1 _ _ e_L9
    have t_p9 := t_p9.same s1
    have t_p10 := t_p10.same s1
    have e_o2 := s1 _ _ e_o2
    have sG := sG.trans s1
    have hD := hD.same s1
    have fr := fr.trans (Fr.of_same s1)
    have hX : TxL K H24 z [V.ref p0, V.ref p1, V.ref p2, V.ref p3, V.ref p4, V.ref p5, V.ref p6, V.ref p7, V.ref p8, V.ref p9, V.ref p10] baseN := (TxL.cons t_p0 (TxL.cons t_p1 (TxL.cons t_p2 (TxL.cons t_p3 (TxL.cons t_p4 (TxL.cons t_p5 (TxL.cons t_p6 (TxL.cons t_p7 (TxL.cons t_p8 (TxL.cons t_p9 (TxL.cons t_p10 TxL.nil)))))))))))
    have hE : ErL K H24 [V.ref p0, V.ref p1, V.ref p2, V.ref p3, V.ref p4, V.ref p5, V.ref p6, V.ref p7, V.ref p8, V.ref p9, V.ref p10] rowsA := (ErL.cons (EF.r (p := (("InvalidWord" : Str), [true, false, false, false, false, false, false, false, false, false, false, true, true], [false, false, false, false, false, false, false, false, false, false, false, false])) (by decide +kernel) t_p0.err) (ErL.cons (EF.r (p := (("InvalidFraction" : Str), [false, true, false, false, false, false, false, false, false, false, false, true, true], [false, false, false, false, false, false, false, false, false, false, false, false])) (by decide +kernel) t_p1.err) (ErL.cons (EF.r (p := (("InvalidGame" : Str), [false, false, true, false, false, false, false, false, false, false, false, true, true], [false, false, false, false, false, false, false, false, false, false, false, false])) (by decide +kernel) t_p2.err) (ErL.cons (EF.r (p := (("InvalidHouse" : Str), [false, false, false, true, false, false, false, false, false, false, false, true, true], [false, false, false, false, false, false, false, false, false, false, false, false])) (by decide +kernel) t_p3.err) (ErL.cons (EF.r (p := (("InvalidRow" : Str), [false, false, false, false, true, false, false, false, false, false, false, true, true], [false, false, false, false, false, false, false, false, false, false, false, false])) (by decide +kernel) t_p4.err) (ErL.cons (EF.r (p := (("InvalidWeights" : Str), [false, false, false, false, false, true, false, false, false, false, false, true, true], [false, false, false, false, false, false, false, false, false, false, false, false])) (by decide +kernel) t_p5.err) (ErL.cons (EF.r (p := (("InvalidPolicy" : Str), [false, false, false, false, false, false, true, false, false, false, false, true, true], [false, false, false, false, false, false, false, false, false, false, false, false])) (by decide +kernel) t_p6.err) (ErL.cons (EF.r (p := (("InvalidController" : Str), [false, false, false, false, false, false, false, true, false, false, false, true, true], [false, false, false, false, false, false, false, false, false, false, false, false])) (by decide +kernel) t_p7.err) (ErL.cons (EF.r (p := (("InvalidLot" : Str), [false, false, false, false, false, false, false, false, true, false, false, true, true], [false, false, false, false, false, false, false, false, false, false, false, false])) (by decide +kernel) t_p8.err) (ErL.cons (EF.r (p := (("InvalidOperation" : Str), [false, false, false, false, false, false, false, false, false, true, false, true, true], [false, false, false, false, false, false, false, false, false, false, false, false])) (by decide +kernel) t_p9.err) (ErL.cons (EF.r (p := (("GameError" : Str), [false, false, false, false, false, false, false, false, false, false, false, true, true], [false, false, false, false, false, false, false, false, false, false, false, false])) (by decide +kernel) t_p10.err) ErL.nil)))))))))))
    obtain ⟨dg, de, dc, eDd⟩ := id hD
    have g_p0 := t_p0.wo eDd e_LB
    have g_p1 := t_p1.wo eDd e_LB
    have g_p2 := t_p2.wo eDd e_LB
    have g_p3 := t_p3.wo eDd e_LB
    have g_p4 := t_p4.wo eDd e_LB
    have g_p5 := t_p5.wo eDd e_LB
    have g_p6 := t_p6.wo eDd e_LB
    have g_p7 := t_p7.wo eDd e_LB
    have g_p8 := t_p8.wo eDd e_LB
    have g_p9 := t_p9.wo eDd e_LB
    have sG1 : Same (wo H24 d LB) H24 := wo_same
    have nG1d : wo H24 d LB d = none := wo_d
    have nG1L : wo H24 d LB LB = none := wo_L
    generalize wo H24 d LB = G1 at sG1 nG1d nG1L g_p0 g_p1 g_p2 g_p3 g_p4 g_p5 g_p6 g_p7 g_p8 g_p9
    clear dg de dc eDd t_p0 t_p1 t_p2 t_p3 t_p4 t_p5 t_p6 t_p7 t_p8 t_p9 t_p10
    walk_at "yy"
    refine ⟨LB, rfl, ⟨_, sql e_LB⟩, fun D25 nD25 => lc_list (xs := [V.ref p0, V.ref p1, V.ref p2, V.ref p3, V.ref p4, V.ref p5, V.ref p6, V.ref p7, V.ref p8, V.ref p9, V.ref p10]) (fun j G => G D25 = some (.lst (((List.replicate 11 z).take j).map V.str)) ∧ Same H24 G) ?_ (fun _ _ _ h => sql (h.2 _ _ e_LB)) ?_ ?_⟩
    · exact ⟨upd_same, same_new nD25⟩
    · rintro j x G hx ⟨eD, s1⟩
      have hj : j < 11 := (List.getElem?_eq_some_iff.mp hx).1
      walk_at "yy"
      refine ⟨rfl, ?_⟩
      walk_at "yy"
      walk_at "yt"
      walk_at "yy"
      obtain ⟨nm, mem, p, rfl, tx⟩ := hX.at hx
      refine y_strE (tx.same s1) (EF.t nm mem).hs (EF.t nm mem).hB ?_
      have s2 : Same G G := Same.refl G
      have hy : (List.replicate 11 z)[j]? = some z := by rw [List.getElem?_replicate, if_pos hj]
      refine ⟨_, s2 _ _ eD, sz_lt (by rw [List.length_map, List.length_take]; omega), ?_, same_mut (s1.trans s2) nD25⟩
      rw [upd_same, List.take_add_one, hy, List.map_append]
      rfl
    rintro H25 ⟨e_D25, s1⟩
    have e_D25 : H25 D25 = some (.lst ((List.replicate 11 z).map V.str)) := by
      rw [e_D25]
      rfl
    have e_LB := s1 _ _ e_LB
    have hE := ErL.same s1 hE
    have sG := sG.trans s1
    have sG1 := sG1.trans s1
    have hD := hD.same s1
    have fr := fr.trans (Fr.of_same s1)
    walk_at "yy"
    clear hX
    refine ⟨by show 1 ≤ sizeLine; decide, fun o1 mo1 => ?_⟩
    have e_o1 : (upd H25 o1 (.lst [V.str z])) o1 = some (.lst [V.str z]) := upd_same
    have s1 := same_new (H := H25) (p := o1) (o := .lst [V.str z]) mo1
    have nd_o1 : o1 ≠ d := hD.ne mo1
    have n0_o1 : H o1 = none := free_fr fr mo1 nd_o1
    generalize hgen : upd H25 o1 (.lst [V.str z]) = H26 at e_o1 s1 ⊢
    clear hgen
    have e_LB := s1 _ _ e_LB
    have hE := ErL.same s1 hE
    have e_D25 := s1 _ _ e_D25
    have sG := sG.trans s1
    have sG1 := sG1.trans s1
    have hD := hD.same s1
    have fr := fr.trans (Fr.of_same s1)
    walk_at "yy"
    refine ⟨o1, 11, _, rfl, rfl, e_o1, by decide, by decide, by show 1 * 11 ≤ sizeLine; decide, fun R1 nR1 => ?_⟩
    have e_R1 : (upd H26 R1 (.lst (List.replicate (Int.toNat 11) [V.str z]).flatten)) R1 = some (.lst (List.replicate (Int.toNat 11) [V.str z]).flatten) := upd_same
    have s1 := same_new (H := H26) (p := R1) (o := .lst (List.replicate (Int.toNat 11) [V.str z]).flatten) nR1
    have nd_R1 : R1 ≠ d := hD.ne nR1
    have n0_R1 : H R1 = none := free_fr fr nR1 nd_R1
    generalize hgen : upd H26 R1 (.lst (List.replicate (Int.toNat 11) [V.str z]).flatten) = H27 at e_R1 s1 ⊢
    clear hgen
    have e_LB := s1 _ _ e_LB
    have hE := ErL.same s1 hE
    have e_D25 := s1 _ _ e_D25
    have e_o1 := s1 _ _ e_o1
    have sG := sG.trans s1
    have sG1 := sG1.trans s1
    have hD := hD.same s1
    have fr := fr.trans (Fr.of_same s1)
    refine y_neTs (List.replicate 11 z) e_D25 (by rw [e_R1]; rfl) (words_ok z hz) ?_
    walk_at "yy"
    walk_at "yf"
    walk_at "yy"
    refine ⟨LB, rfl, ⟨_, sql e_LB⟩, fun D28 nD28 => lc_list (xs := [V.ref p0, V.ref p1, V.ref p2, V.ref p3, V.ref p4, V.ref p5, V.ref p6, V.ref p7, V.ref p8, V.ref p9, V.ref p10]) (fun j G => G D28 = some (.lst (((rowsA.map fun r => marks r.2.2).take j).map V.str)) ∧ Same H27 G) ?_ (fun _ _ _ h => sql (h.2 _ _ e_LB)) ?_ ?_⟩
    · exact ⟨upd_same, same_new nD28⟩
    · rintro j x G hx ⟨eD, s1⟩
      have hj : j < 11 := (List.getElem?_eq_some_iff.mp hx).1
      walk_at "yy"
      refine ⟨rfl, ?_⟩
      walk_at "yy"
      walk_at "yt"
      walk_at "yy"
      obtain ⟨r, hr, a, C, rfl, ea, hT', hk', ho', l1, l2⟩ := hE.at hx
      refine ⟨a, C, _, rfl, ea.same s1, hT', ho', l2, fun G2 s2 => ?_⟩
      have hy : (rowsA.map fun r => marks r.2.2)[j]? = some (marks r.2.2) := by rw [List.getElem?_map, hr]; rfl
      refine ⟨_, s2 _ _ eD, sz_lt (by rw [List.length_map, List.length_take]; omega), ?_, same_mut (s1.trans s2) nD28⟩
      rw [upd_same, List.take_add_one, hy, List.map_append]
      rfl
    rintro H28 ⟨e_D28, s1⟩
    have e_D28 : H28 D28 = some (.lst ((rowsA.map fun r => marks r.2.2).map V.str)) := by
      rw [e_D28]
      rfl
    have e_LB := s1 _ _ e_LB
    have hE := ErL.same s1 hE
    have sG := sG.trans s1
    have sG1 := sG1.trans s1
    have hD := hD.same s1
    have fr := fr.trans (Fr.of_same s1)
    walk_at "yy"
    clear hE
    refine ⟨12, rfl, rfl, by decide, by decide, ?_⟩
    walk_at "yy"
    refine ⟨by show 1 ≤ sizeLine; decide, fun o3 mo3 => ?_⟩
    have e_o3 : (upd H28 o3 (.lst [V.str ⟨(List.replicate (Int.toNat 12) 46).toArray⟩])) o3 = some (.lst [V.str ⟨(List.replicate (Int.toNat 12) 46).toArray⟩]) := upd_same
    have s1 := same_new (H := H28) (p := o3) (o := .lst [V.str ⟨(List.replicate (Int.toNat 12) 46).toArray⟩]) mo3
    have nd_o3 : o3 ≠ d := hD.ne mo3
    have n0_o3 : H o3 = none := free_fr fr mo3 nd_o3
    generalize hgen : upd H28 o3 (.lst [V.str ⟨(List.replicate (Int.toNat 12) 46).toArray⟩]) = H29 at e_o3 s1 ⊢
    clear hgen
    have e_LB := s1 _ _ e_LB
    have e_D28 := s1 _ _ e_D28
    have sG := sG.trans s1
    have sG1 := sG1.trans s1
    have hD := hD.same s1
    have fr := fr.trans (Fr.of_same s1)
    walk_at "yy"
    refine ⟨o3, 11, _, rfl, rfl, e_o3, by decide, by decide, by show 1 * 11 ≤ sizeLine; decide, fun R2 nR2 => ?_⟩
    have e_R2 : (upd H29 R2 (.lst (List.replicate (Int.toNat 11) [V.str ⟨(List.replicate (Int.toNat 12) 46).toArray⟩]).flatten)) R2 = some (.lst (List.replicate (Int.toNat 11) [V.str ⟨(List.replicate (Int.toNat 12) 46).toArray⟩]).flatten) := upd_same
    have s1 := same_new (H := H29) (p := R2) (o := .lst (List.replicate (Int.toNat 11) [V.str ⟨(List.replicate (Int.toNat 12) 46).toArray⟩]).flatten) nR2
    have nd_R2 : R2 ≠ d := hD.ne nR2
    have n0_R2 : H R2 = none := free_fr fr nR2 nd_R2
    generalize hgen : upd H29 R2 (.lst (List.replicate (Int.toNat 11) [V.str ⟨(List.replicate (Int.toNat 12) 46).toArray⟩]).flatten) = H30 at e_R2 s1 ⊢
    clear hgen
    have e_LB := s1 _ _ e_LB
    have e_D28 := s1 _ _ e_D28
    have e_o3 := s1 _ _ e_o3
    have sG := sG.trans s1
    have sG1 := sG1.trans s1
    have hD := hD.same s1
    have fr := fr.trans (Fr.of_same s1)
    refine y_neTs (rowsA.map fun r => marks r.2.2) e_D28 (by rw [e_R2, show (List.replicate (Int.toNat 11) [V.str ⟨(List.replicate (Int.toNat 12) 46).toArray⟩]).flatten = (rowsA.map fun r => marks r.2.2).map V.str by decide +kernel]) (by decide +kernel) ?_
    walk_at "yy"
    walk_at "yf"
    walk_at "yy"
    walk_at "yi"
    walk_at "yy"
    refine ⟨by show 4 ≤ sizeLine; decide, fun la ma => ?_⟩
    have e_la : (upd H30 la (.lst [.non, .int 0, .int 7, .int (10 ^ Int.toNat 20)])) la = some (.lst [.non, .int 0, .int 7, .int (10 ^ Int.toNat 20)]) := upd_same
    have s1 := same_new (H := H30) (p := la) (o := .lst [.non, .int 0, .int 7, .int (10 ^ Int.toNat 20)]) ma
    have nd_la : la ≠ d := hD.ne ma
    have n0_la : H la = none := free_fr fr ma nd_la
    generalize hgen : upd H30 la (.lst [.non, .int 0, .int 7, .int (10 ^ Int.toNat 20)]) = H31 at e_la s1 ⊢
    clear hgen
    have e_LB := s1 _ _ e_LB
    have sG := sG.trans s1
    have sG1 := sG1.trans s1
    have hD := hD.same s1
    have fr := fr.trans (Fr.of_same s1)
    refine ⟨d, la, _, rfl, hD, sql e_la, nd_la, by show 0 < 4; decide, by show 4 ≤ 100000; decide, fun atv HA mv hD2 f2 => ?_⟩
    obtain ⟨tx, htx⟩ : ∃ tx : Str, ∀ (G : Hp) (R : VK), R (.str tx) G → rRepr [atv] G R := by
      simp only [List.mem_cons, List.not_mem_nil, or_false] at mv
      rcases mv with rfl | rfl | rfl | rfl
      · exact ⟨_, fun G R q => .inl ⟨rfl, q⟩⟩
      all_goals exact ⟨_, fun G R q => .inr (.inl ⟨_, rfl, by decide +kernel, q⟩)⟩
    have sG := same_frd sG nGd f2
    have sG1 := same_frd sG1 nG1d f2
    have e_LB := f2 _ _ e_LB nd_LB
    have fr := fr.trans f2
    have hD := hD2
    clear mv hD2 f2 e_la nd_la n0_la
    walk_at "yy"
    refine y_exI rfl (fun pP H32 s1 k_pP => ?_)
    have e_LB := s1 _ _ e_LB
    have sG := sG.trans s1
    have sG1 := sG1.trans s1
    have hD := hD.same s1
    have fr := fr.trans (Fr.of_same s1)
    walk_at "yy"
    refine y_setL (j := 10) e_LB rfl ?_
    rw [show ([V.ref p0, V.ref p1, V.ref p2, V.ref p3, V.ref p4, V.ref p5, V.ref p6, V.ref p7, V.ref p8, V.ref p9, V.ref p10] : List V).set 10 (.ref pP) = [V.ref p0, V.ref p1, V.ref p2, V.ref p3, V.ref p4, V.ref p5, V.ref p6, V.ref p7, V.ref p8, V.ref p9, V.ref pP] from rfl]
    have k_pP := k_pP.mut (ys := [V.ref p0, V.ref p1, V.ref p2, V.ref p3, V.ref p4, V.ref p5, V.ref p6, V.ref p7, V.ref p8, V.ref p9, V.ref pP]) e_LB
    have sG := same_mut (o := .lst [V.ref p0, V.ref p1, V.ref p2, V.ref p3, V.ref p4, V.ref p5, V.ref p6, V.ref p7, V.ref p8, V.ref p9, V.ref pP]) sG nG0_LB
    have sG1 := same_mut (o := .lst [V.ref p0, V.ref p1, V.ref p2, V.ref p3, V.ref p4, V.ref p5, V.ref p6, V.ref p7, V.ref p8, V.ref p9, V.ref pP]) sG1 nG1L
    have hD := hD.mut (o := .lst [V.ref p0, V.ref p1, V.ref p2, V.ref p3, V.ref p4, V.ref p5, V.ref p6, V.ref p7, V.ref p8, V.ref p9, V.ref pP]) nd_LB
    have fr := fr.mut (o := .lst [V.ref p0, V.ref p1, V.ref p2, V.ref p3, V.ref p4, V.ref p5, V.ref p6, V.ref p7, V.ref p8, V.ref p9, V.ref pP]) n0_LB
    have e_LB : (upd H32 LB (.lst [V.ref p0, V.ref p1, V.ref p2, V.ref p3, V.ref p4, V.ref p5, V.ref p6, V.ref p7, V.ref p8, V.ref p9, V.ref pP])) LB = some (.lst [V.ref p0, V.ref p1, V.ref p2, V.ref p3, V.ref p4, V.ref p5, V.ref p6, V.ref p7, V.ref p8, V.ref p9, V.ref pP]) := upd_same
    generalize upd H32 LB (.lst [V.ref p0, V.ref p1, V.ref p2, V.ref p3, V.ref p4, V.ref p5, V.ref p6, V.ref p7, V.ref p8, V.ref p9, V.ref pP]) = H33 at k_pP sG sG1 hD fr e_LB ⊢
    walk_at "yy"
    refine ⟨11, rfl, by decide, by decide, fun DU nDU => lc_range (fun j G => G DU = some (.lst ((dueL.take j).map V.str)) ∧ Same H33 G) ?_ ?_ ?_⟩
    · exact ⟨upd_same, same_new nDU⟩
    · rintro j G hj ⟨eD, s1⟩
      have hj : j < 11 := hj
      have e1 : (0 + (j : Int)).toNat = j := by omega
      have e2 : (10 - (0 + (j : Int))).toNat = 10 - j := by omega
      have lx : ("x" : Str).length = 1 := by decide +kernel
      have lxx : ("xx" : Str).length = 2 := by decide +kernel
      walk_at "yy"
      refine ⟨rfl, ?_⟩
      walk_at "yy"
      walk_at "yt"
      walk_at "yy"
      refine ⟨_, rfl, rfl, by omega, by omega, ?_⟩
      rw [e1]
      walk_at "yy"
      refine ⟨_, _, rfl, rfl, by rw [dots_len, lx, sizeLine_eq]; omega, ?_⟩
      walk_at "yy"
      refine ⟨_, rfl, rfl, by omega, by omega, ?_⟩
      rw [e2]
      refine ⟨_, _, rfl, rfl, by rw [app_len, dots_len, dots_len, lx, sizeLine_eq]; omega, ?_⟩
      walk_at "yy"
      refine ⟨_, _, rfl, rfl, by rw [app_len, app_len, dots_len, dots_len, lx, lxx, sizeLine_eq]; omega, ?_⟩
      refine ⟨_, eD, sz_lt (by rw [List.length_map, List.length_take]; omega), ?_, same_mut s1 nDU⟩
      rw [upd_same, List.take_add_one, due_ok j hj, List.map_append]
      rfl
    rintro H34 ⟨e_DU, s1⟩
    have e_DU : H34 DU = some (.lst (dueL.map V.str)) := by
      rw [e_DU]
      rfl
    have e_LB := s1 _ _ e_LB
    have k_pP := k_pP.same s1
    have sG := sG.trans s1
    have sG1 := sG1.trans s1
    have hD := hD.same s1
    have fr := fr.trans (Fr.of_same s1)
    walk_at "yy"
    have hE : ErL K H34 [V.ref p0, V.ref p1, V.ref p2, V.ref p3, V.ref p4, V.ref p5, V.ref p6, V.ref p7, V.ref p8, V.ref p9, V.ref pP] rowsB := (ErL.cons (EF.r (p := (("InvalidWord" : Str), [true, false, false, false, false, false, false, false, false, false, false, true, true], [false, false, false, false, false, false, false, false, false, false, false, false])) (by decide +kernel) (g_p0.same sG1).err) (ErL.cons (EF.r (p := (("InvalidFraction" : Str), [false, true, false, false, false, false, false, false, false, false, false, true, true], [false, false, false, false, false, false, false, false, false, false, false, false])) (by decide +kernel) (g_p1.same sG1).err) (ErL.cons (EF.r (p := (("InvalidGame" : Str), [false, false, true, false, false, false, false, false, false, false, false, true, true], [false, false, false, false, false, false, false, false, false, false, false, false])) (by decide +kernel) (g_p2.same sG1).err) (ErL.cons (EF.r (p := (("InvalidHouse" : Str), [false, false, false, true, false, false, false, false, false, false, false, true, true], [false, false, false, false, false, false, false, false, false, false, false, false])) (by decide +kernel) (g_p3.same sG1).err) (ErL.cons (EF.r (p := (("InvalidRow" : Str), [false, false, false, false, true, false, false, false, false, false, false, true, true], [false, false, false, false, false, false, false, false, false, false, false, false])) (by decide +kernel) (g_p4.same sG1).err) (ErL.cons (EF.r (p := (("InvalidWeights" : Str), [false, false, false, false, false, true, false, false, false, false, false, true, true], [false, false, false, false, false, false, false, false, false, false, false, false])) (by decide +kernel) (g_p5.same sG1).err) (ErL.cons (EF.r (p := (("InvalidPolicy" : Str), [false, false, false, false, false, false, true, false, false, false, false, true, true], [false, false, false, false, false, false, false, false, false, false, false, false])) (by decide +kernel) (g_p6.same sG1).err) (ErL.cons (EF.r (p := (("InvalidController" : Str), [false, false, false, false, false, false, false, true, false, false, false, true, true], [false, false, false, false, false, false, false, false, false, false, false, false])) (by decide +kernel) (g_p7.same sG1).err) (ErL.cons (EF.r (p := (("InvalidLot" : Str), [false, false, false, false, false, false, false, false, true, false, false, true, true], [false, false, false, false, false, false, false, false, false, false, false, false])) (by decide +kernel) (g_p8.same sG1).err) (ErL.cons (EF.r (p := (("InvalidOperation" : Str), [false, false, false, false, false, false, false, false, false, true, false, true, true], [false, false, false, false, false, false, false, false, false, false, false, false])) (by decide +kernel) (g_p9.same sG1).err) (ErL.cons (EF.r (p := (("ParseError" : Str), [false, false, false, false, false, false, false, false, false, false, true, true, true], [false, false, false, false, false, false, false, false, false, false, false, false])) (by decide +kernel) k_pP.err) ErL.nil)))))))))))
    clear sG1 nG1d nG1L g_p0 g_p1 g_p2 g_p3 g_p4 g_p5 g_p6 g_p7 g_p8 g_p9
    refine ⟨LB, rfl, ⟨_, sql e_LB⟩, fun D35 nD35 => lc_list (xs := [V.ref p0, V.ref p1, V.ref p2, V.ref p3, V.ref p4, V.ref p5, V.ref p6, V.ref p7, V.ref p8, V.ref p9, V.ref pP]) (fun j G => G D35 = some (.lst ((dueL.take j).map V.str)) ∧ Same H34 G) ?_ (fun _ _ _ h => sql (h.2 _ _ e_LB)) ?_ ?_⟩
    · exact ⟨upd_same, same_new nD35⟩
    · rintro j x G hx ⟨eD, s1⟩
      have hj : j < 11 := (List.getElem?_eq_some_iff.mp hx).1
      walk_at "yy"
      refine ⟨rfl, ?_⟩
      walk_at "yy"
      walk_at "yt"
      walk_at "yy"
      obtain ⟨r, hr, a, C, rfl, ea, hT', hk', ho', l1, l2⟩ := hE.at hx
      refine ⟨a, C, _, rfl, ea.same s1, hT', hk', l1, fun G2 s2 => ?_⟩
      have hy : dueL[j]? = some (marks r.2.1) := by
        show (rowsB.map fun r => marks r.2.1)[j]? = _
        rw [List.getElem?_map, hr]
        rfl
      refine ⟨_, s2 _ _ eD, sz_lt (by rw [List.length_map, List.length_take]; omega), ?_, same_mut (s1.trans s2) nD35⟩
      rw [upd_same, List.take_add_one, hy, List.map_append]
      rfl
    rintro H35 ⟨e_D35, s1⟩
    have e_D35 : H35 D35 = some (.lst (dueL.map V.str)) := by
      rw [e_D35]
      rfl
    have e_LB := s1 _ _ e_LB
    have k_pP := k_pP.same s1
    have e_DU := s1 _ _ e_DU
    have sG := sG.trans s1
    have hD := hD.same s1
    have fr := fr.trans (Fr.of_same s1)
    walk_at "yy"
    clear hE
    refine y_neTs dueL e_D35 e_DU (by decide +kernel) ?_
    walk_at "yy"
    walk_at "yf"
    walk_at "yy"
    refine y_exT rfl (fun pg H36 s1 t_pg => ?_)
    have e_LB := s1 _ _ e_LB
    have k_pP := k_pP.same s1
    have sG := sG.trans s1
    have hD := hD.same s1
    have fr := fr.trans (Fr.of_same s1)
    walk_at "yy"
    obtain ⟨aJ, CJ, eJ, eaJ, hTJ, hkJ, hoJ, l1J, l2J⟩ := (EF.r (p := (("GameError" : Str), [false, false, false, false, false, false, false, false, false, false, false, true, true], [false, false, false, false, false, false, false, false, false, false, false, false])) (by decide +kernel) t_pg.err)
    cases eJ
    refine ⟨_, CJ, _, rfl, eaJ, hTJ, hkJ, l1J, fun H37 s1 => ?_⟩
    clear eaJ hTJ hkJ hoJ l1J l2J
    have e_LB := s1 _ _ e_LB
    have k_pP := k_pP.same s1
    have t_pg := t_pg.same s1
    have sG := sG.trans s1
    have hD := hD.same s1
    have fr := fr.trans (Fr.of_same s1)
    walk_at "yy"
    refine ⟨11, rfl, rfl, by decide, by decide, ?_⟩
    walk_at "yy"
    refine ⟨_, _, rfl, rfl, by rw [dots_len, show ("xx" : Str).length = 2 by decide +kernel, sizeLine_eq]; decide, ?_⟩
    walk_at "yy"
    refine y_f (by decide +kernel) ?_
    walk_at "yy"
    refine y_exI rfl (fun r0 H38 s1 k_r0 => ?_)
    have e_LB := s1 _ _ e_LB
    have k_pP := k_pP.same s1
    have sG := sG.trans s1
    have hD := hD.same s1
    have fr := fr.trans (Fr.of_same s1)
    walk_at "yy"
    refine y_exI rfl (fun r1 H39 s1 k_r1 => ?_)
    have e_LB := s1 _ _ e_LB
    have k_pP := k_pP.same s1
    have k_r0 := k_r0.same s1
    have sG := sG.trans s1
    have hD := hD.same s1
    have fr := fr.trans (Fr.of_same s1)
    walk_at "yy"
    refine y_exI rfl (fun r2 H40 s1 k_r2 => ?_)
    have e_LB := s1 _ _ e_LB
    have k_pP := k_pP.same s1
    have k_r0 := k_r0.same s1
    have k_r1 := k_r1.same s1
    have sG := sG.trans s1
    have hD := hD.same s1
    have fr := fr.trans (Fr.of_same s1)
    walk_at "yy"
    refine y_exI rfl (fun r3 H41 s1 k_r3 => ?_)
    have e_LB := s1 _ _ e_LB
    have k_pP := k_pP.same s1
    have k_r0 := k_r0.same s1
    have k_r1 := k_r1.same s1
    have k_r2 := k_r2.same s1
    have sG := sG.trans s1
    have hD := hD.same s1
    have fr := fr.trans (Fr.of_same s1)
    walk_at "yy"
    refine y_exI rfl (fun r4 H42 s1 k_r4 => ?_)
    have e_LB := s1 _ _ e_LB
    have k_pP := k_pP.same s1
    have k_r0 := k_r0.same s1
    have k_r1 := k_r1.same s1
    have k_r2 := k_r2.same s1
    have k_r3 := k_r3.same s1
    have sG := sG.trans s1
    have hD := hD.same s1
    have fr := fr.trans (Fr.of_same s1)
    walk_at "yy"
    refine ⟨by show 5 ≤ sizeLine; decide, fun LO nLO => ?_⟩
    have nLBLO : LB ≠ LO := ne_of_none e_LB nLO
    have nG0_LO : G0 LO = none := free_same sG nLO
    have e_LO : (upd H42 LO (.lst [V.ref r0, V.ref r1, V.ref r2, V.ref r3, V.ref r4])) LO = some (.lst [V.ref r0, V.ref r1, V.ref r2, V.ref r3, V.ref r4]) := upd_same
    have s1 := same_new (H := H42) (p := LO) (o := .lst [V.ref r0, V.ref r1, V.ref r2, V.ref r3, V.ref r4]) nLO
    have nd_LO : LO ≠ d := hD.ne nLO
    have n0_LO : H LO = none := free_fr fr nLO nd_LO
    generalize hgen : upd H42 LO (.lst [V.ref r0, V.ref r1, V.ref r2, V.ref r3, V.ref r4]) = H43 at e_LO s1 ⊢
    clear hgen
    have e_LB := s1 _ _ e_LB
    have k_pP := k_pP.same s1
    have k_r0 := k_r0.same s1
    have k_r1 := k_r1.same s1
    have k_r2 := k_r2.same s1
    have k_r3 := k_r3.same s1
    have k_r4 := k_r4.same s1
    have sG := sG.trans s1
    have hD := hD.same s1
    have fr := fr.trans (Fr.of_same s1)
    walk_at "yy"
    refine ⟨ty_l e_LO, ?_⟩
    walk_at "yy"
    refine y_exI rfl (fun r5 H44 s1 k_r5 => ?_)
    have e_LB := s1 _ _ e_LB
    have k_pP := k_pP.same s1
    have k_r0 := k_r0.same s1
    have k_r1 := k_r1.same s1
    have k_r2 := k_r2.same s1
    have k_r3 := k_r3.same s1
    have k_r4 := k_r4.same s1
    have e_LO := s1 _ _ e_LO
    have sG := sG.trans s1
    have hD := hD.same s1
    have fr := fr.trans (Fr.of_same s1)
    walk_at "yy"
    refine ⟨LO, _, _, rfl, rfl, e_LO, sz_lt (by show 5 < 100000; decide), ?_⟩
    rw [show ([V.ref r0, V.ref r1, V.ref r2, V.ref r3, V.ref r4] ++ [V.ref r5] : List V) = [V.ref r0, V.ref r1, V.ref r2, V.ref r3, V.ref r4, V.ref r5] from rfl]
    have k_pP := k_pP.mut (ys := [V.ref r0, V.ref r1, V.ref r2, V.ref r3, V.ref r4, V.ref r5]) e_LO
    have k_r0 := k_r0.mut (ys := [V.ref r0, V.ref r1, V.ref r2, V.ref r3, V.ref r4, V.ref r5]) e_LO
    have k_r1 := k_r1.mut (ys := [V.ref r0, V.ref r1, V.ref r2, V.ref r3, V.ref r4, V.ref r5]) e_LO
    have k_r2 := k_r2.mut (ys := [V.ref r0, V.ref r1, V.ref r2, V.ref r3, V.ref r4, V.ref r5]) e_LO
    have k_r3 := k_r3.mut (ys := [V.ref r0, V.ref r1, V.ref r2, V.ref r3, V.ref r4, V.ref r5]) e_LO
    have k_r4 := k_r4.mut (ys := [V.ref r0, V.ref r1, V.ref r2, V.ref r3, V.ref r4, V.ref r5]) e_LO
    have k_r5 := k_r5.mut (ys := [V.ref r0, V.ref r1, V.ref r2, V.ref r3, V.ref r4, V.ref r5]) e_LO
    have sG := same_mut (o := .lst [V.ref r0, V.ref r1, V.ref r2, V.ref r3, V.ref r4, V.ref r5]) sG nG0_LO
    have hD := hD.mut (o := .lst [V.ref r0, V.ref r1, V.ref r2, V.ref r3, V.ref r4, V.ref r5]) nd_LO
    have fr := fr.mut (o := .lst [V.ref r0, V.ref r1, V.ref r2, V.ref r3, V.ref r4, V.ref r5]) n0_LO
    have e_LB : (upd H44 LO (.lst [V.ref r0, V.ref r1, V.ref r2, V.ref r3, V.ref r4, V.ref r5])) LB = some (.lst [V.ref p0, V.ref p1, V.ref p2, V.ref p3, V.ref p4, V.ref p5, V.ref p6, V.ref p7, V.ref p8, V.ref p9, V.ref pP]) := by
      rw [upd_ne nLBLO]
      exact e_LB
    have e_LO : (upd H44 LO (.lst [V.ref r0, V.ref r1, V.ref r2, V.ref r3, V.ref r4, V.ref r5])) LO = some (.lst [V.ref r0, V.ref r1, V.ref r2, V.ref r3, V.ref r4, V.ref r5]) := upd_same
    generalize upd H44 LO (.lst [V.ref r0, V.ref r1, V.ref r2, V.ref r3, V.ref r4, V.ref r5]) = H45 at k_pP k_r0 k_r1 k_r2 k_r3 k_r4 k_r5 sG hD fr e_LB e_LO ⊢
    walk_at "yy"
    refine ⟨by show 6 ≤ sizeLine; decide, fun DV nDV => ?_⟩
    have e_DV : (upd H45 DV (.lst [V.str "x.....x.x...", V.str ".x......x...", V.str "..x....xx...", V.str "...x.....xx.", V.str "....x.....x.", V.str ".....x.....x"])) DV = some (.lst [V.str "x.....x.x...", V.str ".x......x...", V.str "..x....xx...", V.str "...x.....xx.", V.str "....x.....x.", V.str ".....x.....x"]) := upd_same
    have s1 := same_new (H := H45) (p := DV) (o := .lst [V.str "x.....x.x...", V.str ".x......x...", V.str "..x....xx...", V.str "...x.....xx.", V.str "....x.....x.", V.str ".....x.....x"]) nDV
    have nd_DV : DV ≠ d := hD.ne nDV
    have n0_DV : H DV = none := free_fr fr nDV nd_DV
    generalize hgen : upd H45 DV (.lst [V.str "x.....x.x...", V.str ".x......x...", V.str "..x....xx...", V.str "...x.....xx.", V.str "....x.....x.", V.str ".....x.....x"]) = H46 at e_DV s1 ⊢
    clear hgen
    have e_LB := s1 _ _ e_LB
    have k_pP := k_pP.same s1
    have k_r0 := k_r0.same s1
    have k_r1 := k_r1.same s1
    have k_r2 := k_r2.same s1
    have k_r3 := k_r3.same s1
    have k_r4 := k_r4.same s1
    have e_LO := s1 _ _ e_LO
    have k_r5 := k_r5.same s1
    have sG := sG.trans s1
    have hD := hD.same s1
    have fr := fr.trans (Fr.of_same s1)
    walk_at "yy"
    have hE : ErL K H46 [V.ref r0, V.ref r1, V.ref r2, V.ref r3, V.ref r4, V.ref r5] tblS := (ErL.cons (EF.r (p := (("UnknownGame" : Str), [false, false, false, false, false, false, false, false, false, false, false, false, false], [true, false, false, false, false, false, true, false, true, false, false, false])) (by decide +kernel) k_r0.err) (ErL.cons (EF.r (p := (("NoRow" : Str), [false, false, false, false, false, false, false, false, false, false, false, false, false], [false, true, false, false, false, false, false, false, true, false, false, false])) (by decide +kernel) k_r1.err) (ErL.cons (EF.r (p := (("NothingToUndo" : Str), [false, false, false, false, false, false, false, false, false, false, false, false, false], [false, false, true, false, false, false, false, true, true, false, false, false])) (by decide +kernel) k_r2.err) (ErL.cons (EF.r (p := (("TooMany" : Str), [false, false, false, false, false, false, false, false, false, false, false, false, false], [false, false, false, true, false, false, false, false, false, true, true, false])) (by decide +kernel) k_r3.err) (ErL.cons (EF.r (p := (("Refused" : Str), [false, false, false, false, false, false, false, false, false, false, false, false, false], [false, false, false, false, true, false, false, false, false, false, true, false])) (by decide +kernel) k_r4.err) (ErL.cons (EF.r (p := (("InvalidNumber" : Str), [false, false, false, false, false, false, false, false, false, false, false, false, false], [false, false, false, false, false, true, false, false, false, false, false, true])) (by decide +kernel) k_r5.err) ErL.nil))))))
    refine ⟨LO, rfl, ⟨_, sql e_LO⟩, fun D47 nD47 => lc_list (xs := [V.ref r0, V.ref r1, V.ref r2, V.ref r3, V.ref r4, V.ref r5]) (fun j G => G D47 = some (.lst (((tblS.map fun r => marks r.2.2).take j).map V.str)) ∧ Same H46 G) ?_ (fun _ _ _ h => sql (h.2 _ _ e_LO)) ?_ ?_⟩
    · exact ⟨upd_same, same_new nD47⟩
    · rintro j x G hx ⟨eD, s1⟩
      have hj : j < 6 := (List.getElem?_eq_some_iff.mp hx).1
      walk_at "yy"
      refine ⟨rfl, ?_⟩
      walk_at "yy"
      walk_at "yt"
      walk_at "yy"
      obtain ⟨r, hr, a, C, rfl, ea, hT', hk', ho', l1, l2⟩ := hE.at hx
      refine ⟨a, C, _, rfl, ea.same s1, hT', ho', l2, fun G2 s2 => ?_⟩
      have hy : (tblS.map fun r => marks r.2.2)[j]? = some (marks r.2.2) := by rw [List.getElem?_map, hr]; rfl
      refine ⟨_, s2 _ _ eD, sz_lt (by rw [List.length_map, List.length_take]; omega), ?_, same_mut (s1.trans s2) nD47⟩
      rw [upd_same, List.take_add_one, hy, List.map_append]
      rfl
    rintro H47 ⟨e_D47, s1⟩
    have e_D47 : H47 D47 = some (.lst ((tblS.map fun r => marks r.2.2).map V.str)) := by
      rw [e_D47]
      rfl
    have e_LB := s1 _ _ e_LB
    have k_pP := k_pP.same s1
    have k_r0 := k_r0.same s1
    have k_r1 := k_r1.same s1
    have k_r2 := k_r2.same s1
    have k_r3 := k_r3.same s1
    have k_r4 := k_r4.same s1
    have e_LO := s1 _ _ e_LO
    have k_r5 := k_r5.same s1
    have e_DV := s1 _ _ e_DV
    have hE := ErL.same s1 hE
    have sG := sG.trans s1
    have hD := hD.same s1
    have fr := fr.trans (Fr.of_same s1)
    walk_at "yy"
    refine y_neTs (tblS.map fun r => marks r.2.2) e_D47 (by rw [e_DV, show [V.str "x.....x.x...", V.str ".x......x...", V.str "..x....xx...", V.str "...x.....xx.", V.str "....x.....x.", V.str ".....x.....x"] = (tblS.map fun r => marks r.2.2).map V.str by decide +kernel]) (by decide +kernel) ?_
    walk_at "yy"
    walk_at "yf"
    walk_at "yy"
    refine ⟨LO, rfl, ⟨_, sql e_LO⟩, fun D48 nD48 => lc_list (xs := [V.ref r0, V.ref r1, V.ref r2, V.ref r3, V.ref r4, V.ref r5]) (fun j G => G D48 = some (.lst (((tblS.map fun r => marks r.2.1).take j).map V.str)) ∧ Same H47 G) ?_ (fun _ _ _ h => sql (h.2 _ _ e_LO)) ?_ ?_⟩
    · exact ⟨upd_same, same_new nD48⟩
    · rintro j x G hx ⟨eD, s1⟩
      have hj : j < 6 := (List.getElem?_eq_some_iff.mp hx).1
      walk_at "yy"
      refine ⟨rfl, ?_⟩
      walk_at "yy"
      walk_at "yt"
      walk_at "yy"
      obtain ⟨r, hr, a, C, rfl, ea, hT', hk', ho', l1, l2⟩ := hE.at hx
      refine ⟨a, C, _, rfl, ea.same s1, hT', hk', l1, fun G2 s2 => ?_⟩
      have hy : (tblS.map fun r => marks r.2.1)[j]? = some (marks r.2.1) := by
        show (tblS.map fun r => marks r.2.1)[j]? = _
        rw [List.getElem?_map, hr]
        rfl
      refine ⟨_, s2 _ _ eD, sz_lt (by rw [List.length_map, List.length_take]; omega), ?_, same_mut (s1.trans s2) nD48⟩
      rw [upd_same, List.take_add_one, hy, List.map_append]
      rfl
    rintro H48 ⟨e_D48, s1⟩
    have e_D48 : H48 D48 = some (.lst ((tblS.map fun r => marks r.2.1).map V.str)) := by
      rw [e_D48]
      rfl
    have e_LB := s1 _ _ e_LB
    have k_pP := k_pP.same s1
    have k_r0 := k_r0.same s1
    have k_r1 := k_r1.same s1
    have k_r2 := k_r2.same s1
    have k_r3 := k_r3.same s1
    have k_r4 := k_r4.same s1
    have e_LO := s1 _ _ e_LO
    have k_r5 := k_r5.same s1
    have hE := ErL.same s1 hE
    have sG := sG.trans s1
    have hD := hD.same s1
    have fr := fr.trans (Fr.of_same s1)
    walk_at "yy"
    clear hE
    refine ⟨13, rfl, rfl, by decide, by decide, ?_⟩
    walk_at "yy"
    refine ⟨by show 1 ≤ sizeLine; decide, fun o5 mo5 => ?_⟩
    have e_o5 : (upd H48 o5 (.lst [V.str ⟨(List.replicate (Int.toNat 13) 46).toArray⟩])) o5 = some (.lst [V.str ⟨(List.replicate (Int.toNat 13) 46).toArray⟩]) := upd_same
    have s1 := same_new (H := H48) (p := o5) (o := .lst [V.str ⟨(List.replicate (Int.toNat 13) 46).toArray⟩]) mo5
    have nd_o5 : o5 ≠ d := hD.ne mo5
    have n0_o5 : H o5 = none := free_fr fr mo5 nd_o5
    generalize hgen : upd H48 o5 (.lst [V.str ⟨(List.replicate (Int.toNat 13) 46).toArray⟩]) = H49 at e_o5 s1 ⊢
    clear hgen
    have e_LB := s1 _ _ e_LB
    have k_pP := k_pP.same s1
    have k_r0 := k_r0.same s1
    have k_r1 := k_r1.same s1
    have k_r2 := k_r2.same s1
    have k_r3 := k_r3.same s1
    have k_r4 := k_r4.same s1
    have e_LO := s1 _ _ e_LO
    have k_r5 := k_r5.same s1
    have e_D48 := s1 _ _ e_D48
    have sG := sG.trans s1
    have hD := hD.same s1
    have fr := fr.trans (Fr.of_same s1)
    walk_at "yy"
    refine ⟨o5, 6, _, rfl, rfl, e_o5, by decide, by decide, by show 1 * 6 ≤ sizeLine; decide, fun R5 nR5 => ?_⟩
    have e_R5 : (upd H49 R5 (.lst (List.replicate (Int.toNat 6) [V.str ⟨(List.replicate (Int.toNat 13) 46).toArray⟩]).flatten)) R5 = some (.lst (List.replicate (Int.toNat 6) [V.str ⟨(List.replicate (Int.toNat 13) 46).toArray⟩]).flatten) := upd_same
    have s1 := same_new (H := H49) (p := R5) (o := .lst (List.replicate (Int.toNat 6) [V.str ⟨(List.replicate (Int.toNat 13) 46).toArray⟩]).flatten) nR5
    have nd_R5 : R5 ≠ d := hD.ne nR5
    have n0_R5 : H R5 = none := free_fr fr nR5 nd_R5
    generalize hgen : upd H49 R5 (.lst (List.replicate (Int.toNat 6) [V.str ⟨(List.replicate (Int.toNat 13) 46).toArray⟩]).flatten) = H50 at e_R5 s1 ⊢
    clear hgen
    have e_LB := s1 _ _ e_LB
    have k_pP := k_pP.same s1
    have k_r0 := k_r0.same s1
    have k_r1 := k_r1.same s1
    have k_r2 := k_r2.same s1
    have k_r3 := k_r3.same s1
    have k_r4 := k_r4.same s1
    have e_LO := s1 _ _ e_LO
    have k_r5 := k_r5.same s1
    have e_D48 := s1 _ _ e_D48
    have e_o5 := s1 _ _ e_o5
    have sG := sG.trans s1
    have hD := hD.same s1
    have fr := fr.trans (Fr.of_same s1)
    refine y_neTs (tblS.map fun r => marks r.2.1) e_D48 (by rw [e_R5, show (List.replicate (Int.toNat 6) [V.str ⟨(List.replicate (Int.toNat 13) 46).toArray⟩]).flatten = (tblS.map fun r => marks r.2.1).map V.str by decide +kernel]) (by decide +kernel) ?_
    walk_at "yy"
    walk_at "yf"
    walk_at "yy"
    refine y_ixL (sql e_LB) (v := .ref pP) rfl ?_
    walk_at "yy"
    obtain ⟨aJ, CJ, eJ, eaJ, hTJ, hkJ, hoJ, l1J, l2J⟩ := (EF.r (p := (("ParseError" : Str), [false, false, false, false, false, false, false, false, false, false, true, true, true], [false, false, false, false, false, false, false, false, false, false, false, false])) (by decide +kernel) k_pP.err)
    cases eJ
    refine ⟨_, CJ, _, rfl, eaJ, hTJ, hoJ, l2J, fun H51 s1 => ?_⟩
    clear eaJ hTJ hkJ hoJ l1J l2J
    have e_LB := s1 _ _ e_LB
    have k_pP := k_pP.same s1
    have k_r0 := k_r0.same s1
    have k_r1 := k_r1.same s1
    have k_r2 := k_r2.same s1
    have k_r3 := k_r3.same s1
    have k_r4 := k_r4.same s1
    have e_LO := s1 _ _ e_LO
    have k_r5 := k_r5.same s1
    have sG := sG.trans s1
    have hD := hD.same s1
    have fr := fr.trans (Fr.of_same s1)
    walk_at "yy"
    refine ⟨12, rfl, rfl, by decide, by decide, ?_⟩
    walk_at "yy"
    refine y_f (by decide +kernel) ?_
    walk_at "yy"
    refine y_ixL (sql e_LB) (v := .ref pP) rfl ?_
    walk_at "yy"
    obtain ⟨dk, ek1, ek2⟩ := id k_pP
    refine ⟨pP, dk, [(("line" : Str), atv)], atv, rfl, ek1, ek2, by simp [List.lookup], ?_⟩
    walk_at "yy"
    refine htx _ _ ?_
    walk_at "yy"
    refine htx _ _ ?_
    walk_at "yy"
    refine y_f (by simp) ?_
    walk_at "yy"
    refine y_ixL (sql e_LO) (v := .ref r0) rfl ?_
    walk_at "yy"
    obtain ⟨dk_r0, ek1, ek2⟩ := id k_r0
    refine ⟨r0, dk_r0, [(("asked" : Str), thing)], thing, rfl, ek1, ek2, by simp [List.lookup], ?_⟩
    walk_at "yy"
    refine y_ixL (sql e_LO) (v := .ref r1) rfl ?_
    walk_at "yy"
    obtain ⟨dk_r1, ek1, ek2⟩ := id k_r1
    refine ⟨r1, dk_r1, [(("wanted" : Str), thing)], thing, rfl, ek1, ek2, by simp [List.lookup], ?_⟩
    walk_at "yy"
    refine y_ixL (sql e_LO) (v := .ref r2) rfl ?_
    walk_at "yy"
    obtain ⟨dk_r2, ek1, ek2⟩ := id k_r2
    refine ⟨r2, dk_r2, [(("amount" : Str), thing)], thing, rfl, ek1, ek2, by simp [List.lookup], ?_⟩
    walk_at "yy"
    refine y_ixL (sql e_LO) (v := .ref r3) rfl ?_
    walk_at "yy"
    obtain ⟨dk_r3, ek1, ek2⟩ := id k_r3
    refine ⟨r3, dk_r3, [(("limit" : Str), thing)], thing, rfl, ek1, ek2, by simp [List.lookup], ?_⟩
    walk_at "yy"
    refine y_ixL (sql e_LO) (v := .ref r4) rfl ?_
    walk_at "yy"
    obtain ⟨dk_r4, ek1, ek2⟩ := id k_r4
    refine ⟨r4, dk_r4, [(("cause" : Str), thing)], thing, rfl, ek1, ek2, by simp [List.lookup], ?_⟩
    walk_at "yy"
    refine y_ixL (sql e_LO) (v := .ref r5) rfl ?_
    walk_at "yy"
    obtain ⟨dk_r5, ek1, ek2⟩ := id k_r5
    refine ⟨r5, dk_r5, [(("number" : Str), thing)], thing, rfl, ek1, ek2, by simp [List.lookup], ?_⟩
    walk_at "yy"
    refine ⟨by show 6 ≤ sizeLine; decide, fun KP nKP => ?_⟩
    have e_KP : (upd H51 KP (.lst [thing, thing, thing, thing, thing, thing])) KP = some (.lst [thing, thing, thing, thing, thing, thing]) := upd_same
    have s1 := same_new (H := H51) (p := KP) (o := .lst [thing, thing, thing, thing, thing, thing]) nKP
    have nd_KP : KP ≠ d := hD.ne nKP
    have n0_KP : H KP = none := free_fr fr nKP nd_KP
    generalize hgen : upd H51 KP (.lst [thing, thing, thing, thing, thing, thing]) = H52 at e_KP s1 ⊢
    clear hgen
    have e_LB := s1 _ _ e_LB
    have k_pP := k_pP.same s1
    have k_r0 := k_r0.same s1
    have k_r1 := k_r1.same s1
    have k_r2 := k_r2.same s1
    have k_r3 := k_r3.same s1
    have k_r4 := k_r4.same s1
    have e_LO := s1 _ _ e_LO
    have k_r5 := k_r5.same s1
    have sG := sG.trans s1
    have hD := hD.same s1
    have fr := fr.trans (Fr.of_same s1)
    walk_at "yy"
    obtain ⟨sh6, ln6, dp6⟩ := okD_of okDD
    refine .inr (.inr ⟨KP, .list [DD, DD, DD, DD, DD, DD], rfl, .lst e_KP (rda6 (RdH.same sG hDD)), sh6, ln6, dp6, ?_⟩)
    walk_at "yy"
    refine ⟨by show 1 ≤ sizeLine; decide, fun o6 mo6 => ?_⟩
    have e_o6 : (upd H52 o6 (.lst [thing])) o6 = some (.lst [thing]) := upd_same
    have s1 := same_new (H := H52) (p := o6) (o := .lst [thing]) mo6
    have nd_o6 : o6 ≠ d := hD.ne mo6
    have n0_o6 : H o6 = none := free_fr fr mo6 nd_o6
    generalize hgen : upd H52 o6 (.lst [thing]) = H53 at e_o6 s1 ⊢
    clear hgen
    have e_LB := s1 _ _ e_LB
    have k_pP := k_pP.same s1
    have k_r0 := k_r0.same s1
    have k_r1 := k_r1.same s1
    have k_r2 := k_r2.same s1
    have k_r3 := k_r3.same s1
    have k_r4 := k_r4.same s1
    have e_LO := s1 _ _ e_LO
    have k_r5 := k_r5.same s1
    have e_KP := s1 _ _ e_KP
    have sG := sG.trans s1
    have hD := hD.same s1
    have fr := fr.trans (Fr.of_same s1)
    walk_at "yy"
    refine ⟨o6, 6, _, rfl, rfl, e_o6, by decide, by decide, by show 1 * 6 ≤ sizeLine; decide, fun R6 nR6 => ?_⟩
    have e_R6 : (upd H53 R6 (.lst (List.replicate (Int.toNat 6) [thing]).flatten)) R6 = some (.lst (List.replicate (Int.toNat 6) [thing]).flatten) := upd_same
    have s1 := same_new (H := H53) (p := R6) (o := .lst (List.replicate (Int.toNat 6) [thing]).flatten) nR6
    have nd_R6 : R6 ≠ d := hD.ne nR6
    have n0_R6 : H R6 = none := free_fr fr nR6 nd_R6
    generalize hgen : upd H53 R6 (.lst (List.replicate (Int.toNat 6) [thing]).flatten) = H54 at e_R6 s1 ⊢
    clear hgen
    have e_LB := s1 _ _ e_LB
    have k_pP := k_pP.same s1
    have k_r0 := k_r0.same s1
    have k_r1 := k_r1.same s1
    have k_r2 := k_r2.same s1
    have k_r3 := k_r3.same s1
    have k_r4 := k_r4.same s1
    have e_LO := s1 _ _ e_LO
    have k_r5 := k_r5.same s1
    have e_KP := s1 _ _ e_KP
    have e_o6 := s1 _ _ e_o6
    have sG := sG.trans s1
    have hD := hD.same s1
    have fr := fr.trans (Fr.of_same s1)
    refine .inr (.inr ⟨R6, .list [DD, DD, DD, DD, DD, DD], rfl, .lst e_R6 (rda6 (RdH.same sG hDD)), sh6, ln6, dp6, ?_⟩)
    walk_at "yy"
    rw [decide_eq_true rfl]
    exact k _ hD fr
theorem sc_law : FnScope ["_law_script", "_law_spot", "_law_dice_here", "_law_turn"] ["_law_script"] (defScope s_law) := ⟨rfl, rfl, rfl, by decide +kernel, rfl, by decide +kernel, by decide +kernel⟩
-- 0 _law_script, 1 _law_spot, 2 _law_dice_here, 3 _law_turn
theorem ok_law {f : Addr} {fd : FuncData} (F : FunD K "law" "law" (defArgs s_law) (defBody s_law) (defScope s_law) [] [] f fd) (B : Blt mg) (Z : Con mg) (EF : ErrF K mg) (hSM : ∃ o, base.get? sysModules = some o) (C_law_dice : Cal P w K mg base 1 "_law_dice" ["_law_script", "_law_spot"] (spDice K)) (C_law_right : CalG P w K mg base 4 "_law_right" ["_law_dice_here"] spRight) (C_ParseError___init__ : ∃ (fd : FuncData) (ps : List Str), FnOk P w K mg base CX0 1 (He.ma K (He.ga K "ParseError") "__init__") fd ps (spEI (He.ga K "ParseError") "line") ∧ Binds K fd ps []) (C_TooMany___init__ : ∃ (fd : FuncData) (ps : List Str), FnOk P w K mg base CX0 1 (He.ma K (He.ga K "TooMany") "__init__") fd ps (spEI (He.ga K "TooMany") "limit") ∧ Binds K fd ps []) : FnG P w K mg base CX0 5 f fd ["_law_script"] (spLaw K) := by
  refine fnG_of F sc_law (fun vs H Q E h => ?_) (fun cdv A outer s H vs Q E hG hr h => ?_)
  · obtain ⟨a, ns, rfl, _⟩ := h
    rfl
  · obtain ⟨a, ns, rfl, hS, hlen, k⟩ := h
    obtain ⟨fd_ParseError, ps_ParseError, F_ParseError, B_ParseError⟩ := C_ParseError___init__
    obtain ⟨fd_TooMany, ps_TooMany, F_TooMany, B_TooMany⟩ := C_TooMany___init__
    refine ⟨_, PSs.nox (pss_cons (ps_for PassesOwn.never rfl (pi_range1 (by rfl) B.n_range (pa_cons (pe_callB (c_max2 rfl) (by rfl) B.n_max (by decide +kernel) (pa_cons pe_int (pa_cons (pe_callB (c_min2 rfl) (by rfl) B.n_min (by decide +kernel) (pa_cons pe_int (pa_cons (pe_callB (c_lenQ (K := K)) (by rfl) B.n_len (by decide +kernel) (pa_cons (pv 0) pa_nil)) pa_nil))) pa_nil))) pa_nil)) (pg_name (i := 1) sc_law.nd rfl (Or.inl rfl)) (pss_cons (ps_set (i := 2) sc_law.nd rfl (Or.inl rfl) (pe_fn C_law_dice (hr.mono (by decide)) (by rfl) (pa_cons (pv 0) (pa_cons (pv 1) pa_nil)))) (pss_one (ps_for PassesOwn.never rfl (pi_range1 (by rfl) B.n_range (pa_cons pe_int pa_nil)) (pg_name (i := 3) sc_law.nd rfl (Or.inl rfl)) (pss_one (ps_if (pt_not (pt_val (pe_fnG hG C_law_right (hr.mono (by decide)) (by rfl) (pa_cons (pv 2) pa_nil)))) (pss_one (ps_ret pe_bl)) pss_nil)))))) (pss_one (ps_ret (pe_cmpR (o_eqD (K := K) hr.units) (pe_lst (pa_cons (pe_ef EF.c_ParseError.xf EF.c_ParseError.no (pe_exI EF.c_ParseError.G EF.c_ParseError.iC EF.c_ParseError.tI F_ParseError B_ParseError (hr.mono (by decide)) (by rfl) EF.g_ParseError (pa_cons pe_non pa_nil))) (pa_cons (pe_ef EF.c_ParseError.xf EF.c_ParseError.no (pe_exI EF.c_ParseError.G EF.c_ParseError.iC EF.c_ParseError.tI F_ParseError B_ParseError (hr.mono (by decide)) (by rfl) EF.g_ParseError (pa_cons pe_int pa_nil))) (pa_cons (pe_ef EF.c_TooMany.xf EF.c_TooMany.no (pe_exI EF.c_TooMany.G EF.c_TooMany.iC EF.c_TooMany.tI F_TooMany B_TooMany (hr.mono (by decide)) (by rfl) EF.g_TooMany (pa_cons pe_int pa_nil))) pa_nil)))) (pe_lst (pa_cons pe_non (pa_cons pe_int (pa_cons pe_int pa_nil)))) (nomark _))))), ?_⟩
    walk_at "yy"
    refine y_lenL hS ?_
    walk_at "yy"
    refine ⟨_, rfl, by omega, by omega, y_forR (b := fun _ _ => False) (c := fun _ _ => False) (fun i σ H1 => ∃ u1 u2 u3, σ = [some (.ref a), u1, u2, u3] ∧ Same H H1) ⟨_, _, _, rfl, Same.refl H⟩ ?_ ?_⟩
    · rintro i σ H1 hi ⟨u1, u2, u3, rfl, sm⟩
      walk_at "yy"
      refine ⟨a, 0 + i, ns, rfl, sm.seq hS, by omega, by omega, fun d H2 nd hD sm2 => ?_⟩
      have nd0 : H d = none := sm.free nd
      walk_at "yy"
      refine ⟨4, rfl, by decide, by decide, y_forR (b := fun _ _ => False) (c := fun _ _ => False) (fun j σ H3 => ∃ u3, σ = [some (.ref a), some (.int (0 + i)), some (.ref d), u3] ∧ Same H H3 ∧ DiceAt H3 d) ⟨_, rfl, sm.trans sm2, hD⟩ ?_ ?_⟩
      · rintro j σ H3 hj ⟨u3, rfl, sm3, hD3⟩
        walk_at "yy"
        refine ⟨d, rfl, hD3, fun H4 hD4 f4 => ?_⟩
        walk_at "yy"
        walk_at "yf"
        walk_at "yy"
        exact ⟨_, rfl, same_fr sm3 f4 nd0, hD4⟩
      · rintro σ H3 ⟨u3, rfl, sm3, hD3⟩
        exact ⟨_, _, _, rfl, sm3⟩
    · rintro σ H1 ⟨u1, u2, u3, rfl, sm⟩
      walk_at "yy"
      refine y_exC (fun e0 H2 s0 k0 => ?_)
      obtain ⟨dk0, ek1, ek2⟩ := k0
      refine ⟨e0, dk0, [(("line" : Str), V.non)], V.non, rfl, ek1, ek2, by simp [List.lookup], ?_⟩
      walk_at "yy"
      refine y_exC (fun e1 H3 s1 k1 => ?_)
      obtain ⟨dk1, ek1, ek2⟩ := k1
      refine ⟨e1, dk1, [(("line" : Str), V.int 3)], V.int 3, rfl, ek1, ek2, by simp [List.lookup], ?_⟩
      walk_at "yy"
      refine y_exC (fun e2 H4 s2 k2 => ?_)
      obtain ⟨dk2, ek1, ek2⟩ := k2
      refine ⟨e2, dk2, [(("limit" : Str), V.int 300)], V.int 300, rfl, ek1, ek2, by simp [List.lookup], ?_⟩
      walk_at "yy"
      refine ⟨by show 3 ≤ sizeLine; decide, fun l1 nl1 => ?_⟩
      walk_at "yy"
      refine ⟨by show 3 ≤ sizeLine; decide, fun l2 nl2 => ?_⟩
      have n12 : l1 ≠ l2 := ne_of_none upd_same nl2
      have dp : ∀ (G : Hp) (p : Addr), G p = some (.lst [.non, .int 3, .int 300]) → Dp K G (.ref p) (.list [.none, .int 3, .int 300]) := fun G p h => .lst (sql h) (.cons .non (.cons (.int _) (.cons (.int _) .nil)))
      refine ⟨_, _, dp _ l1 (by rw [upd_ne n12]; exact upd_same), dp _ l2 upd_same, by decide +kernel, by decide +kernel, ?_⟩
      have e : PyData.eqv (.list [.none, .int 3, .int 300]) (.list [.none, .int 3, .int 300]) = true := by decide +kernel
      rw [e]
      exact k _
end
def d_law_dice : He5.DefA := ⟨fun K => He.ga K "_law_dice", "_law_dice", "_law_dice", defArgs s_law_dice, defBody s_law_dice, defScope s_law_dice, [], []⟩
def d_law_roll : He5.DefA := ⟨fun K => He.ga K "_law_roll", "_law_roll", "_law_roll", defArgs s_law_roll, defBody s_law_roll, defScope s_law_roll, [], []⟩
def d_law_pick : He5.DefA := ⟨fun K => He.ga K "_law_pick", "_law_pick", "_law_pick", defArgs s_law_pick, defBody s_law_pick, defScope s_law_pick, [], []⟩
def d_ParseError___init__ : He5.DefA := ⟨fun K => He.ma K (He.ga K "ParseError") "__init__", "__init__", "ParseError.__init__", defArgs s_ParseError___init__, defBody s_ParseError___init__, defScope s_ParseError___init__, [], []⟩
def d_UnknownGame___init__ : He5.DefA := ⟨fun K => He.ma K (He.ga K "UnknownGame") "__init__", "__init__", "UnknownGame.__init__", defArgs s_UnknownGame___init__, defBody s_UnknownGame___init__, defScope s_UnknownGame___init__, [], []⟩
def d_NoRow___init__ : He5.DefA := ⟨fun K => He.ma K (He.ga K "NoRow") "__init__", "__init__", "NoRow.__init__", defArgs s_NoRow___init__, defBody s_NoRow___init__, defScope s_NoRow___init__, [], []⟩
def d_NothingToUndo___init__ : He5.DefA := ⟨fun K => He.ma K (He.ga K "NothingToUndo") "__init__", "__init__", "NothingToUndo.__init__", defArgs s_NothingToUndo___init__, defBody s_NothingToUndo___init__, defScope s_NothingToUndo___init__, [], []⟩
def d_TooMany___init__ : He5.DefA := ⟨fun K => He.ma K (He.ga K "TooMany") "__init__", "__init__", "TooMany.__init__", defArgs s_TooMany___init__, defBody s_TooMany___init__, defScope s_TooMany___init__, [], []⟩
def d_Refused___init__ : He5.DefA := ⟨fun K => He.ma K (He.ga K "Refused") "__init__", "__init__", "Refused.__init__", defArgs s_Refused___init__, defBody s_Refused___init__, defScope s_Refused___init__, [], []⟩
def d_InvalidNumber___init__ : He5.DefA := ⟨fun K => He.ma K (He.ga K "InvalidNumber") "__init__", "__init__", "InvalidNumber.__init__", defArgs s_InvalidNumber___init__, defBody s_InvalidNumber___init__, defScope s_InvalidNumber___init__, [], []⟩
def d_law_kinds : He5.DefA := ⟨fun K => He.ga K "_law_kinds", "_law_kinds", "_law_kinds", defArgs s_law_kinds, defBody s_law_kinds, defScope s_law_kinds, [], []⟩
def d_law_others : He5.DefA := ⟨fun K => He.ga K "_law_others", "_law_others", "_law_others", defArgs s_law_others, defBody s_law_others, defScope s_law_others, [], []⟩
def d_law_right : He5.DefA := ⟨fun K => He.ga K "_law_right", "_law_right", "_law_right", defArgs s_law_right, defBody s_law_right, defScope s_law_right, [], []⟩
def d_law : He5.DefA := ⟨fun K => He.ga K "law", "law", "law", defArgs s_law, defBody s_law, defScope s_law, [], []⟩
def fn : List He5.DefA := [d_law_dice, d_law_roll, d_law_pick, d_ParseError___init__, d_UnknownGame___init__, d_NoRow___init__, d_NothingToUndo___init__, d_TooMany___init__, d_Refused___init__, d_InvalidNumber___init__, d_law_kinds, d_law_others, d_law_right, d_law]
def fa : List He.Fa := [.glo "InvalidWord", .glo "InvalidFraction", .glo "InvalidGame", .glo "InvalidHouse", .glo "InvalidRow", .glo "InvalidWeights", .glo "InvalidPolicy", .glo "InvalidController", .glo "InvalidLot", .glo "InvalidOperation", .glo "ParseError", .glo "GameError", .glo "UnknownGame", .glo "NoRow", .glo "NothingToUndo", .glo "TooMany", .glo "Refused", .glo "InvalidNumber", .glo "_law_dice", .glo "_law_roll", .glo "_law_pick", .glo "_law_kinds", .glo "_law_others", .glo "_law_right", .glo "law", .free "ArithmeticError", .free "IndexError", .free "KeyError", .free "LookupError", .free "OverflowError", .free "RuntimeError", .free "ValueError", .free "abs", .free "int", .free "isinstance", .free "len", .free "max", .free "min", .free "range", .free "repr", .free "str"]
def ex (K : PySem.W.Frag) : List Bool := [(tblB ++ tblS).all (rowB K),
  baseN.all (txB K),
  oxB K "ParseError" "line" "ValueError.__new__" "ValueError" PySem.HandSPX.veTail,
  oxB K "UnknownGame" "asked" "LookupError.__new__" "LookupError" F.kerTail,
  oxB K "NoRow" "wanted" "LookupError.__new__" "LookupError" [.type "LookupError", .type "Exception", .type "BaseException", .type "object"],
  oxB K "NothingToUndo" "amount" "IndexError.__new__" "IndexError" [.type "IndexError", .type "LookupError", .type "Exception", .type "BaseException", .type "object"],
  oxB K "TooMany" "limit" "OverflowError.__new__" "OverflowError" [.type "OverflowError", .type "ArithmeticError", .type "Exception", .type "BaseException", .type "object"],
  oxB K "Refused" "cause" "ArithmeticError.__new__" "ArithmeticError" [.type "ArithmeticError", .type "Exception", .type "BaseException", .type "object"],
  oxB K "InvalidNumber" "number" "RuntimeError.__new__" "RuntimeError" [.type "RuntimeError", .type "Exception", .type "BaseException", .type "object"]]
abbrev R : PySem.W.OpenRow := PySem.W.OpenLaw.row PySem.Challenge.rw_wonbyturns_k00_errors_and_what_they_keep
def hk : PySem.W.Hook where
  α := He.AlD × List Bool × Bool
  obs := fun s => (He5.obsAG 5 fa fn s.heap.get?, ex (He.frG s.heap.get? (He5.asA s.heap.get? 5)), dictB (s.heap.get? sysModules))
  val := fun _ => (He5.valA fn, List.replicate 9 true, true)
  says := fun _ h => ∃ K : PySem.W.Frag, K.In h ∧ He5.SaysA fa fn K ∧ ex K = List.replicate 9 true ∧ dictB (h.get? sysModules) = true
  of := fun _ _ e => ⟨_, He.frG_in, (Prod.mk.inj e).1, (Prod.mk.inj (Prod.mk.inj e).2).1, (Prod.mk.inj (Prod.mk.inj e).2).2⟩
  keeps := fun _ _ _ ⟨K, hK, c, e, z⟩ k => ⟨K, PySem.W.Frag.In.keeps hK k, c, e, by
    obtain ⟨o, es, n, eo, hd⟩ := dictB_at z
    rw [k _ _ eo, ← eo]
    exact z⟩
def ob (s : PySem.W.SharedT) : He.AlD × List Bool × Bool := (He5.obsAG 5 fa fn (HandSHeadRun.getT s), ex (He.frG (HandSHeadRun.getT s) (He5.asA (HandSHeadRun.getT s) 5)), dictB (HandSHeadRun.getT s sysModules))
theorem ob_eq (s : PySem.W.SharedT) : ob s = hk.obs s.abs := by
  have e : HandSHeadRun.getT s = s.abs.heap.get? := funext fun a => HandSHeadRun.getT_eq s a
  unfold ob
  rw [e]
  rfl
def loose : List Str := [("__name__" : Str), ("GameError" : Str), ("InvalidWord" : Str), ("InvalidFraction" : Str), ("InvalidGame" : Str), ("InvalidHouse" : Str), ("InvalidRow" : Str), ("InvalidWeights" : Str), ("InvalidPolicy" : Str), ("InvalidController" : Str), ("InvalidLot" : Str), ("InvalidOperation" : Str), ("ParseError" : Str), ("UnknownGame" : Str), ("NoRow" : Str), ("NothingToUndo" : Str), ("TooMany" : Str), ("Refused" : Str), ("InvalidNumber" : Str), ("_law_dice" : Str), ("_law_roll" : Str), ("_law_pick" : Str), ("_law_kinds" : Str), ("_law_others" : Str), ("_law_right" : Str)]
theorem run (w : World) : HandSHeadRun.RunEqI R (PySem.W.view R.prog [26]) hk ob 20000 loose w := by
  unfold HandSHeadRun.RunEqI
  kernel_rfl
theorem facts {P : Program} {w : World} {K : PySem.W.Frag} {h : Heap} {mg : Str → Option Value} {f : Addr} (X : K.In h) (G : h.Ns mainGlobals mg) (hfa : mg ("law" : Str) = some (.ref f)) (c : He5.SaysA fa fn K) (cx : ex K = List.replicate 9 true) :
    ∃ fd : FuncData, (∀ (s : Shared) (u : Value), BindsTo s fd ⟨[u], []⟩ [("_law_script", u)]) ∧ ∀ base : Heap, K.In base → base.Ns mainGlobals mg → (∃ o, base.get? sysModules = some o) → FnG P w K mg base CX0 5 f fd ["_law_script"] (spLaw K) := by
  obtain ⟨fd_0, F_0⟩ := c.def_ 0 (d := d_law_dice) rfl
  obtain ⟨fd_1, F_1⟩ := c.def_ 1 (d := d_law_roll) rfl
  obtain ⟨fd_2, F_2⟩ := c.def_ 2 (d := d_law_pick) rfl
  obtain ⟨fd_3, F_3⟩ := c.def_ 3 (d := d_ParseError___init__) rfl
  obtain ⟨fd_4, F_4⟩ := c.def_ 4 (d := d_UnknownGame___init__) rfl
  obtain ⟨fd_5, F_5⟩ := c.def_ 5 (d := d_NoRow___init__) rfl
  obtain ⟨fd_6, F_6⟩ := c.def_ 6 (d := d_NothingToUndo___init__) rfl
  obtain ⟨fd_7, F_7⟩ := c.def_ 7 (d := d_TooMany___init__) rfl
  obtain ⟨fd_8, F_8⟩ := c.def_ 8 (d := d_Refused___init__) rfl
  obtain ⟨fd_9, F_9⟩ := c.def_ 9 (d := d_InvalidNumber___init__) rfl
  obtain ⟨fd_10, F_10⟩ := c.def_ 10 (d := d_law_kinds) rfl
  obtain ⟨fd_11, F_11⟩ := c.def_ 11 (d := d_law_others) rfl
  obtain ⟨fd_12, F_12⟩ := c.def_ 12 (d := d_law_right) rfl
  obtain ⟨fd_13, F_13⟩ := c.def_ 13 (d := d_law) rfl
  have x_row : (tblB ++ tblS).all (rowB K) = true := exAt cx 0 rfl
  have x_tx : baseN.all (txB K) = true := exAt cx 1 rfl
  have x_o_ParseError : oxB K "ParseError" "line" "ValueError.__new__" "ValueError" PySem.HandSPX.veTail = true := exAt cx 2 rfl
  have x_o_UnknownGame : oxB K "UnknownGame" "asked" "LookupError.__new__" "LookupError" F.kerTail = true := exAt cx 3 rfl
  have x_o_NoRow : oxB K "NoRow" "wanted" "LookupError.__new__" "LookupError" [.type "LookupError", .type "Exception", .type "BaseException", .type "object"] = true := exAt cx 4 rfl
  have x_o_NothingToUndo : oxB K "NothingToUndo" "amount" "IndexError.__new__" "IndexError" [.type "IndexError", .type "LookupError", .type "Exception", .type "BaseException", .type "object"] = true := exAt cx 5 rfl
  have x_o_TooMany : oxB K "TooMany" "limit" "OverflowError.__new__" "OverflowError" [.type "OverflowError", .type "ArithmeticError", .type "Exception", .type "BaseException", .type "object"] = true := exAt cx 6 rfl
  have x_o_Refused : oxB K "Refused" "cause" "ArithmeticError.__new__" "ArithmeticError" [.type "ArithmeticError", .type "Exception", .type "BaseException", .type "object"] = true := exAt cx 7 rfl
  have x_o_InvalidNumber : oxB K "InvalidNumber" "number" "RuntimeError.__new__" "RuntimeError" [.type "RuntimeError", .type "Exception", .type "BaseException", .type "object"] = true := exAt cx 8 rfl
  have B : Blt mg := ⟨He.free_ok X G (c.fact 25 (f := .free "ArithmeticError") rfl), He.free_ok X G (c.fact 26 (f := .free "IndexError") rfl), He.free_ok X G (c.fact 27 (f := .free "KeyError") rfl), He.free_ok X G (c.fact 28 (f := .free "LookupError") rfl), He.free_ok X G (c.fact 29 (f := .free "OverflowError") rfl), He.free_ok X G (c.fact 30 (f := .free "RuntimeError") rfl), He.free_ok X G (c.fact 31 (f := .free "ValueError") rfl), He.free_ok X G (c.fact 32 (f := .free "abs") rfl), He.free_ok X G (c.fact 33 (f := .free "int") rfl), He.free_ok X G (c.fact 34 (f := .free "isinstance") rfl), He.free_ok X G (c.fact 35 (f := .free "len") rfl), He.free_ok X G (c.fact 36 (f := .free "max") rfl), He.free_ok X G (c.fact 37 (f := .free "min") rfl), He.free_ok X G (c.fact 38 (f := .free "range") rfl), He.free_ok X G (c.fact 39 (f := .free "repr") rfl), He.free_ok X G (c.fact 40 (f := .free "str") rfl)⟩
  have Z : Con mg := ⟨trivial⟩
  have EF : ErrF K mg := ⟨He.glo_ok X G (c.fact 0 (f := .glo "InvalidWord") rfl), He.glo_ok X G (c.fact 1 (f := .glo "InvalidFraction") rfl), He.glo_ok X G (c.fact 2 (f := .glo "InvalidGame") rfl), He.glo_ok X G (c.fact 3 (f := .glo "InvalidHouse") rfl), He.glo_ok X G (c.fact 4 (f := .glo "InvalidRow") rfl), He.glo_ok X G (c.fact 5 (f := .glo "InvalidWeights") rfl), He.glo_ok X G (c.fact 6 (f := .glo "InvalidPolicy") rfl), He.glo_ok X G (c.fact 7 (f := .glo "InvalidController") rfl), He.glo_ok X G (c.fact 8 (f := .glo "InvalidLot") rfl), He.glo_ok X G (c.fact 9 (f := .glo "InvalidOperation") rfl), He.glo_ok X G (c.fact 10 (f := .glo "ParseError") rfl), He.glo_ok X G (c.fact 11 (f := .glo "GameError") rfl), He.glo_ok X G (c.fact 12 (f := .glo "UnknownGame") rfl), He.glo_ok X G (c.fact 13 (f := .glo "NoRow") rfl), He.glo_ok X G (c.fact 14 (f := .glo "NothingToUndo") rfl), He.glo_ok X G (c.fact 15 (f := .glo "TooMany") rfl), He.glo_ok X G (c.fact 16 (f := .glo "Refused") rfl), He.glo_ok X G (c.fact 17 (f := .glo "InvalidNumber") rfl), x_row, x_tx, x_o_ParseError, x_o_UnknownGame, x_o_NoRow, x_o_NothingToUndo, x_o_TooMany, x_o_Refused, x_o_InvalidNumber⟩
  have e := hfa.symm.trans (He.glo_ok X G (c.fact 24 (f := .glo "law") rfl))
  cases e
  have b := FunD.bindsA (ps := ["_law_script"]) F_13 fun _ _ _ _ _ _ us hl => match us, hl with | [_], _ => rfl
  refine ⟨fd_13, fun s v => b s [v] rfl, fun base _ _ hSM => ?_⟩
  have C_law_dice : Cal P w K mg base 1 "_law_dice" ["_law_script", "_law_spot"] (spDice K) := ⟨_, _, (ok_law_dice F_0 B Z EF hSM), He.glo_ok X G (c.fact 18 (f := .glo "_law_dice") rfl), F_0.kp, (F_0.bindsN (ps := ["_law_script", "_law_spot"]) fun _ _ _ _ _ _ us hl => match us, hl with | [_, _], _ => rfl)⟩
  have C_law_roll : Cal P w K mg base 1 "_law_roll" ["_law_dice_here", "_law_total"] spRoll := ⟨_, _, (ok_law_roll F_1 B Z EF hSM), He.glo_ok X G (c.fact 19 (f := .glo "_law_roll") rfl), F_1.kp, (F_1.bindsN (ps := ["_law_dice_here", "_law_total"]) fun _ _ _ _ _ _ us hl => match us, hl with | [_, _], _ => rfl)⟩
  have C_law_pick : Cal P w K mg base 2 "_law_pick" ["_law_dice_here", "_law_items"] (spPick K) := ⟨_, _, (ok_law_pick F_2 B Z EF hSM C_law_roll), He.glo_ok X G (c.fact 20 (f := .glo "_law_pick") rfl), F_2.kp, (F_2.bindsN (ps := ["_law_dice_here", "_law_items"]) fun _ _ _ _ _ _ us hl => match us, hl with | [_, _], _ => rfl)⟩
  have C_ParseError___init__ : ∃ (fd : FuncData) (ps : List Str), FnOk P w K mg base CX0 1 (He.ma K (He.ga K "ParseError") "__init__") fd ps (spEI (He.ga K "ParseError") "line") ∧ Binds K fd ps [] := ⟨_, _, (ok_ParseError___init__ F_3 B Z EF hSM), (F_3.bindsN (ps := ["self", "line"]) fun _ _ _ _ _ _ us hl => match us, hl with | [_, _], _ => rfl)⟩
  have C_UnknownGame___init__ : ∃ (fd : FuncData) (ps : List Str), FnOk P w K mg base CX0 1 (He.ma K (He.ga K "UnknownGame") "__init__") fd ps (spEI (He.ga K "UnknownGame") "asked") ∧ Binds K fd ps [] := ⟨_, _, (ok_UnknownGame___init__ F_4 B Z EF hSM), (F_4.bindsN (ps := ["self", "asked"]) fun _ _ _ _ _ _ us hl => match us, hl with | [_, _], _ => rfl)⟩
  have C_NoRow___init__ : ∃ (fd : FuncData) (ps : List Str), FnOk P w K mg base CX0 1 (He.ma K (He.ga K "NoRow") "__init__") fd ps (spEI (He.ga K "NoRow") "wanted") ∧ Binds K fd ps [] := ⟨_, _, (ok_NoRow___init__ F_5 B Z EF hSM), (F_5.bindsN (ps := ["self", "wanted"]) fun _ _ _ _ _ _ us hl => match us, hl with | [_, _], _ => rfl)⟩
  have C_NothingToUndo___init__ : ∃ (fd : FuncData) (ps : List Str), FnOk P w K mg base CX0 1 (He.ma K (He.ga K "NothingToUndo") "__init__") fd ps (spEI (He.ga K "NothingToUndo") "amount") ∧ Binds K fd ps [] := ⟨_, _, (ok_NothingToUndo___init__ F_6 B Z EF hSM), (F_6.bindsN (ps := ["self", "amount"]) fun _ _ _ _ _ _ us hl => match us, hl with | [_, _], _ => rfl)⟩
  have C_TooMany___init__ : ∃ (fd : FuncData) (ps : List Str), FnOk P w K mg base CX0 1 (He.ma K (He.ga K "TooMany") "__init__") fd ps (spEI (He.ga K "TooMany") "limit") ∧ Binds K fd ps [] := ⟨_, _, (ok_TooMany___init__ F_7 B Z EF hSM), (F_7.bindsN (ps := ["self", "limit"]) fun _ _ _ _ _ _ us hl => match us, hl with | [_, _], _ => rfl)⟩
  have C_Refused___init__ : ∃ (fd : FuncData) (ps : List Str), FnOk P w K mg base CX0 1 (He.ma K (He.ga K "Refused") "__init__") fd ps (spEI (He.ga K "Refused") "cause") ∧ Binds K fd ps [] := ⟨_, _, (ok_Refused___init__ F_8 B Z EF hSM), (F_8.bindsN (ps := ["self", "cause"]) fun _ _ _ _ _ _ us hl => match us, hl with | [_, _], _ => rfl)⟩
  have C_InvalidNumber___init__ : ∃ (fd : FuncData) (ps : List Str), FnOk P w K mg base CX0 1 (He.ma K (He.ga K "InvalidNumber") "__init__") fd ps (spEI (He.ga K "InvalidNumber") "number") ∧ Binds K fd ps [] := ⟨_, _, (ok_InvalidNumber___init__ F_9 B Z EF hSM), (F_9.bindsN (ps := ["self", "number"]) fun _ _ _ _ _ _ us hl => match us, hl with | [_, _], _ => rfl)⟩
  have C_law_kinds : Cal P w K mg base 1 "_law_kinds" ["_law_error"] (spKin K) := ⟨_, _, (ok_law_kinds F_10 B Z EF hSM), He.glo_ok X G (c.fact 21 (f := .glo "_law_kinds") rfl), F_10.kp, (F_10.bindsN (ps := ["_law_error"]) fun _ _ _ _ _ _ us hl => match us, hl with | [_], _ => rfl)⟩
  have C_law_others : Cal P w K mg base 1 "_law_others" ["_law_error"] (spOth K) := ⟨_, _, (ok_law_others F_11 B Z EF hSM), He.glo_ok X G (c.fact 22 (f := .glo "_law_others") rfl), F_11.kp, (F_11.bindsN (ps := ["_law_error"]) fun _ _ _ _ _ _ us hl => match us, hl with | [_], _ => rfl)⟩
  have C_law_right : CalG P w K mg base 4 "_law_right" ["_law_dice_here"] spRight := ⟨_, _, (ok_law_right F_12 B Z EF hSM C_law_pick C_law_kinds C_law_others C_ParseError___init__ C_UnknownGame___init__ C_NoRow___init__ C_NothingToUndo___init__ C_TooMany___init__ C_Refused___init__ C_InvalidNumber___init__), He.glo_ok X G (c.fact 23 (f := .glo "_law_right") rfl), F_12.kp, (F_12.bindsN (ps := ["_law_dice_here"]) fun _ _ _ _ _ _ us hl => match us, hl with | [_], _ => rfl)⟩
  exact (ok_law F_13 B Z EF hSM C_law_dice C_law_right C_ParseError___init__ C_TooMany___init__)
end K00
open PySem PySem.W PySem.Calls PyProof.Rows
set_option maxHeartbeats 0 in
theorem PySem.Challenge.cw_wonbyturns_k00_errors_and_what_they_keep_holds : PySem.Challenge.rw_wonbyturns_k00_errors_and_what_they_keep.Holds := by
  w_on; o_law
  refine HandSHeadRun.head_imp (r := OpenLaw.row PySem.Challenge.rw_wonbyturns_k00_errors_and_what_they_keep) (q := view (OpenLaw.row PySem.Challenge.rw_wonbyturns_k00_errors_and_what_they_keep).prog [26]) (H := K00.hk) (ob := K00.ob) (M := 20000) (loose := K00.loose) (d := HandSHeadRun.topDef (OpenLaw.row PySem.Challenge.rw_wonbyturns_k00_errors_and_what_they_keep).prog 26) (kwd := []) K00.ob_eq K00.run
    (by kernel_rfl) (by kernel_rfl) (by kernel_rfl) (by rfl) (by first | assumption | decide +kernel) (by decide +kernel) ⟨rfl, rfl, rfl, rfl, rfl, by decide +kernel⟩ ?hw ?hc
  case hw => w_witness2
  case hc =>
    refine Ow.walk_ofG (l := PySem.Challenge.rw_wonbyturns_k00_errors_and_what_they_keep) (n := 63) (k := 5) (x := "_law_script") (CX := L2.CX0) rfl (by decide) (by kernel_rfl) ⟨rfl, by decide, by decide⟩ ?F (fun _ _ _ _ z => z)
    intro w mg fa h Y G hmg0
    obtain ⟨K, KX, c, cx, cs⟩ := Y
    have hmg : mg ("law" : PySem.Str) = some (.ref fa) := by
      have e : (HandSHeadRun.topDef (OpenLaw.row PySem.Challenge.rw_wonbyturns_k00_errors_and_what_they_keep).prog 26).name = ("law" : PySem.Str) := by kernel_rfl
      rw [← e]
      exact hmg0
    obtain ⟨fd, hb, hF⟩ := K00.facts (P := (PySem.Challenge.rw_wonbyturns_k00_errors_and_what_they_keep).prog) (w := w) KX G hmg c cx
    exact ⟨K, fd, _, KX, cs, hb, fun H a ns hl _ hS => ⟨a, ns, rfl, hS, hl, fun _ => rfl⟩, hF⟩
