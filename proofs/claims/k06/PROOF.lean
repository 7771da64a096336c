import PyProof.Rows.All
import Wide.All
import OpenK.AllK
import Wide.FinOn
import HandS.ForMost
import HandS.Wide
import HandS.IsInst
import HandS.Walk
import HandS.Defaults
import HandS.Head0
import HandS.Head1
import HandS.Head2
import HandS.HeadEnd
import HandS.HeadHook1
import HandS.HeadHook2
import HandS.OwnEq
import HandS.Property
import HandS.ClsMeth
import HandS.HeadNt
import HandS.Gcd
import HandS.CallLocal
import HandS.Codes
import KE.KOpsOwn
import KE.KCallOwn
import KE.KFmtOwn
import PyProof.InstNe
import PyProof.Rows.RuleN_abs
import HandS.Style
import HandS.Head3
import HandS.SortRule
import HandS.FStr
import HandS.RaiseMore
import HandS.Text
import KE.KIntText
import KE.IntTextText
import HandS.StrMore
import HandS.Exc
import HandS.ExcOwn
import HandS.ExcInit
import HandS.ExcField
import HandS.WordsExc
import HandS.TryOnly
import PySem.Challenge.RW_wonbyturns_k06_whole_texts_of_fractions
set_option Elab.async false
set_option linter.all false
set_option maxRecDepth 100000
set_option maxHeartbeats 4000000
/-! k06: texts of fractions -/
/-! My own rules beside the layer, and the reading's steps by name. -/
namespace Ow
open PySem PySem.Spec PyProof.Rows L2

/-! ### operations that the layer's rules do not reach -/
section
variable {X : Cx}
/-- a power of a great base -/
def CPowW (i j : Int) : Prop := 0 ≤ j ∧ (Builtin.Int.intBits i : Int) * j ≤ 2 ^ 27
theorem op_powW : OpR X (binaryOp .Pow) (rI CPowW fun i j => .int (i ^ j.toNat)) := opI fun _ _ _ _ _ _ _ hc q => pow_int hc.1 hc.2 q
/-- repr of a truth value -/
def rReprB : List V → Hp → VK → Prop := fun xs H Q => ∃ k : Bool, xs = [.bl k] ∧ Q (.str (if k then "True" else "False")) H
theorem c_reprB : CallR X (.builtin "repr") rReprB := by
  intro pins s σ H xs us Q I r h
  obtain ⟨k, rfl, q⟩ := h
  obtain ⟨u, rfl, rx⟩ := vals1 r
  cases (show u = Value.bool k from rx)
  exact PySem.P.repr_of_bool ⟨.str _, H, I.tok _, ⟨_, rfl⟩, q⟩
/-- the chrs of a text, one by one -/
def chrs (z : Str) : List V := z.cps.toList.map fun c => V.str ⟨#[c]⟩
/-- list(text) -/
def rListS : List V → Hp → VK → Prop := fun xs H Q => ∃ z : Str, xs = [.str z] ∧ z.cps.size ≤ 100000 ∧ ∀ p, H p = none → Q (.ref p) (upd H p (.lst (chrs z)))
theorem vals_chrs : ∀ (l : List Nat) (us : List Value), us.length = l.length → (∀ i, (h : i < l.length) → ∃ c t, l[i]? = some c ∧ us[i]? = some (Value.str ⟨#[c]⟩ t)) → Vals (l.map fun c => V.str ⟨#[c]⟩) us
  | [], [], _, _ => .nil
  | [], _ :: _, h, _ => by simp at h
  | _ :: _, [], h, _ => by simp at h
  | c :: l, u :: us, h, k => by
    obtain ⟨c', t, e1, e2⟩ := k 0 (by simp)
    simp at e1 e2
    subst e1
    subst e2
    refine .cons ⟨t, rfl⟩ (vals_chrs l us (by simpa using h) fun i hi => ?_)
    obtain ⟨c2, t2, e3, e4⟩ := k (i + 1) (by simpa using hi)
    exact ⟨c2, t2, by simpa using e3, by simpa using e4⟩
theorem c_listS (hc : X.calm = true) : CallR X (.type "list") rListS := by
  intro pins s σ H xs us Q I r h
  obtain ⟨z, rfl, hz, q⟩ := h
  obtain ⟨u, rfl, t, rfl⟩ := vals1 r
  have hh : X.A.handled = none := I.ok.hd hc
  refine call_list_str hh z t (fun h' tk acc' c' kp e it => ?_) (Nat.le_trans hz (by decide))
  refine ⟨.ref s.heap.objs.size, _, I.laid (t' := tk) kp (Nat.le_refl _) (show ObjOk X.prog X.w _ h' _ (.lst (chrs z)) from ?_), rfl, q _ (I.hok.fresh (Nat.le_refl _))⟩
  refine ⟨by unfold chrs; rw [List.length_map, Array.length_toList]; exact Nat.le_trans hz (by decide), acc'.toList, c', ?_, e⟩
  refine vals_chrs z.cps.toList acc'.toList (by rw [Array.length_toList, Array.length_toList, it.1]) fun i hi => ?_
  have hi2 : i < acc'.size := by
    rw [it.1]
    simpa using hi
  obtain ⟨c, u, e1, e2⟩ := it.2 i acc'[i] (by simp [hi2])
  exact ⟨c, u, by simpa using e1, by simp [hi2, e2]⟩
end

/-! ### readings by name: each is the reading's own sense, so that a step is found by its head -/
section
variable {σ : L2.St} {H : Hp} {Q : VK} {ta tb te : TE} {tr ts : TA} {n b c : L2.St → Hp → Prop} {rt : VK} {K : PySem.W.Frag}
theorem y_seq {t u : TS} (h : t ⟨u ⟨n, rt, b, c⟩, rt, b, c⟩ σ H) : tSeq t u ⟨n, rt, b, c⟩ σ H := h
theorem y_next (h : n σ H) : tNext ⟨n, rt, b, c⟩ σ H := h
theorem y_asg {g : TG} (h : te σ H fun x H1 => g x σ H1 n) : tAsg te g ⟨n, rt, b, c⟩ σ H := h
theorem y_name {i : Nat} {v : V} {R : L2.St → Hp → Prop} (h : R (σ.set i (some v)) H) : gName i v σ H R := h
theorem y_sub {to ti : TE} {t : TSet} {v : V} {R : L2.St → Hp → Prop} (h : to σ H fun o H1 => ti σ H1 fun i H2 => t o i v H2 fun H3 => R σ H3) : gSub to ti t v σ H R := h
theorem y_ret (h : te σ H rt) : tRet te ⟨n, rt, b, c⟩ σ H := h
theorem y_drop (h : te σ H fun _ H1 => n σ H1) : tDrop te ⟨n, rt, b, c⟩ σ H := h
theorem y_ifs {tc : TT} {t u : TS} (h : tc σ H fun k H1 => if k = true then t ⟨n, rt, b, c⟩ σ H1 else u ⟨n, rt, b, c⟩ σ H1) : tIfS tc t u ⟨n, rt, b, c⟩ σ H := h
theorem y_for {wi : TI} {g : TG} {t : TS} (h : wi σ H fun J H1 => ∃ W : Nat → Nat → L2.St → Hp → Prop, (∃ m, W 0 m σ H1) ∧ ∀ i m σ H, W i m σ H →
  (J.stop i H ∧ n σ H) ∨ (J.go i H ∧ ∃ N : L2.St → Hp → Prop, (∀ σ' H', N σ' H' → ∃ m', m' < m ∧ W (i + 1) m' σ' H') ∧ ∀ x H', J.yld i H x H' → g x σ H' fun σ2 H2 => t ⟨N, rt, n, N⟩ σ2 H2)) : tFor wi g t ⟨n, rt, b, c⟩ σ H := h
theorem y_var {i : Nat} {v : V} (e : σ[i]? = some (some v)) (h : Q v H) : tVar i σ H Q := ⟨v, e, h⟩
theorem y_var2 {i : Nat} (h : ∃ v, σ[i]? = some (some v) ∧ Q v H) : tVar i σ H Q := h
theorem y_con {v : V} (h : Q v H) : tC v σ H Q := h
theorem y_op {r : R2} (h : ta σ H fun x H1 => tb σ H1 fun y H2 => r x y H2 Q) : tOp r ta tb σ H Q := h
theorem y_un {r : V → Hp → VK → Prop} (h : ta σ H fun x H1 => r x H1 Q) : tUn r ta σ H Q := h
theorem y_nil {R : List V → Hp → Prop} (h : R [] H) : tNil σ H R := h
theorem y_cons {R : List V → Hp → Prop} (h : ta σ H fun x H1 => tr σ H1 fun xs H2 => R (x :: xs) H2) : tCons ta tr σ H R := h
theorem y_cb {r : List V → Hp → VK → Prop} (h : tr σ H fun vs H1 => r vs H1 Q) : tCB r tr σ H Q := h
theorem y_I0 {g : Int → Int → V} {i j : Int} (h : Q (g i j) H) : rI0 g (.int i) (.int j) H Q := ⟨i, j, rfl, rfl, h⟩
theorem y_I {C : Int → Int → Prop} {g : Int → Int → V} {i j : Int} (e : C i j) (h : Q (g i j) H) : rI C g (.int i) (.int j) H Q := ⟨i, j, rfl, rfl, e, h⟩
theorem y_test {R : Bool → Hp → Prop} (h : te σ H fun x H' => ∃ k, x = .bl k ∧ R k H') : tTest te σ H R := h
theorem y_B {R : Bool → Hp → Prop} (h : te σ H fun x H' => ∃ k, x = .bl k ∧ R k H') : tB te σ H R := h
theorem y_bl {k : Bool} {R : Bool → Prop} (h : R k) : ∃ k', V.bl k = .bl k' ∧ R k' := ⟨k, rfl, h⟩
theorem y_not {t : TT} {R : Bool → Hp → Prop} (h : t σ H fun k H1 => R (!k) H1) : tNot t σ H R := h
theorem y_and {t u : TT} {R : Bool → Hp → Prop} (h : t σ H fun k H1 => if k = true then u σ H1 R else R false H1) : tAnd t u σ H R := h
theorem y_or {t u : TT} {R : Bool → Hp → Prop} (h : t σ H fun k H1 => if k = true then R true H1 else u σ H1 R) : tOr t u σ H R := h
theorem y_if {t : TT} (h : t σ H fun k H1 => if k = true then ta σ H1 Q else tb σ H1 Q) : tIf t ta tb σ H Q := h
theorem y_chain {r r' : R2} (h : ta σ H fun x H1 => tb σ H1 fun y H2 => r x y H2 fun z H3 => ∃ k, z = .bl k ∧ (if k = true then te σ H3 fun w' H4 => r' y w' H4 Q else Q (.bl false) H3)) : tChain r r' ta tb te σ H Q := h
theorem y_andV (h : ta σ H fun x H1 => ∃ k, x = .bl k ∧ if k = true then tb σ H1 Q else Q (.bl false) H1) : tAndV ta tb σ H Q := h
theorem y_orV (h : ta σ H fun x H1 => ∃ k, x = .bl k ∧ if k = true then Q (.bl true) H1 else tb σ H1 Q) : tOrV ta tb σ H Q := h
theorem y_yes {R : Bool → Hp → Prop} (h : R true H) : tYes σ H R := h
theorem y_lst {t : TA} (h : t σ H fun xs H1 => xs.length ≤ sizeLine ∧ ∀ p, H1 p = none → Q (.ref p) (upd H1 p (.lst xs))) : tLst t σ H Q := h
theorem y_tup {t : TA} (h : t σ H fun xs H1 => xs.length ≤ sizeLine ∧ ∀ p, H1 p = none → Q (.ref p) (upd H1 p (.tup xs))) : tTup t σ H Q := h
theorem y_eqI {i j : Int} (h : Q (.bl (decide (i = j))) H) : rEq (.int i) (.int j) H Q := ⟨rfl, by
  have e : decide (V.int i = V.int j) = decide (i = j) := by
    rw [decide_eq_decide]
    exact ⟨fun z => V.int.inj z, fun z => by rw [z]⟩
  rw [e]
  exact h⟩
theorem y_neI {i j : Int} (h : Q (.bl (!decide (i = j))) H) : rNe (.int i) (.int j) H Q := ⟨rfl, by
  have e : decide (V.int i = V.int j) = decide (i = j) := by
    rw [decide_eq_decide]
    exact ⟨fun z => V.int.inj z, fun z => by rw [z]⟩
  rw [e]
  exact h⟩
theorem y_eqS {i j : Str} (h : Q (.bl (decide (i = j))) H) : rEq (.str i) (.str j) H Q := ⟨rfl, by
  have e : decide (V.str i = V.str j) = decide (i = j) := by
    rw [decide_eq_decide]
    exact ⟨fun z => V.str.inj z, fun z => by rw [z]⟩
  rw [e]
  exact h⟩
theorem y_neS {i j : Str} (h : Q (.bl (!decide (i = j))) H) : rNe (.str i) (.str j) H Q := ⟨rfl, by
  have e : decide (V.str i = V.str j) = decide (i = j) := by
    rw [decide_eq_decide]
    exact ⟨fun z => V.str.inj z, fun z => by rw [z]⟩
  rw [e]
  exact h⟩
/-- calls, by values -/
def rIntI : List V → Hp → VK → Prop := fun xs H Q => (∃ i, xs = [.int i] ∧ Q (.int i) H) ∨ ∃ k, xs = [.bl k] ∧ Q (.int (if k then 1 else 0)) H
theorem c_int {X : Cx} : CallR X (.type "int") rIntI := call_int1
theorem y_intI {i : Int} (h : Q (.int i) H) : rIntI [.int i] H Q := .inl ⟨i, rfl, h⟩
theorem y_intB {k : Bool} (h : Q (.int (if k then 1 else 0)) H) : rIntI [.bl k] H Q := .inr ⟨k, rfl, h⟩
def rAbs : List V → Hp → VK → Prop := fun xs H Q => ∃ i, xs = [.int i] ∧ Q (.int (if i < 0 then -i else i)) H
theorem c_abs {X : Cx} : CallR X (.builtin "abs") rAbs := call_abs
theorem y_abs {i : Int} (h : Q (.int (i.natAbs : Int)) H) : rAbs [.int i] H Q := ⟨i, rfl, by
  have e : (if i < 0 then -i else i) = (i.natAbs : Int) := by split <;> omega
  rw [e]
  exact h⟩
def rMax2 : List V → Hp → VK → Prop := fun xs H Q => ∃ i j, xs = [.int i, .int j] ∧ Q (.int (if j > i then j else i)) H
theorem c_max2 {X : Cx} (hc : X.calm = true) : CallR X (.builtin "max") rMax2 := call_max2 hc
theorem y_max2 {i j : Int} (h : Q (.int (max i j)) H) : rMax2 [.int i, .int j] H Q := ⟨i, j, rfl, by
  have e : (if j > i then j else i) = max i j := by split <;> omega
  rw [e]
  exact h⟩
def rMin2 : List V → Hp → VK → Prop := fun xs H Q => ∃ i j, xs = [.int i, .int j] ∧ Q (.int (if j < i then j else i)) H
theorem c_min2 {X : Cx} (hc : X.calm = true) : CallR X (.builtin "min") rMin2 := call_min2 hc
theorem y_min2 {i j : Int} (h : Q (.int (min i j)) H) : rMin2 [.int i, .int j] H Q := ⟨i, j, rfl, by
  have e : (if j < i then j else i) = min i j := by split <;> omega
  rw [e]
  exact h⟩
def rLenQ (K : PySem.W.Frag) : List V → Hp → VK → Prop := fun xs H Q => ∃ p ys, xs = [.ref p] ∧ (SqL K H p ys ∨ SqT K H p ys) ∧ Q (.int ys.length) H
theorem c_lenQ {X : Cx} {K : PySem.W.Frag} (h : X.K = K := by rfl) : CallR X (.builtin "len") (rLenQ K) := h ▸ call_len_seq
theorem y_lenL {p : Addr} {ys : List V} (e : SqL K H p ys) (h : Q (.int ys.length) H) : rLenQ K [.ref p] H Q := ⟨p, ys, rfl, .inl e, h⟩
theorem y_lenT {p : Addr} {ys : List V} (e : SqT K H p ys) (h : Q (.int ys.length) H) : rLenQ K [.ref p] H Q := ⟨p, ys, rfl, .inr e, h⟩
def rLenS : List V → Hp → VK → Prop := fun xs H Q => ∃ z, xs = [.str z] ∧ z.length ≤ sizeLine ∧ Q (.int z.length) H
theorem c_lenS {X : Cx} : CallR X (.builtin "len") rLenS := call_len_str
theorem y_lenS {z : Str} (e : z.length ≤ 100000) (h : Q (.int z.length) H) : rLenS [.str z] H Q := ⟨z, rfl, Nat.le_trans e (by decide), h⟩
theorem y_reprB {k : Bool} (h : Q (.str (if k then "True" else "False")) H) : rReprB [.bl k] H Q := ⟨k, rfl, h⟩
theorem y_listS {z : Str} (e : z.cps.size ≤ 100000) (h : ∀ p, H p = none → Q (.ref p) (upd H p (.lst (chrs z)))) : rListS [.str z] H Q := ⟨z, rfl, e, h⟩
def rListQ (K : PySem.W.Frag) : List V → Hp → VK → Prop := fun xs H Q => ∃ p ys, xs = [.ref p] ∧ (SqL K H p ys ∨ SqT K H p ys) ∧ ∀ l, H l = none → Q (.ref l) (upd H l (.lst ys))
theorem c_listQ {X : Cx} {K : PySem.W.Frag} (h : X.K = K := by rfl) : CallR X (.type "list") (rListQ K) := h ▸ call_list_of
theorem y_listL {p : Addr} {ys : List V} (e : SqL K H p ys) (h : ∀ l, H l = none → Q (.ref l) (upd H l (.lst ys))) : rListQ K [.ref p] H Q := ⟨p, ys, rfl, .inl e, h⟩
theorem y_listT {p : Addr} {ys : List V} (e : SqT K H p ys) (h : ∀ l, H l = none → Q (.ref l) (upd H l (.lst ys))) : rListQ K [.ref p] H Q := ⟨p, ys, rfl, .inr e, h⟩
theorem y_ixL {p : Addr} {xs : List V} {i : Int} {v : V} (e : SqL K H p xs) (a : atI xs i = some v) (h : Q v H) : rIxL K (.ref p) (.int i) H Q := ⟨p, xs, i, v, rfl, rfl, e, a, h⟩
theorem y_setL {p : Addr} {xs : List V} {k : Int} {j : Nat} {v : V} {R : Hp → Prop} (e : H p = some (.lst xs)) (a : ixN xs.length k = some j) (h : R (upd H p (.lst (xs.set j v)))) : rSetL (.ref p) (.int k) v H R := ⟨p, xs, k, j, rfl, rfl, e, a, h⟩
theorem y_rng1 {t : TA} {R : It → Hp → Prop} (h : t σ H fun vs H1 => ∃ j : Int, vs = [.int j] ∧ -(2 ^ 62) ≤ j ∧ j < 2 ^ 62 ∧ R (Itr 0 j.toNat) H1) : iRng1 t σ H R := h
theorem y_iStr {R : It → Hp → Prop} (h : te σ H fun v H1 => ∃ x, v = .str x ∧ R (Its x) H1) : iStr te σ H R := h
theorem y_iList {R : It → Hp → Prop} (h : te σ H fun x H1 => ∃ a, x = .ref a ∧ (∃ xs, SqL K H1 a xs) ∧ R (Itl K a) H1) : iList K te σ H R := h
end

/-! ### a def that is called: where it stands, how its arguments bind, what it promises -/
structure Cal (P : Program) (w : World) (K : PySem.W.Frag) (mg : Str → Option Value) (base : Heap) (k : Nat) (x : Str) (ps : List Str) (sp : Sp) : Prop where
  ex : ∃ (f : Addr) (fd : FuncData), FnOk P w K mg base CX0 k f fd ps sp ∧ mg x = some (.ref f) ∧ PySem.W.keepIn K (.ref f) = true ∧ Binds K fd ps []
/-- its call: the arguments, then its promise -/
def tFn (sp : Sp) (t : TA) : TE := fun σ H Q => t σ H fun vs H1 => sp vs H1 Q E0
theorem y_fn {σ : L2.St} {H : Hp} {Q : VK} {sp : Sp} {t : TA} (h : t σ H fun vs H1 => sp vs H1 Q E0) : tFn sp t σ H Q := h
theorem pe_fn {X : Cx} {k : Nat} {x : Str} {ps : List Str} {sp : Sp} {p pos : Pos} {e : Expr} {es : List Expr} {t : TA} (c : Cal X.prog X.w X.K X.mg X.base k x ps sp) (hr : Room k X.A) (hg : Gl X x) (ha : PA X (e :: es) t) (hdb : (x == ("__debug__" : Str)) = false := by decide)
    (he : starEach (e :: es) X.env = (false, eval e X.env) :: starEach es X.env := by rfl) (hpl : (backTo pos (starEach es X.env)).any (·.1) = false := by rfl) : PE X (.Call (.Name x p) (e :: es) [] pos) (tFn sp t) := by
  obtain ⟨f, fd, F, hm, hk, hb⟩ := c.ex
  have h := pe_call (p := p) (pos := pos) F hr hg hm hk hb .nil pass0 ha hdb he hpl
  have e : tCall sp [] E0 t = tFn sp t := by
    funext σ H Q
    show t σ H (fun vs H1 => sp (vs ++ []) H1 Q E0) = t σ H fun vs H1 => sp vs H1 Q E0
    congr 1
    funext vs H1
    rw [List.append_nil]
  rw [← e]
  exact h
theorem pe_globI {X : Cx} {x : Str} {i : Int} {pos : Pos} (hg : Gl X x) (hm : ∃ t, X.mg x = some (.int i t)) (hd : (x == ("__debug__" : Str)) = false := by decide) : PE X (.Name x pos) (tC (.int i)) := by
  obtain ⟨t, e⟩ := hm
  exact pe_glob hg e ⟨t, rfl⟩ hd

/-! ### heaps: all that stands but d stands as before -/
def Fr (d : Addr) (H H' : Hp) : Prop := ∀ b o, H b = some o → b ≠ d → H' b = some o
theorem Fr.refl (d : Addr) (H : Hp) : Fr d H H := fun _ _ h _ => h
theorem Fr.trans {d : Addr} {H H1 H2 : Hp} (a : Fr d H H1) (b : Fr d H1 H2) : Fr d H H2 := fun x o h n => b x o (a x o h n) n
theorem Fr.self {d : Addr} {H : Hp} {o : HO} : Fr d H (upd H d o) := fun b u h n => by
  rw [upd_ne n]
  exact h
theorem Fr.new {d p : Addr} {H : Hp} {o : HO} (e : H p = none) : Fr d H (upd H p o) := fun b u h n => by
  rw [upd_ne (ne_of_none h e)]
  exact h
/-- an object that the first heap does not know may change -/
theorem Fr.mut {d p : Addr} {H H1 : Hp} {o : HO} (a : Fr d H H1) (e : H p = none) : Fr d H (upd H1 p o) := fun b u h n => by
  rw [upd_ne (ne_of_none h e)]
  exact a b u h n
theorem Fr.of_same {d : Addr} {H H' : Hp} (a : Same H H') : Fr d H H' := fun b o h _ => a b o h
theorem Fr.lst {d a : Addr} {H H' : Hp} {K : PySem.W.Frag} {xs : List V} (f : Fr d H H') (n : a ≠ d) (h : SqL K H a xs) : SqL K H' a xs := by
  rcases h with (h | ⟨o, h⟩) | h
  · exact .inl (.inl (f _ _ h n))
  · exact .inl (.inr ⟨o, f _ _ h n⟩)
  · exact .inr h
theorem Fr.tup {d a : Addr} {H H' : Hp} {K : PySem.W.Frag} {xs : List V} (f : Fr d H H') (n : a ≠ d) (h : SqT K H a xs) : SqT K H' a xs := by
  rcases h with (h | ⟨o, h⟩) | h
  · exact .inl (.inl (f _ _ h n))
  · exact .inl (.inr ⟨o, f _ _ h n⟩)
  · exact .inr h
/-- what was there ahead of d is there behind -/
theorem same_fr {H0 H H' : Hp} {d : Addr} (s : Same H0 H) (f : Fr d H H') (e : H0 d = none) : Same H0 H' := fun b o h => f b o (s b o h) (ne_of_none h e)
theorem same_new {H : Hp} {p : Addr} {o : HO} (h : H p = none) : Same H (upd H p o) := fun b x e => by
  rw [upd_ne (ne_of_none e h)]
  exact e
theorem same_mut {H H1 : Hp} {p : Addr} {o : HO} (a : Same H H1) (h : H p = none) : Same H (upd H1 p o) := fun b x e => by
  rw [upd_ne (ne_of_none e h)]
  exact a b x e
theorem free_fr {d p : Addr} {H H' : Hp} (f : Fr d H H') (e : H' p = none) (n : p ≠ d) : H p = none := by
  cases q : H p with
  | none => rfl
  | some o =>
    rw [f p o q n] at e
    cases e
theorem sql {K : PySem.W.Frag} {H : Hp} {a : Addr} {xs : List V} (h : H a = some (.lst xs)) : SqL K H a xs := .inl (.inl h)
theorem sqt {K : PySem.W.Frag} {H : Hp} {a : Addr} {xs : List V} (h : H a = some (.tup xs)) : SqT K H a xs := .inl (.inl h)
/-! ### the dice: a list of three numbers that stands at d -/
def DiceAt (H : Hp) (d : Addr) : Prop := ∃ g e c : Int, H d = some (.lst [.int g, .int e, .int c])
theorem DiceAt.new {H : Hp} {d p : Addr} {o : HO} (h : DiceAt H d) (e : H p = none) : DiceAt (upd H p o) d := by
  obtain ⟨g, x, c, h⟩ := h
  exact ⟨g, x, c, by rw [upd_ne (ne_of_none h e)]; exact h⟩
theorem DiceAt.mut {H : Hp} {d p : Addr} {o : HO} (h : DiceAt H d) (e : p ≠ d) : DiceAt (upd H p o) d := by
  obtain ⟨g, x, c, h⟩ := h
  exact ⟨g, x, c, by rw [upd_ne e.symm]; exact h⟩
theorem DiceAt.same {H H' : Hp} {d : Addr} (h : DiceAt H d) (s : Same H H') : DiceAt H' d := by
  obtain ⟨g, x, c, h⟩ := h
  exact ⟨g, x, c, s _ _ h⟩
theorem DiceAt.ne {H : Hp} {d p : Addr} (h : DiceAt H d) (e : H p = none) : p ≠ d := by
  obtain ⟨g, x, c, h⟩ := h
  exact fun z => by
    rw [z, h] at e
    cases e
def spDice (K : PySem.W.Frag) : Sp := fun vs H Q _ => ∃ (a : Addr) (i : Int) (ns : List Int), vs = [.ref a, .int i] ∧ SqL K H a (ns.map V.int) ∧ 0 ≤ i ∧ i ≤ 1000 ∧ ∀ d H', H d = none → DiceAt H' d → Same H H' → Q (.ref d) H'
def spRoll : Sp := fun vs H Q _ => ∃ (d : Addr) (t : Int), vs = [.ref d, .int t] ∧ DiceAt H d ∧ 0 < t ∧ t.natAbs < 2 ^ 4000 ∧ ∀ n H', 0 ≤ n → n < t → DiceAt H' d → Fr d H H' → Q (.int n) H'
def spPick (K : PySem.W.Frag) : Sp := fun vs H Q _ => ∃ (d l : Addr) (ys : List V), vs = [.ref d, .ref l] ∧ DiceAt H d ∧ SqL K H l ys ∧ l ≠ d ∧ 0 < ys.length ∧ ys.length ≤ 100000 ∧ ∀ v H', v ∈ ys → DiceAt H' d → Fr d H H' → Q v H'
theorem big_div {t : Int} (h : 0 < t) (b : t.natAbs < 2 ^ 4000) {i : Int} : CDivW i t := wide_div h b (by decide) (by decide)
theorem getD_at {α : Type} {l : List α} {n : Int} (h0 : 0 ≤ n) (h1 : n < l.length) : ∃ x, l[n.toNat]? = some x ∧ x ∈ l := by
  have hn : n.toNat < l.length := by omega
  exact ⟨l[n.toNat], by simp [hn], List.getElem_mem hn⟩
theorem at_nat {xs : List V} {n : Int} {v : V} (h0 : 0 ≤ n) (h : xs[n.toNat]? = some v) : atI xs n = some v := at_of (j := n.toNat) (by omega) h
/-- both ways of an if without else come together: J is what follows, for any state of the form F x -/
theorem y_join {α : Type} {σ : L2.St} {H : Hp} {k : Bool} {t : TS} {n b c : L2.St → Hp → Prop} {rt : VK} (F : α → L2.St) (x : α) (e : σ = F x) (hJ : ∀ x, n (F x) H) (h : k = true → (∀ x, n (F x) H) → t ⟨n, rt, b, c⟩ σ H) :
    if k = true then t ⟨n, rt, b, c⟩ σ H else tNext ⟨n, rt, b, c⟩ σ H := by
  cases k with
  | true => exact iteT (h rfl hJ)
  | false => exact iteF (show n σ H by rw [e]; exact hJ x)
theorem y_ite {k : Bool} {A B : Prop} (h1 : k = true → A) (h2 : k = false → B) : if k = true then A else B := by
  cases k with
  | true => exact iteT (h1 rfl)
  | false => exact iteF (h2 rfl)
/-! ### rules with the written part by its own name (a comprehension's block has it by another) -/
section
variable {X : Cx} {K : PySem.W.Frag}
theorem x_list (h : X.K = K := by rfl) : IxR X (rIxL K) := h ▸ ix_list
theorem x_tup (h : X.K = K := by rfl) : IxR X (rIxT K) := h ▸ ix_tup
theorem w_list {tg l : Expr} {tl : TE} (hl : PE X l tl) (h : X.K = K := by rfl) : PI X tg l (iList K tl) := h ▸ pi_list hl
theorem w_tup {tg l : Expr} {tl : TE} (hl : PE X l tl) (h : X.K = K := by rfl) : PI X tg l (iTup K tl) := h ▸ pi_tup hl
theorem c_isi (h : X.K = K := by rfl) : CallR X (.builtin "isinstance") (rIsi K) := h ▸ call_isi
theorem c_all (hc : X.calm = true) (h : X.K = K := by rfl) : CallR X (.builtin "all") (rAll K) := h ▸ cr_all hc
theorem o_eqD (hu : X.A.units + 64 < cLine) (h : X.K = K := by rfl) : OpR X (compareOp .Eq) (rEqD K) := h ▸ op_eqD hu
theorem o_neD (hu : X.A.units + 64 < cLine) (h : X.K = K := by rfl) : OpR X (compareOp .NotEq) (rNeD K) := h ▸ op_neD hu
theorem e_bm {o e : Expr} {es : List Expr} {to : TE} {t : TA} {name : Str} {apos cpos : Pos} {T id : String} {r : V → List V → Hp → VK → Prop} (pa : PlainAttrs T) (slot : Slot T name id) (hty : typeOf (.builtin id) = pure (.type "method_descriptor")) (hm : MtR X id r) (ho : PE X o to) (ha : PA X (e :: es) t) (h : X.K = K := by rfl)
    (hbase : attributeBase o name X.env (eval o X.env) = eval o X.env := by rfl)
    (hfew : ((backTo cpos (starEach (e :: es) X.env)).all (fun x => !x.1) && (backToKw cpos (keywordEach [] X.env)).all (fun x => x.1.isSome)
      && decide ((e :: es).length + ([] : List Keyword).length + (if ([] : List Keyword).isEmpty then 0 else 1) < 30)) = true := by rfl)
    (hline : (apos.endLine == cpos.line) = true := by rfl) (hs : starEach (e :: es) X.env = (false, eval e X.env) :: starEach es X.env := by rfl) (hplain : (backTo cpos (starEach es X.env)).any (·.1) = false := by rfl) :
    PE X (.Call (.Attribute o name apos) (e :: es) [] cpos) (tBM K T r to t) := h ▸ pe_bm pa slot hty hm ho ha hbase hfew hline hs hplain
theorem y_bm {σ : L2.St} {H : Hp} {Q : VK} {T : String} {r : V → List V → Hp → VK → Prop} {to : TE} {t : TA} (h : to σ H fun x H1 => tyV K T x H1 ∧ t σ H1 fun xs H2 => r x xs H2 Q) : tBM K T r to t σ H Q := h
theorem y_m1 {σ : L2.St} {H : Hp} {Q : VK} {r : V → List V → Hp → VK → Prop} {to te : TE} (h : to σ H fun x H1 => (∃ a, x = .str a) ∧ te σ H1 fun y H2 => r x [y] H2 Q) : tM1 r to te σ H Q := h
theorem ty_l {H : Hp} {p : Addr} {xs : List V} (h : H p = some (.lst xs)) : tyV K "list" (.ref p) H := .inl ⟨rfl, _, .inl (.inl h)⟩
end
theorem y_lc {σ : L2.St} {H : Hp} {Q : VK} {wi : TI} {g : TG} {tt : TT} {te : TE} {vs : List Nat} (h : wi σ H fun J H1 => ∀ D, H1 D = none → ∃ W : Nat → Nat → Hp → Prop, (∃ m, W 0 m (upd H1 D (.lst []))) ∧ ∀ i m H, W i m H →
  (J.stop i H ∧ Q (.ref D) H) ∨ (J.go i H ∧ ∃ Nx : Hp → Prop, (∀ H', Nx H' → ∃ m', m' < m ∧ W (i + 1) m' H') ∧ ∀ x H', J.yld i H x H' → g x (wipe σ vs) H' fun σ2 H2 => wipe σ2 vs = wipe σ vs ∧ tt σ2 H2 fun b H3 =>
    if b = true then te σ2 H3 fun y H4 => ∃ acc, H4 D = some (.lst acc) ∧ acc.length < sizeLine ∧ Nx (upd H4 D (.lst (acc ++ [y]))) else Nx H3)) : tLc wi g tt te vs σ H Q := h
theorem ix_seq {i : Int} {n : Nat} (h0 : 0 ≤ i) (h1 : i < n) : seqIndex? i n = some i.toNat := by
  unfold seqIndex?
  have e : ¬ i < 0 := by omega
  simp [e, h0, h1]
theorem big_of {t : Int} (h : t.natAbs ≤ 1000000) : t.natAbs < 2 ^ 4000 := Nat.lt_of_le_of_lt h (by decide +kernel)
theorem sz_le {n : Nat} (h : n ≤ 100000) : n ≤ sizeLine := Nat.le_trans h (by decide)
theorem sz_lt {n : Nat} (h : n < 100000) : n < sizeLine := Nat.lt_of_lt_of_le h (by decide)
theorem y_isi {H : Hp} {Q : VK} {K : PySem.W.Frag} {x : V} {t : Value} {T : String} {k : Bool} (ty : TyX K H x t) (e : PySem.W.kitOne K t (.type T) = some k) (h : Q (.bl k) H) : rIsi K [x, .ty T] H Q := ⟨x, .ty T, t, .type T, k, rfl, .ty T, ty, e, h⟩
/-! ### join of texts -/
def rJoin (K : PySem.W.Frag) : V → List V → Hp → VK → Prop := fun x xs H Q => ∃ a p, ∃ ys : List Str, x = .str a ∧ xs = [.ref p] ∧ (SqL K H p (ys.map V.str) ∨ SqT K H p (ys.map V.str)) ∧ (ys.map (·.length)).sum + ys.length * a.length ≤ 16777216 ∧ Q (.str (Txt.join a ys)) H
theorem e_join {X : Cx} {K : PySem.W.Frag} {o e : Expr} {to te : TE} {apos pos : Pos} (ho : PE X o to) (he : PE X e te) (h : X.K = K := by rfl) (hs : starEach [e] X.env = [(false, eval e X.env)] := by rfl) (hbase : attributeBase o "join" X.env (eval o X.env) = eval o X.env := by rfl) (hline : (apos.endLine == pos.line) = true := by rfl) :
    PE X (.Call (.Attribute o "join" apos) [e] [] pos) (tM1 (rJoin K) to te) := by
  subst h
  exact pe_join ho he hs hbase hline
theorem tl_flat : ∀ ps : List (List Nat), TL.joinL [] ps = ps.flatten
  | [] => rfl
  | [p] => by simp [TL.joinL]
  | p :: q :: r => by
    show p ++ ([] ++ TL.joinL [] (q :: r)) = _
    rw [tl_flat (q :: r), List.nil_append]
    rfl
theorem join_nil (ys : List Str) : (Txt.join "" ys).cps.toList = (ys.map fun y => y.cps.toList).flatten := by
  have e : Txt.join "" ys = Str.join "" ys := StrLaws.glued_eq_join "" ys
  rw [e]
  have h := TL.tl_join "" ys
  have z : TL.tl "" = [] := by decide +kernel
  rw [z, tl_flat] at h
  exact h
theorem y_t {k : Bool} {A B : Prop} (e : k = true) (h : A) : if k = true then A else B := by
  rw [e]
  exact iteT h
theorem y_f {k : Bool} {A B : Prop} (e : k = false) (h : B) : if k = true then A else B := by
  rw [e]
  exact iteF h
/-- a for over a range, what stands behind it told part by part -/
theorem y_forR {lo : Int} {m : Nat} {g : TG} {t : TS} {n b c : L2.St → Hp → Prop} {rt : VK} {σ : L2.St} {H : Hp} (Pv : Nat → L2.St → Hp → Prop) (h0 : Pv 0 σ H)
    (hs : ∀ i σ H, i < m → Pv i σ H → g (.int (lo + i)) σ H fun σ2 H2 => t ⟨Pv (i + 1), rt, n, Pv (i + 1)⟩ σ2 H2) (hd : ∀ σ H, Pv m σ H → n σ H) :
    ∃ W : Nat → Nat → L2.St → Hp → Prop, (∃ m, W 0 m σ H) ∧ ∀ i k σ H, W i k σ H →
      ((Itr lo m).stop i H ∧ n σ H) ∨ ((Itr lo m).go i H ∧ ∃ N : L2.St → Hp → Prop, (∀ σ' H', N σ' H' → ∃ m', m' < k ∧ W (i + 1) m' σ' H') ∧ ∀ x H', (Itr lo m).yld i H x H' → g x σ H' fun σ2 H2 => t ⟨N, rt, n, N⟩ σ2 H2) :=
  for_range (D := ⟨n, rt, b, c⟩) Pv h0 hs hd
theorem y_rU {g : Int → V} {i : Int} {H : Hp} {Q : VK} (h : Q (g i) H) : rU g (.int i) H Q := ⟨i, rfl, h⟩
theorem y_ixT {p : Addr} {xs : List V} {i : Int} {v : V} {H : Hp} {Q : VK} {K : PySem.W.Frag} (e : SqT K H p xs) (a : atI xs i = some v) (h : Q v H) : rIxT K (.ref p) (.int i) H Q := ⟨p, xs, i, v, rfl, rfl, e, a, h⟩
/-- x = e; rest: the rest once, for all that P says of the value -/
theorem y_seqAsg {te : TE} {i : Nat} {u : TS} {n b c : L2.St → Hp → Prop} {rt : VK} {σ : L2.St} {H : Hp} (P : V → Hp → Prop) (rest : ∀ v H1, P v H1 → u ⟨n, rt, b, c⟩ (σ.set i (some v)) H1)
    (h : (∀ v H1, P v H1 → u ⟨n, rt, b, c⟩ (σ.set i (some v)) H1) → te σ H (fun v H1 => u ⟨n, rt, b, c⟩ (σ.set i (some v)) H1)) : tSeq (tAsg te (gName i)) u ⟨n, rt, b, c⟩ σ H := h rest
end Ow
/-! Operators upon instances of the text's own classes: the special method's promise. -/
namespace Ow
open PySem PySem.Spec PyProof.Rows L2
section
variable {X : Cx} {CX : CXT} {k : Nat} {C f : Addr} {fd : FuncData} {ps : List Str} {sp : Sp} {E : XK}
/-- a def called from within a built-in, with room -/
theorem run_sub {A : Around} {pins : List (Addr × Obj)} {s : Shared} {σ : L2.St} {H : Hp} {Q : VK} {us : List Value} {vs : List V} (F : FnOk X.prog X.w X.K X.mg X.base CX k f fd ps sp) (sb : Sub X k A) (hb : Binds X.K fd ps []) (hx : Passes CX X E)
    (I : Inv X pins σ H s) (r : Vals vs us) (h : sp vs H Q E) : wpAny (model X.prog X.w) A (call (.ref f) us) (EP X pins σ Q) X.xe s := by
  have e0 : Env0 X.prog X.w X.K X.mg X.base A X.stack s H := by
    have e := I.env0
    exact ⟨by rw [sb.fr]; exact e.frames, e.mod, e.bs, e.bsz, e.funs, e.frf, e.hok, e.bare⟩
  have hl := F.len _ _ _ _ h
  have hl2 : us.length = ps.length := by rw [← r.length]; exact hl
  refine wpAny_call (codeAny_mono (F.run A X.stack s H ⟨us, []⟩ us vs Q E sb.room e0 (by
    have := hb s us I.kIn (by simpa using hl2)
    simpa using this) r h) fun r s' hq => ?_)
  cases r with
  | error e => exact hx pins σ H s e s' I hq
  | ok fl =>
    cases fl with
    | ret w =>
      obtain ⟨z, H', I', rz, q⟩ := I.after hq
      exact ⟨z, H', I', rz, q⟩
    | next => exact False.elim hq
    | brk => exact False.elim hq
    | cont => exact False.elim hq
theorem sub_here (hr : Room k X.A) : Sub X k X.A := ⟨hr, rfl⟩
theorem back_of {Q : Value → Shared → Prop} {z : V} {v : Value} {s' : Shared} (r : RelV z v) (h : Q v s') : PySem.W.CmpBack Q v s' := by
  cases v with
  | notImplemented =>
    exfalso
    cases z <;> first
      | (cases (show Value.notImplemented = _ from r); done)
      | (obtain ⟨t, e⟩ := (show ∃ t, Value.notImplemented = _ from r); cases e)
  | _ => exact h
/-- the class (or one above it) has the name as the def at f -/
structure Spc (K : PySem.W.Frag) (C : Addr) (m : Str) (f : Addr) : Prop where
  at_ : PySem.W.findIn K (.ref C) m = some (some (.ref f))
  fn : PySem.W.isFn K (.ref f) = true
/-- both operands instances of the class -/
def rOwn2 (C : Addr) (sp : Sp) : R2 := fun x y H Q => ∃ a b dx dy fs gs, x = .ref a ∧ y = .ref b ∧ H a = some (.ins C dx fs) ∧ H b = some (.ins C dy gs) ∧ sp [.ref a, .ref b] H Q E0
/-- the right operand an int -/
def rOwnI (C : Addr) (sp : Sp) : R2 := fun x y H Q => ∃ a dx fs i, x = .ref a ∧ y = .int i ∧ H a = some (.ins C dx fs) ∧ sp [.ref a, .int i] H Q E0
def rOwn1 (C : Addr) (sp : Sp) : V → Hp → VK → Prop := fun x H Q => ∃ a dx fs, x = .ref a ∧ H a = some (.ins C dx fs) ∧ sp [.ref a] H Q E0
theorem inst_at {pins : List (Addr × Obj)} {s : Shared} {σ : L2.St} {H : Hp} {a dx : Addr} {fs : List (Str × V)} (I : Inv X pins σ H s) (ha : H a = some (.ins C dx fs)) : ∃ ox od, PySem.W.InstAt s.heap a ox C (some od) := by
  obtain ⟨mA, J, _⟩ := ins_get I.hok ha
  obtain ⟨od, J, _⟩ := J.look
  exact ⟨_, _, J⟩
theorem o_own2 {op : Operator} (F : FnOk X.prog X.w X.K X.mg X.base CX0 k f fd ps sp) (hr : Room k X.A) (hb : Binds X.K fd ps []) (hc : PySem.W.selfFirst X.K C = true) (M : Spc X.K C (PySem.dunder op.info.2) f) : OpR X (binaryOp op) (rOwn2 C sp) := by
  intro pins s σ H x y v u Q I rx ry h
  obtain ⟨a, b, dx, dy, fs, gs, rfl, rfl, ha, hb', hs⟩ := h
  cases rx
  cases ry
  obtain ⟨ox, od, J⟩ := inst_at I ha
  obtain ⟨oy, oe, J'⟩ := inst_at I hb'
  obtain ⟨m, hF⟩ := I.fr
  refine PySem.W.binop_K hF I.ok.mod.kin J J'.type hc M.at_ M.fn ?_
  refine wpAny_mono (run_sub (vs := [.ref a, .ref b]) F (sub_here hr) hb pass0 I (.cons rfl (.cons rfl .nil)) hs) (fun v s' hv => ?_) fun _ _ e => e
  obtain ⟨z, H', I', rz, q⟩ := hv
  exact back_of rz ⟨z, H', I', rz, q⟩
/-- what is asked of int and the class, for an operator -/
structure IntSide (K : PySem.W.Frag) (C : Addr) (nm : String) : Prop where
  hr : PySem.W.findIn K (.ref C) (dunderR nm) = some none
  h1 : ∃ fo, PySem.W.findIn K (.type "int") (PySem.dunder nm) = some fo
  h2 : ∃ ro, PySem.W.findIn K (.type "int") (dunderR nm) = some ro
  sub : PySem.W.subIn K (.type "int") (.ref C) = some false
theorem o_ownI {op : Operator} (F : FnOk X.prog X.w X.K X.mg X.base CX0 k f fd ps sp) (hr : Room k X.A) (hb : Binds X.K fd ps []) (hc : PySem.W.selfFirst X.K C = true) (M : Spc X.K C (PySem.dunder op.info.2) f) (S : IntSide X.K C op.info.2) : OpR X (binaryOp op) (rOwnI C sp) := by
  intro pins s σ H x y v u Q I rx ry h
  obtain ⟨a, dx, fs, i, rfl, rfl, ha, hs⟩ := h
  cases rx
  obtain ⟨t, rfl⟩ := (show ∃ t, u = Value.int i t from ry)
  obtain ⟨ox, od, J⟩ := inst_at I ha
  obtain ⟨m, hF⟩ := I.fr
  obtain ⟨fo, h1⟩ := S.h1
  obtain ⟨ro, h2⟩ := S.h2
  refine PySem.W.ksp_binT (T := "int") hF I.ok.mod.kin J rfl hc M.at_ M.fn S.hr (.inl rfl) h1 h2 S.sub ?_
  refine wpAny_mono (run_sub (vs := [.ref a, .int i]) F (sub_here hr) hb pass0 I (.cons rfl (.cons ⟨t, rfl⟩ .nil)) hs) (fun v s' hv => ?_) fun _ _ e => e
  obtain ⟨z, H', I', rz, q⟩ := hv
  exact back_of rz ⟨z, H', I', rz, q⟩
theorem o_ownNeg (F : FnOk X.prog X.w X.K X.mg X.base CX0 k f fd ps sp) (hr : Room k X.A) (hb : Binds X.K fd ps []) (M : Spc X.K C "__neg__" f) : UnR X (unaryOp .USub) (rOwn1 C sp) := by
  intro pins s σ H x v Q I rx h
  obtain ⟨a, dx, fs, rfl, ha, hs⟩ := h
  cases rx
  obtain ⟨ox, od, J⟩ := inst_at I ha
  obtain ⟨m, hF⟩ := I.fr
  exact PySem.W.ksp_neg hF I.ok.mod.kin J M.at_ M.fn (run_sub (vs := [.ref a]) F (sub_here hr) hb pass0 I (.cons rfl .nil) hs)
/-- a == b, a an instance, b any value whose type is told and is first in nothing -/
def rOwnEq (C : Addr) (sp : Sp) : R2 := fun x y H Q => ∃ a b dx dy fs gs, x = .ref a ∧ y = .ref b ∧ H a = some (.ins C dx fs) ∧ H b = some (.ins C dy gs) ∧ sp [.ref a, .ref b] H Q E0
theorem o_ownEq (F : FnOk X.prog X.w X.K X.mg X.base CX0 k f fd ps sp) (hr : Room k X.A) (hb : Binds X.K fd ps []) (M : Spc X.K C "__eq__" f) : OpR X (compareOp .Eq) (rOwn2 C sp) := by
  intro pins s σ H x y v u Q I rx ry h
  obtain ⟨a, b, dx, dy, fs, gs, rfl, rfl, ha, hb', hs⟩ := h
  cases rx
  cases ry
  obtain ⟨ox, od, J⟩ := inst_at I ha
  obtain ⟨oy, oe, J'⟩ := inst_at I hb'
  obtain ⟨m, hF⟩ := I.fr
  show wpAny _ _ (richCompare .Eq (.ref a) (.ref b)) _ _ _
  refine PySem.W.cmp_K (op := .Eq) (tb := .ref C) hr.units0 hF I.ok.mod.kin J J'.type (by simp [PySem.W.notFirst]) M.at_ M.fn ?_
  refine wpAny_mono (run_sub (vs := [.ref a, .ref b]) F (sub_here hr) hb pass0 I (.cons rfl (.cons rfl .nil)) hs) (fun v s' hv => ?_) fun _ _ e => e
  obtain ⟨z, H', I', rz, q⟩ := hv
  exact back_of rz ⟨z, H', I', rz, q⟩
/-- a special method that is a built-in -/
theorem ifBound_B {M : Model} {A : Around} {E : Value → Shared → Prop} {s : Shared} {K : PySem.W.Frag} {x C : Addr} {ox : Obj} {od : Option Obj} {name : Str} {id : String} {args : List Value} {Q : Option Value → Shared → Prop} (Y : K.In s.heap) (I : PySem.W.InstAt s.heap x ox C od) (hs : PySem.W.findIn K (.ref C) name = some (some (.builtin id)))
    (hb : ∀ self, bindSpecial (.builtin id) self = pure (.builtin id, [self])) (h : wpAny M A (call (.builtin id) (.ref x :: args)) (fun v => Q (some v)) E s) : wpAny M A (callSpecialIfBound? (.ref x) name args) Q E s := by
  simp only [callSpecialIfBound?, bindSpecialIfBound?]
  refine wpAny_holding (wpAny_bind (wpAny_bind (wpAny_bind (I.type.here ((PySem.W.looks_findIn Y hs).here ?_)))))
  refine wpAny_bind (wpAny_askSetting (wpAny_ite ?_))
  have fin : wpAny M A (call (.builtin id) ([.ref x] ++ args) >>= fun v => pure (some v)) Q E s := wpAny_bind (wpAny_mono h (fun v s' h' => wpAny_pure h') fun _ _ h' => h')
  split
  · exact wpAny_bind ((PySem.W.Looks.of_pure (hb _)).here (wpAny_pure (by exact fin)))
  · exact wpAny_tryCatch (wpAny_bind ((PySem.W.Looks.of_pure (hb _)).here (wpAny_pure (by exact fin))))
/-- != by object's own: the own == turned; what the promise gives is a truth value -/
def rOwnNe (C : Addr) (sp : Sp) : R2 := fun x y H Q => ∃ a b dx dy fs gs, x = .ref a ∧ y = .ref b ∧ H a = some (.ins C dx fs) ∧ H b = some (.ins C dy gs) ∧ sp [.ref a, .ref b] H (fun v H' => ∃ t, v = .bl t ∧ Q (.bl (!t)) H') E0
theorem o_ownNe (F : FnOk X.prog X.w X.K X.mg X.base CX0 k f fd ps sp) (hr : Room (k + 1) X.A) (hb : Binds X.K fd ps []) (M : Spc X.K C "__eq__" f) (hn : PySem.W.findIn X.K (.ref C) "__ne__" = some (some (.builtin "object.__ne__"))) (hm : PySem.W.mroIn X.K C (.type "object") = some true) :
    OpR X (compareOp .NotEq) (rOwnNe C sp) := by
  intro pins s σ H x y v u Q I rx ry h
  obtain ⟨a, b, dx, dy, fs, gs, rfl, rfl, ha, hb', hs⟩ := h
  cases rx
  cases ry
  obtain ⟨ox, od, J⟩ := inst_at I ha
  obtain ⟨oy, oe, J'⟩ := inst_at I hb'
  show wpAny _ _ (richCompare .NotEq (.ref a) (.ref b)) _ _ _
  have hu : X.A.units < cLine := hr.units0
  have hu1 : X.A.in1.units < cLine := hr.in1.units0
  have one : wpAny (model X.prog X.w) X.A (tryCompare (.ref a) "__ne__" (.ref b)) (fun r s' => ∃ v, r = some v ∧ EP X pins σ Q v s') X.xe s := by
    unfold tryCompare
    refine wpAny_bind (ifBound_B I.kIn J hn PySem.F.slot_object_ne.bind ?_)
    refine wpAny_call (codeAny_call_builtin PySem.F.slot_object_ne.plain PySem.F.cmpEntry_ne (PySem.W.check_slot (i := "object.__ne__") (owner := "object") (n := "__ne__") PySem.F.cmpKind_ne PySem.F.cmpSplit_ne (J.type.andThen (PySem.W.looks_mroIn I.kIn hm)) (PySem.F.cmpArgs_ne _ _) ?_))
    unfold Builtin.«object.__ne__»
    refine wpAny_bind (m := slotArgs "__ne__" 1 _) (wpAny_pure ?_)
    refine wpAny_bind (m := cRoomFor _ _) (wpAny_cRoomFor hu1 ?_)
    refine wpAny_bind (m := callSpecialIfBound? (.ref a) (Str.ofString "__eq__") _) (PySem.W.ifBound_K I.kIn J M.at_ M.fn (wpAny_mono (run_sub (vs := [.ref a, .ref b]) F (sub_here hr).in1 hb pass0 I (.cons rfl (.cons rfl .nil)) hs) (fun v s' hv => ?_) fun _ _ e => e))
    obtain ⟨z, H', I', rz, t, rfl, q⟩ := hv
    cases (show v = Value.bool t from rz)
    refine wpAny_bind (wpAny_truthy_bool ?_)
    first
      | exact wpAny_pure (wpAny_pure ⟨_, rfl, .bl (!t), H', I', rfl, q⟩)
      | (show wpAny _ _ (ret (Value.bool !t)) _ _ _; exact wpAny_pure (wpAny_pure ⟨_, rfl, .bl (!t), H', I', rfl, q⟩))
      | (refine wpAny_bind (wpAny_pure ?_); exact wpAny_pure (wpAny_pure ⟨_, rfl, .bl (!t), H', I', rfl, q⟩))
  unfold richCompare
  simp only [oneThing_ref]
  refine wpAny_holding (wpAny_bind (wpAny_cRoomFor hu ?_))
  refine wpAny_bind (J.type.here (wpAny_bind (J'.type.here ?_)))
  rw [show (Value.ref C != Value.ref C) = false from by simp]
  simp only [Bool.false_eq_true, if_false]
  refine wpAny_bind (wpAny_pure ?_)
  simp only [Bool.false_eq_true, if_false]
  refine wpAny_bind (wpAny_mono one (fun r s' z => ?_) fun _ _ e => e)
  obtain ⟨v, rfl, hq⟩ := z
  exact wpAny_pure hq
end
section
variable {X : Cx} {C : Addr} {K : PySem.W.Frag}
/-- o.f as a target among others -/
def gFld (K : PySem.W.Frag) (to : TE) (f : Str) : TG := fun v σ H Q => to σ H fun x H1 => ∃ a C dx fs, x = .ref a ∧ H1 a = some (.ins C dx fs) ∧ Cls K C ∧ NoAttr K C f ∧ fs.length < 1000 ∧ Q σ (upd H1 a (.ins C dx (putF f v fs)))
theorem pg_fld {o : Expr} {to : TE} {f : Str} {pos : Pos} (ho : PE X o to) (hk : X.K = K := by rfl) : PG X (.Attribute o f pos) (gFld K to f) := by
  subst hk
  refine ⟨fun pins s σ H v u Q I r h => ?_⟩
  rw [assign_Attribute]
  refine wpAny_bind (wpAny_holding (thn (ho.run pins s σ H _ I h) fun ov s1 ⟨x, H1, I1, r1, a, C, dx, fs, ex, ea, c, n, l, q⟩ => ?_))
  subst ex
  obtain rfl : ov = Value.ref a := r1
  refine wpAny_bind (wpAny_standAt (wpAny_bind (wpAny_holding (setattr_ok I1 ea c n l r fun s2 I2 => ?_))))
  exact wpAny_release ⟨σ, _, I2, q⟩
/-- an instance of the class that a local name holds: cls(..) within a classmethod -/
def tMakeL (i : Nat) (C : Addr) (sp : Sp) (t : TA) : TE := fun σ H Q => σ[i]? = some (some (.ref C)) ∧ t σ H fun vs H1 => ∀ x dx, H1 x = none → H1 dx = none → dx ≠ x →
  sp (.ref x :: vs) (upd (upd H1 dx (.own x)) x (.ins C dx [])) (fun v H2 => v = .non ∧ Q (.ref x) H2) E0
theorem pe_makeL {k i : Nat} {f : Addr} {fd : FuncData} {ps : List Str} {sp : Sp} {x : Str} {p pos : Pos} {e : Expr} {es : List Expr} {t : TA} (M : Mk X.K C f) (F : FnOk X.prog X.w X.K X.mg X.base CX0 k f fd ps sp) (hr : Room (k + 1) X.A) (hN : X.N[i]? = some x) (hv : Vis X.env.scope x) (hb : Binds X.K fd ps [])
    (ha : PA X (e :: es) t) (hdb : (x == ("__debug__" : Str)) = false := by decide) (hcd : (x == ("__classdict__" : Str)) = false := by decide)
    (he : starEach (e :: es) X.env = (false, eval e X.env) :: starEach es X.env := by rfl) (hpl : (backTo pos (starEach es X.env)).any (·.1) = false := by rfl) :
    PE X (.Call (.Name x p) (e :: es) [] pos) (tMakeL i C sp t) := by
  refine ⟨fun pins s σ H Q I h => ?_⟩
  obtain ⟨hs, ht⟩ := h
  refine wpAny_Call_Name_kw (thn ((pe_var (pos := p) hN hv hdb hcd).run pins s σ H (fun v H1 => v = .ref C ∧ H1 = H) I ⟨.ref C, hs, rfl, rfl⟩) fun u s1 ⟨v, H1, I1, r1, q1⟩ => ?_)
  obtain ⟨rfl, rfl⟩ := q1
  cases r1
  refine PySem.W.callWith_K (h₀ := X.base) I.ok.mod.kin M.kp (thn (ha.run pos pins s1 σ _ _ I1 ht) fun us s2 ⟨vs, H2, I2, r, q⟩ => ⟨I2.kIn, ?_⟩) he hpl
  exact run_make M F hr hb .nil pass0 I2 r (by
    intro x dx h1 h2 h3
    have := q x dx h1 h2 h3
    rw [List.append_nil]
    exact this)
end
end Ow
/-! Facts of the text's own classes, told by the head as one Bool. -/
namespace Ow
open PySem PySem.Spec PyProof.Rows L2
/-- o.m(e, ..): the method's promise -/
structure Mth (P : Program) (w : World) (K : PySem.W.Frag) (mg : Str → Option Value) (base : Heap) (k : Nat) (C : Addr) (m : Str) (ps : List Str) (sp : Sp) : Prop where
  ex : ∃ (f : Addr) (fd : FuncData), FnOk P w K mg base CX0 k f fd ps sp ∧ Meth K C m f ∧ Binds K fd ps []
/-- e.m, a property: the getter's promise -/
structure Prp (P : Program) (w : World) (K : PySem.W.Frag) (mg : Str → Option Value) (base : Heap) (k : Nat) (C : Addr) (m : Str) (sp : Sp) : Prop where
  ex : ∃ (p g : Addr) (fd : FuncData), FnOk P w K mg base CX0 k g fd ["self"] sp ∧ PropOf K C m p g ∧ Binds K fd ["self"] []
/-- C.m(e, ..), a classmethod -/
structure Cmt (P : Program) (w : World) (K : PySem.W.Frag) (mg : Str → Option Value) (base : Heap) (k : Nat) (C : Addr) (m : Str) (sp : Sp) : Prop where
  ex : ∃ (p g : Addr), ClX.CMet K C (.type "type") m p g ∧ ClX.CRead K C (.type "type") ∧ FnR P w K mg base CX0 k g sp
/-- C(e, ..): __init__'s promise; n: how many arguments are given, dv: those that fill up -/
structure Mkr (P : Program) (w : World) (K : PySem.W.Frag) (mg : Str → Option Value) (base : Heap) (k : Nat) (x : Str) (C : Addr) (sp : Sp) (dvs : List V) : Prop where
  ex : ∃ (f : Addr) (fd : FuncData) (ps : List Str) (ds : List Value), FnOk P w K mg base CX0 k f fd ps sp ∧ Mk K C f ∧ mg x = some (.ref C) ∧ Binds K fd ps ds ∧ Vals dvs ds
section
variable {X : Cx} {C : Addr} {k : Nat} {m x : Str} {ps : List Str} {sp : Sp} {dvs : List V} {o e : Expr} {es : List Expr} {to ta : TE} {t : TA} {pos apos p : Pos}
def tMth (C : Addr) (m : Str) (sp : Sp) (to : TE) (t : TA) : TE := fun σ H Q => to σ H fun x H1 => ∃ a dx fs, x = .ref a ∧ H1 a = some (.ins C dx fs) ∧ fs.lookup m = none ∧ t σ H1 fun vs H2 => sp (x :: vs) H2 Q E0
theorem e_mth {pl : Sem Bool} (c : Mth X.prog X.w X.K X.mg X.base k C m ps sp) (T : Cls X.K C) (hr : Room k X.A) (ho : PE X o to) (ha : PA X (e :: es) t)
    (hst : starEach (e :: es) X.env = (false, eval e X.env) :: starEach es X.env := by rfl) (hpl : (backTo pos (starEach es X.env)).any (·.1) = false := by rfl)
    (ht : eval (.Call (.Attribute o m apos) (e :: es) [] pos) X.env = (do
      let ov ← eval o X.env
      standAt apos.atName; let (f, first) ← holding [ov] (getMethod ov m pl); callWith pos f first (backTo pos (starEach (e :: es) X.env)) (backToKw pos (keywordEach [] X.env))) := by rfl) :
    PE X (.Call (.Attribute o m apos) (e :: es) [] pos) (tMth C m sp to t) := by
  obtain ⟨f, fd, F, hm, hb⟩ := c.ex
  have h := pe_meth (apos := apos) (pos := pos) (pl := pl) ho T hm F hr hb .nil pass0 ha hst hpl ht
  have e1 : tMeth C m sp [] E0 to t = tMth C m sp to t := by
    funext σ H Q
    show to σ H (fun x H1 => ∃ a dx fs, x = .ref a ∧ H1 a = some (.ins C dx fs) ∧ fs.lookup m = none ∧ t σ H1 fun vs H2 => sp (x :: (vs ++ [])) H2 Q E0) = to σ H (fun x H1 => ∃ a dx fs, x = .ref a ∧ H1 a = some (.ins C dx fs) ∧ fs.lookup m = none ∧ t σ H1 fun vs H2 => sp (x :: vs) H2 Q E0)
    simp only [List.append_nil]
  rw [← e1]
  exact h
def tPrp (C : Addr) (sp : Sp) (ta : TE) : TE := fun σ H Q => ta σ H fun x H1 => ∃ a dx fs, x = .ref a ∧ H1 a = some (.ins C dx fs) ∧ sp [.ref a] H1 Q E0
theorem e_prp (c : Prp X.prog X.w X.K X.mg X.base k C m sp) (T : Cls X.K C) (hr : Room (k + 1) X.A) (he : PE X e ta) (hab : attributeBase e m X.env (eval e X.env) = eval e X.env := by rfl) : PE X (.Attribute e m pos) (tPrp C sp ta) := by
  obtain ⟨p, g, fd, F, hp, hb⟩ := c.ex
  exact pe_prop he T hp F hr hb .nil pass0 hab
def tCmt (C : Addr) (sp : Sp) (ta : TE) (t : TA) : TE := fun σ H Q => ta σ H fun x H1 => x = .ref C ∧ t σ H1 fun vs H2 => sp (.ref C :: vs) H2 Q E0
theorem e_cmt {pl : Sem Bool} (c : Cmt X.prog X.w X.K X.mg X.base k C m sp) (hr : Room k X.A) (ho : PE X o ta) (ha : PA X (e :: es) t)
    (hst : starEach (e :: es) X.env = (false, eval e X.env) :: starEach es X.env := by rfl) (hpl : (backTo pos (starEach es X.env)).any (·.1) = false := by rfl)
    (ht : eval (.Call (.Attribute o m apos) (e :: es) [] pos) X.env = (do
      let ov ← eval o X.env
      standAt apos.atName; let (f, first) ← holding [ov] (getMethod ov m pl); callWith pos f first (backTo pos (starEach (e :: es) X.env)) (backToKw pos (keywordEach [] X.env))) := by rfl) :
    PE X (.Call (.Attribute o m apos) (e :: es) [] pos) (tCmt C sp ta t) := by
  obtain ⟨p, g, hc, hrd, F⟩ := c.ex
  exact ClX.pe_cmeth (pl := pl) ho hrd hc F hr pass0 ha hst hpl ht
def tMkr (C : Addr) (sp : Sp) (dvs : List V) (t : TA) : TE := fun σ H Q => t σ H fun vs H1 => ∀ x dx, H1 x = none → H1 dx = none → dx ≠ x → sp (.ref x :: (vs ++ dvs)) (upd (upd H1 dx (.own x)) x (.ins C dx [])) (fun v H2 => v = .non ∧ Q (.ref x) H2) E0
theorem e_mkr (c : Mkr X.prog X.w X.K X.mg X.base k x C sp dvs) (hr : Room (k + 1) X.A) (hg : Gl X x) (ha : PA X (e :: es) t)
    (hdb : (x == ("__debug__" : Str)) = false := by decide) (he : starEach (e :: es) X.env = (false, eval e X.env) :: starEach es X.env := by rfl) (hpl : (backTo pos (starEach es X.env)).any (·.1) = false := by rfl) :
    PE X (.Call (.Name x p) (e :: es) [] pos) (tMkr C sp dvs t) := by
  obtain ⟨f, fd, ps, ds, F, M, hm, hb, hd⟩ := c.ex
  exact pe_make M F hr hg hm hb hd pass0 ha hdb he hpl
end
section
variable {X : Cx} {K : PySem.W.Frag} {C : Addr} {k : Nat} {nm x : Str} {ps : List Str} {sp : Sp} {e o : Expr} {es : List Expr} {ta : TE} {t : TA} {pos apos p : Pos}
theorem e_fld {f : Str} (he : PE X e ta) (h : X.K = K := by rfl) (hab : attributeBase e f X.env (eval e X.env) = eval e X.env := by rfl) : PE X (.Attribute e f pos) (tFld K ta f) := by
  subst h
  exact pe_fld he hab
theorem g_tup {es : List Expr} {n : Nat} {t : TGs} {j : Nat} (hc : X.calm = true) (h : PGs X es t) (hk : X.K = K := by rfl)
    (hn : (assignEach es X.env).length = n := by rfl) (hst : (assignEach es X.env).findIdx? (·.1) = none := by rfl) : PG X (.Tuple es j pos) (gTup K n t) := by
  subst hk
  exact pg_tup hc h hn hst
/-- cls(e, ..) -/
theorem e_mkl {i : Nat} {y : Str} (c : Mkr X.prog X.w X.K X.mg X.base k x C sp []) (hr : Room (k + 1) X.A) (hN : X.N[i]? = some y) (hv : Vis X.env.scope y) (ha : PA X (e :: es) t)
    (hdb : (y == ("__debug__" : Str)) = false := by decide) (hcd : (y == ("__classdict__" : Str)) = false := by decide)
    (he : starEach (e :: es) X.env = (false, eval e X.env) :: starEach es X.env := by rfl) (hpl : (backTo pos (starEach es X.env)).any (·.1) = false := by rfl) :
    PE X (.Call (.Name y p) (e :: es) [] pos) (tMakeL i C sp t) := by
  obtain ⟨f, fd, ps, ds, F, M, hm, hb, hd⟩ := c.ex
  cases hd
  exact pe_makeL M F hr hN hv hb ha hdb hcd he hpl
theorem q_op2 {op : Operator} (c : Mth X.prog X.w X.K X.mg X.base k C nm ps sp) (hc : PySem.W.selfFirst X.K C = true) (hr : Room k X.A) (hn : PySem.dunder op.info.2 = nm := by decide +kernel) : OpR X (binaryOp op) (rOwn2 C sp) := by
  obtain ⟨f, fd, F, hm, hb⟩ := c.ex
  subst hn
  exact o_own2 F hr hb hc ⟨hm.at_, hm.fn⟩
theorem q_opI {op : Operator} (c : Mth X.prog X.w X.K X.mg X.base k C nm ps sp) (hc : PySem.W.selfFirst X.K C = true) (S : IntSide X.K C op.info.2) (hr : Room k X.A) (hn : PySem.dunder op.info.2 = nm := by decide +kernel) : OpR X (binaryOp op) (rOwnI C sp) := by
  obtain ⟨f, fd, F, hm, hb⟩ := c.ex
  subst hn
  exact o_ownI F hr hb hc ⟨hm.at_, hm.fn⟩ S
theorem q_neg (c : Mth X.prog X.w X.K X.mg X.base k C "__neg__" ps sp) (hr : Room k X.A) : UnR X (unaryOp .USub) (rOwn1 C sp) := by
  obtain ⟨f, fd, F, hm, hb⟩ := c.ex
  exact o_ownNeg F hr hb ⟨hm.at_, hm.fn⟩
theorem q_eq (c : Mth X.prog X.w X.K X.mg X.base k C "__eq__" ps sp) (hr : Room k X.A) : OpR X (compareOp .Eq) (rOwn2 C sp) := by
  obtain ⟨f, fd, F, hm, hb⟩ := c.ex
  exact o_ownEq F hr hb ⟨hm.at_, hm.fn⟩
theorem q_ne (c : Mth X.prog X.w X.K X.mg X.base k C "__eq__" ps sp) (hr : Room (k + 1) X.A) (hn : PySem.W.findIn X.K (.ref C) "__ne__" = some (some (.builtin "object.__ne__"))) (hm : PySem.W.mroIn X.K C (.type "object") = some true) : OpR X (compareOp .NotEq) (rOwnNe C sp) := by
  obtain ⟨f, fd, F, hm2, hb⟩ := c.ex
  exact o_ownNe F hr hb ⟨hm2.at_, hm2.fn⟩ hn hm
theorem cmt_of {P : Program} {w : World} {mg : Str → Option Value} {base : Heap} {g pp : Addr} {fd : FuncData} (F : FnOk P w K mg base CX0 k g fd ps sp) (hb : Binds K fd ps []) (hc : ClX.CMet K C (.type "type") nm pp g) (hr : ClX.CRead K C (.type "type")) : Cmt P w K mg base k C nm sp :=
  ⟨pp, g, hc, hr, (F.raw hb .nil).imp fun vs H Q E h => by rw [List.append_nil]; exact h⟩
/-- // by a great divisor of any sign -/
def CDivWN (_ j : Int) : Prop := j ≠ 0 ∧ j.natAbs.log2 < 9000
theorem op_fdivWN : OpR X (binaryOp .FloorDiv) (rI CDivWN fun i j => .int (i.fdiv j)) := opI fun i j _ _ _ _ _ hc q => floordiv_int hc.1 q (.inl (PyProof.noPylong_of_log2 hc.2))
end
section
variable {σ : L2.St} {H : Hp} {Q : VK} {K : PySem.W.Frag} {C : Addr} {sp : Sp} {ta to : TE} {t : TA} {n b c : L2.St → Hp → Prop} {rt : VK}
theorem y_fld {f : Str} (h : ta σ H fun x H1 => ∃ a C dx fs v, x = .ref a ∧ H1 a = some (.ins C dx fs) ∧ Cls K C ∧ NoAttr K C f ∧ fs.lookup f = some v ∧ Q v H1) : tFld K ta f σ H Q := h
theorem y_prp (h : ta σ H fun x H1 => ∃ a dx fs, x = .ref a ∧ H1 a = some (.ins C dx fs) ∧ sp [.ref a] H1 Q E0) : tPrp C sp ta σ H Q := h
theorem y_mth {m : Str} (h : to σ H fun x H1 => ∃ a dx fs, x = .ref a ∧ H1 a = some (.ins C dx fs) ∧ fs.lookup m = none ∧ t σ H1 fun vs H2 => sp (x :: vs) H2 Q E0) : tMth C m sp to t σ H Q := h
theorem y_cmt (h : ta σ H fun x H1 => x = .ref C ∧ t σ H1 fun vs H2 => sp (.ref C :: vs) H2 Q E0) : tCmt C sp ta t σ H Q := h
theorem y_mkr {dvs : List V} (h : t σ H fun vs H1 => ∀ x dx, H1 x = none → H1 dx = none → dx ≠ x → sp (.ref x :: (vs ++ dvs)) (upd (upd H1 dx (.own x)) x (.ins C dx [])) (fun v H2 => v = .non ∧ Q (.ref x) H2) E0) : tMkr C sp dvs t σ H Q := h
theorem y_mkl {i : Nat} (e : σ[i]? = some (some (.ref C))) (h : t σ H fun vs H1 => ∀ x dx, H1 x = none → H1 dx = none → dx ≠ x → sp (.ref x :: vs) (upd (upd H1 dx (.own x)) x (.ins C dx [])) (fun v H2 => v = .non ∧ Q (.ref x) H2) E0) : tMakeL i C sp t σ H Q := ⟨e, h⟩
theorem y_par {i j : Nat} (h : t σ H fun vs H1 => ∃ v w, vs = [v, w] ∧ n ((σ.set i (some v)).set j (some w)) H1) : tPar i j t ⟨n, rt, b, c⟩ σ H := h
theorem y_par2 {i j : Nat} {v w : V} {R : L2.St → Hp → Prop} (h : R ((σ.set i (some v)).set j (some w)) H) : ∃ v' w', [v, w] = [v', w'] ∧ R ((σ.set i (some v')).set j (some w')) H := ⟨v, w, rfl, h⟩
theorem y_gtup {m : Nat} {g : TGs} {v : V} {R : L2.St → Hp → Prop} {a : Addr} {xs : List V} (e : v = .ref a) (s : SqT K H a xs) (l : xs.length = m) (h : g xs σ H R) : gTup K m g v σ H R := ⟨a, xs, e, s, l, h⟩
theorem y_gcons {g : TG} {u : TGs} {v : V} {vs : List V} {R : L2.St → Hp → Prop} (h : g v σ H fun σ' H' => u vs σ' H' R) : gCons g u (v :: vs) σ H R := ⟨v, vs, rfl, h⟩
theorem y_gnil {R : L2.St → Hp → Prop} (h : R σ H) : gNil [] σ H R := ⟨rfl, h⟩
theorem y_gfld {f : Str} {v : V} {R : L2.St → Hp → Prop} (h : to σ H fun x H1 => ∃ a C dx fs, x = .ref a ∧ H1 a = some (.ins C dx fs) ∧ Cls K C ∧ NoAttr K C f ∧ fs.length < 1000 ∧ R σ (upd H1 a (.ins C dx (putF f v fs)))) : gFld K to f v σ H R := h
theorem y_negI {i : Int} (h : Q (.int (-i)) H) : (∃ j, V.int i = .int j ∧ Q (.int (-j)) H) := ⟨i, rfl, h⟩
theorem y_gcd {i j : Int} (h : Q (.int ((Nat.gcd i.natAbs j.natAbs : Nat) : Int)) H) : rGcd [.int i, .int j] H Q := ⟨i, j, rfl, h⟩
theorem y_rng2 {R : It → Hp → Prop} (h : t σ H fun vs H1 => ∃ i j : Int, vs = [.int i, .int j] ∧ (-(2 ^ 62) ≤ i ∧ i < 2 ^ 62 ∧ -(2 ^ 62) ≤ j ∧ j < 2 ^ 62) ∧ R (Itr i (j - i).toNat) H1) : iRng2 t σ H R := h
theorem y_while {tc : TT} {tb : TS} (h : ∃ W : Nat → L2.St → Hp → Prop, (∃ m, W m σ H) ∧ ∀ m σ H, W m σ H →
  tc σ H fun k H1 => if k = true then ∃ N : L2.St → Hp → Prop, (∀ σ' H', N σ' H' → ∃ m', m' < m ∧ W m' σ' H') ∧ tb ⟨N, rt, n, N⟩ σ H1 else n σ H1) : tWhile tc tb ⟨n, rt, b, c⟩ σ H := h
end
theorem w_rev {X : Cx} {K : PySem.W.Frag} {tg e : Expr} {ta : TA} {p pos : Pos} (hg : Gl X "reversed") (hm : X.mg "reversed" = none) (ha : PA X [e] ta) (h : X.K = K := by rfl) (hs : starEach [e] X.env = [(false, eval e X.env)] := by rfl) : PI X tg (.Call (.Name "reversed" p) [e] [] pos) (iRev K ta) := by
  subst h
  exact pi_reversed hg hm ha hs
theorem y_iRev {σ : L2.St} {H : Hp} {K : PySem.W.Frag} {ta : TA} {R : It → Hp → Prop} (h : ta σ H fun vs H1 => ∃ (a : Addr) (xs : List V), vs = [.ref a] ∧ SqL K H1 a xs ∧ R (Itv K a xs.length) H1) : iRev K ta σ H R := h
theorem e_revL {X : Cx} {K : PySem.W.Frag} {e : Expr} {te : TE} {k : Nat} {p1 p2 p3 pos : Pos} (he : PE X e te) (h : X.K = K := by rfl) : PE X (.Subscript e (.Slice none none (some (.UnaryOp .USub (.Constant (.int 1) k p1) p2)) p3) pos) (tRevL K te) := by
  subst h
  exact pe_revL he
theorem y_revL {σ : L2.St} {H : Hp} {Q : VK} {K : PySem.W.Frag} {te : TE} (h : te σ H fun x H1 => ∃ a xs, x = .ref a ∧ SqL K H1 a xs ∧ ∀ p, H1 p = none → Q (.ref p) (upd H1 p (.lst xs.reverse))) : tRevL K te σ H Q := h
theorem y_forW {J : It} {m : Nat} {G : Hp → Prop} {Y : Nat → Hp → V → Hp → Prop} (w : Walk J m G Y) {g : TG} {t : TS} {n b c : L2.St → Hp → Prop} {rt : VK} {σ : L2.St} {H : Hp} (Pv : Nat → L2.St → Hp → Prop) (h0 : Pv 0 σ H) (hG : ∀ i σ H, i ≤ m → Pv i σ H → G H)
    (hs : ∀ i x σ H H', i < m → Pv i σ H → Y i H x H' → g x σ H' fun σ2 H2 => t ⟨Pv (i + 1), rt, n, Pv (i + 1)⟩ σ2 H2) (hd : ∀ σ H, Pv m σ H → n σ H) :
    ∃ W : Nat → Nat → L2.St → Hp → Prop, (∃ m, W 0 m σ H) ∧ ∀ i k σ H, W i k σ H →
      (J.stop i H ∧ n σ H) ∨ (J.go i H ∧ ∃ N : L2.St → Hp → Prop, (∀ σ' H', N σ' H' → ∃ m', m' < k ∧ W (i + 1) m' σ' H') ∧ ∀ x H', J.yld i H x H' → g x σ H' fun σ2 H2 => t ⟨N, rt, n, N⟩ σ2 H2) :=
  for_it (D := ⟨n, rt, b, c⟩) w Pv h0 hG hs hd
end Ow
/-! str, bool, abs of own objects; == with values of other types. -/
namespace Ow
open PySem PySem.Spec PyProof.Rows L2
section
variable {X : Cx} {k : Nat} {C f : Addr} {fd : FuncData} {ps : List Str} {sp : Sp}
/-- a built-in's argument: one instance, whose special method gives what R says -/
def rOwnT (C : Addr) (sp : Sp) (R : V → Prop) : List V → Hp → VK → Prop := fun xs H Q => ∃ a dx fs, xs = [.ref a] ∧ H a = some (.ins C dx fs) ∧ sp [.ref a] H (fun v H' => R v ∧ Q v H') E0
def isTxt (v : V) : Prop := ∃ x, v = .str x
def isTru (v : V) : Prop := ∃ x, v = .bl x
theorem k_strO (F : FnOk X.prog X.w X.K X.mg X.base CX0 k f fd ps sp) (hr : Room (k + 2) X.A) (hb : Binds X.K fd ps []) (M : Spc X.K C "__str__" f) : CallR X (.type "str") (rOwnT C sp isTxt) := by
  intro pins s σ H xs us Q I r h
  obtain ⟨a, dx, fs, rfl, ha, hs⟩ := h
  obtain ⟨u, rfl, rx⟩ := vals1 r
  cases rx
  obtain ⟨ox, od, J⟩ := inst_at I ha
  refine PySem.W.kso_call (hr.in1.in1.units0) I.kIn J M.at_ M.fn ?_
  refine wpAny_mono (run_sub (vs := [.ref a]) F (sub_here hr).in1.in1 hb pass0 I (.cons rfl .nil) hs) (fun v s' hv => ?_) fun _ _ e => e
  obtain ⟨z, H', I', rz, ⟨x, rfl⟩, q⟩ := hv
  obtain ⟨t, rfl⟩ := (show ∃ t, v = Value.str x t from rz)
  exact ⟨.str x, H', I', ⟨t, rfl⟩, q⟩
theorem k_boolO (F : FnOk X.prog X.w X.K X.mg X.base CX0 k f fd ps sp) (hr : Room (k + 2) X.A) (hb : Binds X.K fd ps []) (M : Spc X.K C "__bool__" f) : CallR X (.type "bool") (rOwnT C sp isTru) := by
  intro pins s σ H xs us Q I r h
  obtain ⟨a, dx, fs, rfl, ha, hs⟩ := h
  obtain ⟨u, rfl, rx⟩ := vals1 r
  cases rx
  obtain ⟨ox, od, J⟩ := inst_at I ha
  obtain ⟨m, hF⟩ := I.fr
  have tru : wpAny (model X.prog X.w) X.A.in1.in1 (truthy (.ref a)) (fun b s' => EP X pins σ Q (.bool b) s') X.xe s := by
    refine PySem.W.truthy_K hF I.ok.mod.kin J M.at_ M.fn ?_
    refine wpAny_mono (run_sub (vs := [.ref a]) F (sub_here hr).in1.in1 hb pass0 I (.cons rfl .nil) hs) (fun v s' hv => ?_) fun _ _ e => e
    obtain ⟨z, H', I', rz, ⟨x, rfl⟩, q⟩ := hv
    cases (show v = Value.bool x from rz)
    exact ⟨.bl x, H', I', rfl, q⟩
  refine PySem.callType_codes (T := "bool") (Bi := Builtin.«object.__init__») (Q₁ := fun r s₁ => ∃ b, r = .bool b ∧ EP X pins σ Q r s₁) PySem.F.called_bool (PySem.F.typeCall_bool_1 _) PySem.F.entry_object_init ?_ ?_
  · refine codeAny_of_tree ?_
    show wpAny _ _ (do checkBuiltinCall "bool.__new__" ⟨[.type "bool", .ref a], []⟩; again (.builtin "bool.__new__" ⟨[.type "bool", .ref a], []⟩)) _ _ s
    refine wpAny_bind (wpAny_of_eq (PySem.F.newCall_bool_1 _) (wpAny_pure ⟨plainId_quiet (by decide +kernel) _, codeAny_builtin PySem.F.entry_bool_new ?_⟩))
    rw [Around.under_plainId (by decide +kernel) _]
    have f1 := PySem.F.conv_sub_bool
    have fin : ∀ b s', EP X pins σ Q (.bool b) s' → (fun r s₁ => ∃ b, r = Value.bool b ∧ EP X pins σ Q r s₁) (.bool b) s' := fun b s' h => ⟨b, rfl, h⟩
    unfold Builtin.«bool.__new__»
    obtain ⟨hp, g, d, tk, os⟩ := s
    repeat (any_goals (first | assumption | (with_reducible refine wpAny_mono tru (fun b s' h => ?_) (fun _ _ e => e)) | wp_step))
    all_goals first | exact ⟨_, rfl, h⟩ | skip
  · rintro obj s₁ ⟨b, rfl, hq⟩
    exact ⟨rfl, PySem.F.args_object_init_2 _ _, object_init_meets PySem.F.called_bool.init.lookup PySem.F.called_bool.made (by decide +kernel) X.prog X.w X.A.in1 _ s₁ ⟨rfl, rfl, hq⟩⟩
theorem k_absO (F : FnOk X.prog X.w X.K X.mg X.base CX0 k f fd ps sp) (hr : Room (k + 1) X.A) (hb : Binds X.K fd ps []) (M : Spc X.K C "__abs__" f) : CallR X (.builtin "abs") (fun xs H Q => ∃ a dx fs, xs = [.ref a] ∧ H a = some (.ins C dx fs) ∧ sp [.ref a] H Q E0) := by
  intro pins s σ H xs us Q I r h
  obtain ⟨a, dx, fs, rfl, ha, hs⟩ := h
  obtain ⟨u, rfl, rx⟩ := vals1 r
  cases rx
  obtain ⟨ox, od, J⟩ := inst_at I ha
  refine PySem.Calls.call_function_entry kind_abs plain_abs entry_abs (args_abs _) ?_
  unfold Builtin.«abs»
  refine wpAny_bind (m := oneArg "abs" _) (wpAny_pure ?_)
  refine wpAny_bind (m := callSpecial? (.ref a) (Str.ofString "__abs__")) (PySem.W.special_fn I.kIn J M.at_ (beq_iff_eq.mp M.fn) (wpAny_mono (run_sub (vs := [.ref a]) F (sub_here hr).in1 hb pass0 I (.cons rfl .nil) hs) (fun v s' hv => ?_) fun _ _ e => e))
  exact wpAny_pure ⟨_, rfl, hv⟩
/-- x == y, y of another type, which is not first -/
def rOwnEqX (K : PySem.W.Frag) (C : Addr) (sp : Sp) : R2 := fun x y H Q => ∃ a dx fs t, x = .ref a ∧ H a = some (.ins C dx fs) ∧ TyX K H y t ∧ PySem.W.notFirst K C t = true ∧ sp [.ref a, y] H Q E0
theorem k_eqX (F : FnOk X.prog X.w X.K X.mg X.base CX0 k f fd ps sp) (hr : Room k X.A) (hb : Binds X.K fd ps []) (M : Spc X.K C "__eq__" f) : OpR X (compareOp .Eq) (rOwnEqX X.K C sp) := by
  intro pins s σ H x y v u Q I rx ry h
  obtain ⟨a, dx, fs, t, rfl, ha, ty, nf, hs⟩ := h
  cases rx
  obtain ⟨ox, od, J⟩ := inst_at I ha
  obtain ⟨m, hF⟩ := I.fr
  obtain ⟨P, kx, hp, _⟩ := kit_of I ry ty
  show wpAny _ _ (richCompare .Eq (.ref a) u) _ _ _
  refine PySem.W.cmp_K (op := .Eq) (tb := t) hr.units0 hF I.ok.mod.kin J (kx.ty _ _ I.kIn hp) nf M.at_ M.fn ?_
  refine wpAny_mono (run_sub (vs := [.ref a, y]) F (sub_here hr) hb pass0 I (.cons rfl (.cons ry .nil)) hs) (fun v s' hv => ?_) fun _ _ e => e
  obtain ⟨z, H', I', rz, q⟩ := hv
  exact back_of rz ⟨z, H', I', rz, q⟩
end
end Ow
/-! Fractions: the mathematics of lowest terms, what a Ratio looks like, the promises. -/
namespace Ow
open PySem PySem.Spec PyProof.Rows L2
/-! ### lowest terms -/
def gI (t b : Int) : Int := (Nat.gcd t.natAbs b.natAbs : Nat)
def lowT (t b : Int) : Int := t.fdiv (if b < 0 then -gI t b else gI t b)
def lowB (t b : Int) : Int := b.fdiv (if b < 0 then -gI t b else gI t b)
def low (t b : Int) : Int × Int := (lowT t b, lowB t b)
theorem gI_pos {t b : Int} (h : b ≠ 0) : 0 < gI t b := by
  unfold gI
  have : 0 < Nat.gcd t.natAbs b.natAbs := Nat.gcd_pos_of_pos_right _ (by omega)
  omega
theorem gI_le {t b : Int} (h : b ≠ 0) : (gI t b).natAbs ≤ b.natAbs := by
  unfold gI
  have : Nat.gcd t.natAbs b.natAbs ≤ b.natAbs := Nat.gcd_le_right _ (by omega)
  omega
theorem gI_dvd_t {t b : Int} : gI t b ∣ t := Int.ofNat_dvd_left.mpr (Nat.gcd_dvd_left _ _)
theorem gI_dvd_b {t b : Int} : gI t b ∣ b := Int.ofNat_dvd_left.mpr (Nat.gcd_dvd_right _ _)
/-- t and b are the lowest terms times one number -/
theorem low_ex {t b : Int} (h : b ≠ 0) : ∃ c : Int, c ≠ 0 ∧ t = c * lowT t b ∧ b = c * lowB t b ∧ (0 < c ↔ 0 < b) ∧ c.natAbs = Nat.gcd t.natAbs b.natAbs := by
  have hg := gI_pos (t := t) h
  obtain ⟨u, hu⟩ := gI_dvd_t (t := t) (b := b)
  obtain ⟨v, hv⟩ := gI_dvd_b (t := t) (b := b)
  have hn : (gI t b).natAbs = Nat.gcd t.natAbs b.natAbs := by unfold gI; exact Int.natAbs_natCast _
  by_cases hb : b < 0
  · refine ⟨-gI t b, by omega, ?_, ?_, by omega, by rw [Int.natAbs_neg]; exact hn⟩
    · unfold lowT
      rw [if_pos hb]
      rw [Int.mul_fdiv_cancel' ]
      exact Int.neg_dvd.mpr gI_dvd_t
    · unfold lowB
      rw [if_pos hb]
      rw [Int.mul_fdiv_cancel' ]
      exact Int.neg_dvd.mpr gI_dvd_b
  · refine ⟨gI t b, by omega, ?_, ?_, by omega, hn⟩
    · unfold lowT
      rw [if_neg hb, Int.mul_fdiv_cancel' gI_dvd_t]
    · unfold lowB
      rw [if_neg hb, Int.mul_fdiv_cancel' gI_dvd_b]
/-- a fraction in lowest terms -/
def Low (p : Int × Int) : Prop := 0 < p.2 ∧ Nat.gcd p.1.natAbs p.2.natAbs = 1
theorem low_low {t b : Int} (h : b ≠ 0) : Low (low t b) := by
  obtain ⟨c, hc, ht, hb, hp, hn⟩ := low_ex (t := t) h
  have hB : 0 < lowB t b := by
    rcases Int.lt_trichotomy (lowB t b) 0 with q | q | q
    · exfalso
      rcases Int.lt_trichotomy c 0 with z | z | z
      · have := Int.mul_pos_of_neg_of_neg z q
        omega
      · exact hc z
      · have := Int.mul_neg_of_pos_of_neg z q
        omega
    · rw [q, Int.mul_zero] at hb
      exact absurd hb h
    · exact q
  refine ⟨hB, ?_⟩
  have e1 : t.natAbs = c.natAbs * (lowT t b).natAbs := by rw [← Int.natAbs_mul, ← ht]
  have e2 : b.natAbs = c.natAbs * (lowB t b).natAbs := by rw [← Int.natAbs_mul, ← hb]
  have hc2 : 0 < c.natAbs := by omega
  have e3 : c.natAbs * Nat.gcd (lowT t b).natAbs (lowB t b).natAbs = c.natAbs * 1 := by
    rw [← Nat.gcd_mul_left, ← e1, ← e2, hn, Nat.mul_one]
  exact Nat.eq_of_mul_eq_mul_left hc2 e3
theorem low_fix {p : Int × Int} (h : Low p) : low p.1 p.2 = p := by
  obtain ⟨h1, h2⟩ := h
  have e : gI p.1 p.2 = 1 := by unfold gI; rw [h2]; rfl
  unfold low lowT lowB
  rw [e, if_neg (by omega), Int.fdiv_one, Int.fdiv_one]
theorem low_le {t b : Int} (h : b ≠ 0) : (lowT t b).natAbs ≤ t.natAbs ∧ (lowB t b).natAbs ≤ b.natAbs := by
  obtain ⟨c, hc, ht, hb, hp, hn⟩ := low_ex (t := t) h
  have hc2 : 0 < c.natAbs := by omega
  have e1 : t.natAbs = c.natAbs * (lowT t b).natAbs := by rw [← Int.natAbs_mul, ← ht]
  have e2 : b.natAbs = c.natAbs * (lowB t b).natAbs := by rw [← Int.natAbs_mul, ← hb]
  exact ⟨by rw [e1]; exact Nat.le_mul_of_pos_left _ hc2, by rw [e2]; exact Nat.le_mul_of_pos_left _ hc2⟩
/-! ### lengths -/
def LONG : Int := 10 ^ 300
def okI (i : Int) : Bool := if decide (-(10 ^ 300) < i) = true then decide (i < 10 ^ 300) else false
theorem okI_iff {i : Int} : okI i = true ↔ i.natAbs < 10 ^ 300 := by
  unfold okI
  have e : ((10 : Int) ^ 300) = ((10 ^ 300 : Nat) : Int) := by rw [Int.natCast_pow]; rfl
  rw [e]
  constructor
  · intro h
    split at h
    · rename_i h1
      have h1 := of_decide_eq_true h1
      have h2 := of_decide_eq_true h
      omega
    · cases h
  · intro h
    have h1 : -((10 ^ 300 : Nat) : Int) < i := by omega
    have h2 : i < ((10 ^ 300 : Nat) : Int) := by omega
    rw [decide_eq_true h1, decide_eq_true h2]
    rfl
theorem okI_nat {i : Int} (h : okI i = true) : i.natAbs < 2 ^ 1000 := Nat.lt_trans (okI_iff.mp h) (by decide +kernel)
theorem okI_mono {i j : Int} (h : okI i = true) (l : j.natAbs ≤ i.natAbs) : okI j = true := okI_iff.mpr (Nat.lt_of_le_of_lt l (okI_iff.mp h))
theorem okI_small {i : Int} (h : i.natAbs ≤ 2 ^ 64) : okI i = true := okI_iff.mpr (Nat.lt_of_le_of_lt h (by decide +kernel))
theorem mulW {i j : Int} (hi : i.natAbs < 2 ^ 4000) (hj : j.natAbs < 2 ^ 4000) : CMulW i j := wide_mul hi hj (by decide) (by decide) (by decide)
theorem mul_lt {i j : Int} {a b : Nat} (hi : i.natAbs < 2 ^ a) (hj : j.natAbs < 2 ^ b) : (i * j).natAbs < 2 ^ (a + b) := wide_lt hi hj
theorem up_lt {i : Int} {a b : Nat} (h : i.natAbs < 2 ^ a) (l : a ≤ b) : i.natAbs < 2 ^ b := Nat.lt_of_lt_of_le h (Nat.pow_le_pow_right (by decide) l)
theorem add_lt {i j : Int} {a : Nat} (hi : i.natAbs < 2 ^ a) (hj : j.natAbs < 2 ^ a) : (i + j).natAbs < 2 ^ (a + 1) := by
  rw [Nat.pow_succ]
  omega
theorem sub_lt {i j : Int} {a : Nat} (hi : i.natAbs < 2 ^ a) (hj : j.natAbs < 2 ^ a) : (i - j).natAbs < 2 ^ (a + 1) := by
  rw [Nat.pow_succ]
  omega
theorem divWN {t b : Int} (h : b ≠ 0) (hb : b.natAbs < 2 ^ 4000) {i : Int} : CDivWN i (if b < 0 then -gI t b else gI t b) := by
  have hg := gI_pos (t := t) h
  have hl := gI_le (t := t) h
  refine ⟨by split <;> omega, ?_⟩
  have e : (if b < 0 then -gI t b else gI t b).natAbs = (gI t b).natAbs := by split <;> simp
  rw [e]
  exact Nat.lt_of_lt_of_le (PySem.Flt.log2_lt_of (show 0 < 4000 by decide) (Nat.lt_of_le_of_lt hl hb)) (by decide)
/-! ### what a Ratio looks like -/
def rf (p : Int × Int) : List (Str × V) := [("_top", .int p.1), ("_bottom", .int p.2)]
theorem ktb : (("_bottom" : Str) == ("_top" : Str)) = false := by decide +kernel
theorem ktt : (("_top" : Str) == ("_top" : Str)) = true := by decide +kernel
theorem kbb : (("_bottom" : Str) == ("_bottom" : Str)) = true := by decide +kernel
theorem rf_t (p : Int × Int) : (rf p).lookup ("_top" : Str) = some (V.int p.1) := by simp [rf, List.lookup, ktt]
theorem rf_b (p : Int × Int) : (rf p).lookup ("_bottom" : Str) = some (V.int p.2) := by simp [rf, List.lookup, ktb, kbb]
theorem rf_no {m : Str} (h1 : (m == ("_top" : Str)) = false) (h2 : (m == ("_bottom" : Str)) = false) (p : Int × Int) : (rf p).lookup m = none := by simp [rf, List.lookup, h1, h2]
theorem rf_put (p : Int × Int) : putF "_bottom" (.int p.2) (putF "_top" (.int p.1) []) = rf p := by
  show (if ("_top" : Str) = "_bottom" then _ else (("_top" : Str), V.int p.1) :: putF "_bottom" (V.int p.2) []) = _
  rw [if_neg (by decide +kernel)]
  rfl
def RAt (H : Hp) (C x : Addr) (p : Int × Int) : Prop := ∃ dx, H x = some (.ins C dx (rf p))
theorem RAt.same {H H' : Hp} {C x : Addr} {p : Int × Int} (s : Same H H') (h : RAt H C x p) : RAt H' C x p := let ⟨dx, h⟩ := h; ⟨dx, s _ _ h⟩
theorem RAt.fr {H H' : Hp} {C x d : Addr} {p : Int × Int} (s : Fr d H H') (n : x ≠ d) (h : RAt H C x p) : RAt H' C x p := let ⟨dx, h⟩ := h; ⟨dx, s _ _ h n⟩
/-- a fraction that a Ratio holds -/
structure Fine (p : Int × Int) : Prop where
  t : okI p.1 = true
  b : okI p.2 = true
  l : Low p
/-- an operand: a Ratio, or an int -/
def Opn (H : Hp) (C : Addr) (v : V) (q : Int × Int) : Prop := (∃ x, v = .ref x ∧ RAt H C x q) ∨ ∃ i, v = .int i ∧ q = (i, 1)
/-- what the head tells of the class -/
structure RatioC (K : PySem.W.Frag) (mg : Str → Option Value) (C : Addr) : Prop where
  cls : Cls K C
  nT : NoAttr K C "_top"
  nB : NoAttr K C "_bottom"
  g : mg "Ratio" = some (.ref C)
  first : PySem.W.selfFirst K C = true
  ne : PySem.W.findIn K (.ref C) "__ne__" = some (some (.builtin "object.__ne__"))
  obj : PySem.W.mroIn K C (.type "object") = some true
  rd : ClX.CRead K C (.type "type")
  cl : PySem.W.findIn K (.ref C) "__class__" = some (some (.builtin "object.__class__"))
  cg : PySem.W.specialIn K (.builtin "object.__class__") "__get__" = some (some (.builtin "getset_descriptor.__get__"))
  ct : PySem.W.takesIn K (.builtin "object.__class__") = some true
  ki : PySem.W.kitOne K (.type "int") (.ref C) = some false
  kt : PySem.W.kitOne K (.type "tuple") (.ref C) = some false
  gcd : mg "gcd" = some (.builtin "math.gcd")
theorem RatioC.ty {K : PySem.W.Frag} {mg : Str → Option Value} {C x : Addr} {H : Hp} {p : Int × Int} (T : RatioC K mg C) (h : RAt H C x p) : TyX K H (.ref x) (.ref C) := let ⟨_, h⟩ := h; .base (.ins h T.cls T.cl T.cg T.ct T.obj)
theorem kit_self {K : PySem.W.Frag} {v : Value} : PySem.W.kitOne K v v = some true := by
  unfold PySem.W.kitOne
  rw [if_pos (by simp)]
theorem y_isC {H : Hp} {Q : VK} {K : PySem.W.Frag} {x : V} {t : Value} {C : Addr} {k : Bool} (ty : TyX K H x t) (e : PySem.W.kitOne K t (.ref C) = some k) (h : Q (.bl k) H) : rIsi K [x, .ref C] H Q := ⟨x, .ref C, t, .ref C, k, rfl, .own C, ty, e, h⟩
theorem y_top {H : Hp} {K : PySem.W.Frag} {mg : Str → Option Value} {C x : Addr} {p : Int × Int} {Q : VK} (T : RatioC K mg C) (h : RAt H C x p) (q : Q (.int p.1) H) : ∃ a C dx fs v, V.ref x = .ref a ∧ H a = some (.ins C dx fs) ∧ Cls K C ∧ NoAttr K C "_top" ∧ fs.lookup ("_top" : Str) = some v ∧ Q v H :=
  let ⟨dx, h⟩ := h; ⟨x, C, dx, rf p, .int p.1, rfl, h, T.cls, T.nT, rf_t p, q⟩
theorem y_bot {H : Hp} {K : PySem.W.Frag} {mg : Str → Option Value} {C x : Addr} {p : Int × Int} {Q : VK} (T : RatioC K mg C) (h : RAt H C x p) (q : Q (.int p.2) H) : ∃ a C dx fs v, V.ref x = .ref a ∧ H a = some (.ins C dx fs) ∧ Cls K C ∧ NoAttr K C "_bottom" ∧ fs.lookup ("_bottom" : Str) = some v ∧ Q v H :=
  let ⟨dx, h⟩ := h; ⟨x, C, dx, rf p, .int p.2, rfl, h, T.cls, T.nB, rf_b p, q⟩
/-! ### promises -/
/-- a new tuple of two ints -/
def New2 (H : Hp) (p : Int × Int) (Q : VK) : Prop := ∀ a H', H a = none → H' a = some (.tup [.int p.1, .int p.2]) → Same H H' → Q (.ref a) H'
/-- a new Ratio -/
def NewR (H : Hp) (C : Addr) (p : Int × Int) (Q : VK) : Prop := ∀ a H', H a = none → RAt H' C a p → Same H H' → Q (.ref a) H'
def spIsInt : Sp := fun vs H Q _ => ∃ i : Int, vs = [.int i] ∧ Q (.bl (okI i)) H
def fracB (p : Int × Int) : Bool := okI p.1 && okI p.2 && decide (1 ≤ p.2) && decide (Nat.gcd p.1.natAbs p.2.natAbs = 1)
def spIsFrac (K : PySem.W.Frag) : Sp := fun vs H Q _ => ∃ (a : Addr) (p : Int × Int), vs = [.ref a] ∧ H a = some (.tup [.int p.1, .int p.2]) ∧ Q (.bl (fracB p)) H
def spLowest : Sp := fun vs H Q _ => ∃ t b : Int, vs = [.int t, .int b] ∧ b ≠ 0 ∧ t.natAbs < 2 ^ 4000 ∧ b.natAbs < 2 ^ 4000 ∧ New2 H (low t b) Q
def spShort : Sp := fun vs H Q _ => ∃ (a : Addr) (p : Int × Int), vs = [.ref a] ∧ H a = some (.tup [.int p.1, .int p.2]) ∧ okI p.1 = true ∧ okI p.2 = true ∧ Q (.ref a) H
def spInit (C : Addr) : Sp := fun vs H Q _ => ∃ (x dx : Addr) (t b : Int), vs = [.ref x, .int t, .int b] ∧ H x = some (.ins C dx []) ∧ okI t = true ∧ okI b = true ∧ b ≠ 0 ∧
  ∀ H', RAt H' C x (low t b) → (∀ c o, H c = some o → c ≠ x → H' c = some o) → Q .non H'
def spRatio (C : Addr) : Sp := fun vs H Q _ => ∃ t b : Int, vs = [.int t, .int b] ∧ b ≠ 0 ∧ t.natAbs < 2 ^ 4000 ∧ b.natAbs < 2 ^ 4000 ∧ okI (lowT t b) = true ∧ okI (lowB t b) = true ∧ NewR H C (low t b) Q
def spOper (C : Addr) : Sp := fun vs H Q _ => ∃ (v : V) (q : Int × Int), vs = [v] ∧ Opn H C v q ∧ okI q.1 = true ∧ New2 H q Q
def spPair (C : Addr) : Sp := fun vs H Q _ => ∃ (x : Addr) (p : Int × Int), vs = [.ref x] ∧ RAt H C x p ∧ New2 H p Q
def spTop (C : Addr) : Sp := fun vs H Q _ => ∃ (x : Addr) (p : Int × Int), vs = [.ref x] ∧ RAt H C x p ∧ Q (.int p.1) H
def spBot (C : Addr) : Sp := fun vs H Q _ => ∃ (x : Addr) (p : Int × Int), vs = [.ref x] ∧ RAt H C x p ∧ Q (.int p.2) H
def addP (p q : Int × Int) : Int × Int := low (p.1 * q.2 + q.1 * p.2) (p.2 * q.2)
def spAdd (C : Addr) : Sp := fun vs H Q _ => ∃ (x : Addr) (v : V) (p q : Int × Int), vs = [.ref x, v] ∧ RAt H C x p ∧ Fine p ∧ Opn H C v q ∧ Fine q ∧ okI (addP p q).1 = true ∧ okI (addP p q).2 = true ∧ NewR H C (addP p q) Q
def negP (p : Int × Int) : Int × Int := (-p.1, p.2)
def spNeg (C : Addr) : Sp := fun vs H Q _ => ∃ (x : Addr) (p : Int × Int), vs = [.ref x] ∧ RAt H C x p ∧ Fine p ∧ NewR H C (negP p) Q
def spEqR (C : Addr) : Sp := fun vs H Q _ => ∃ (x y : Addr) (p q : Int × Int), vs = [.ref x, .ref y] ∧ RAt H C x p ∧ RAt H C y q ∧ Q (.bl (decide (p = q))) H
def lessP (p q : Int × Int) : Bool := decide (p.1 * q.2 < q.1 * p.2)
def spBelow (C : Addr) : Sp := fun vs H Q _ => ∃ (x : Addr) (v : V) (p q : Int × Int), vs = [.ref x, v] ∧ RAt H C x p ∧ Fine p ∧ Opn H C v q ∧ Fine q ∧ ∀ H', Same H H' → Q (.bl (lessP p q)) H'
def spOf (C : Addr) : Sp := fun vs H Q _ => ∃ (a : Addr) (p : Int × Int), vs = [.ref C, .ref a] ∧ H a = some (.tup [.int p.1, .int p.2]) ∧ Fine p ∧ NewR H C p Q
/-! ### the laws' own fractions -/
theorem lowT_eq {t b : Int} (h : b ≠ 0) : ((if b < 0 then -1 else 1) * t) / gI t b = lowT t b := by
  obtain ⟨c, hc, ht, hb, hp, hn⟩ := low_ex (t := t) h
  have hg := gI_pos (t := t) h
  have e : (if b < 0 then -1 else 1) * c = gI t b := by
    have : (gI t b) = (c.natAbs : Int) := by unfold gI; rw [hn]
    rw [this]
    split <;> omega
  have e2 : (if b < 0 then -1 else 1) * t = gI t b * lowT t b := by
    rw [← e, Int.mul_assoc, ← ht]
  rw [e2, Int.mul_ediv_cancel_left _ (by omega)]
theorem lowB_eq {t b : Int} (h : b ≠ 0) : ((if b < 0 then -1 else 1) * b) / gI t b = lowB t b := by
  obtain ⟨c, hc, ht, hb, hp, hn⟩ := low_ex (t := t) h
  have hg := gI_pos (t := t) h
  have e : (if b < 0 then -1 else 1) * c = gI t b := by
    have : (gI t b) = (c.natAbs : Int) := by unfold gI; rw [hn]
    rw [this]
    split <;> omega
  have e2 : (if b < 0 then -1 else 1) * b = gI t b * lowB t b := by
    rw [← e, Int.mul_assoc, ← hb]
  rw [e2, Int.mul_ediv_cancel_left _ (by omega)]
def spLRatio : Sp := fun vs H Q _ => ∃ t b : Int, vs = [.int t, .int b] ∧ b ≠ 0 ∧ t.natAbs < 2 ^ 4000 ∧ b.natAbs < 2 ^ 4000 ∧ New2 H (low t b) Q
def spLPlus (K : PySem.W.Frag) : Sp := fun vs H Q _ => ∃ (a b : Addr) (p q : Int × Int), vs = [.ref a, .ref b] ∧ SqT K H a [.int p.1, .int p.2] ∧ SqT K H b [.int q.1, .int q.2] ∧ Fine p ∧ Fine q ∧ New2 H (addP p q) Q
/-- the small fractions that the laws draw -/
def fracs : List (Int × Int) := ((List.range 13).map fun (i : Nat) => ((i : Int) - 6)).flatMap fun t => [1, 2, 3, 4, 5, 6].map fun b => low t b
def spLFrac : Sp := fun vs H Q _ => ∃ d, vs = [.ref d] ∧ DiceAt H d ∧ ∀ (p : Int × Int) (a : Addr) (H' : Hp), p ∈ fracs → H a = none → H' a = some (.tup [.int p.1, .int p.2]) → DiceAt H' d → Fr d H H' → Q (.ref a) H'
theorem fracs_mem {t b : Int} (h0 : -6 ≤ t) (h1 : t ≤ 6) (hb : b ∈ [1, 2, 3, 4, 5, (6 : Int)]) : low t b ∈ fracs := by
  unfold fracs
  refine List.mem_flatMap.mpr ⟨t, List.mem_map.mpr ⟨(t + 6).toNat, List.mem_range.mpr (by omega), by omega⟩, List.mem_map.mpr ⟨b, hb, rfl⟩⟩
def smallP (p : Int × Int) : Bool := decide (p.1.natAbs ≤ 2 ^ 60) && decide (p.2.natAbs ≤ 2 ^ 60) && decide (0 < p.2) && decide (Nat.gcd p.1.natAbs p.2.natAbs = 1)
theorem fine_small {p : Int × Int} (h : smallP p = true) : Fine p := by
  unfold smallP at h
  simp only [Bool.and_eq_true, decide_eq_true_eq] at h
  exact ⟨okI_small (by omega), okI_small (by omega), h.1.2, h.2⟩
theorem fracs_small : ∀ p ∈ fracs, smallP p = true := by decide +kernel
/-! ### a sorted list of pairs -/
theorem c_sortP {X : Cx} {K : PySem.W.Frag} (h : X.K = K := by rfl) : CallR X (.builtin "sorted") (rSortedPO K) := h ▸ cr_sortedPO
/-- the pair that stands at a reference -/
def keyAt (H : Hp) (v : V) : Int × Int := match v with
  | .ref t => (match H t with
    | some (.tup [.int i, .int j]) => (i, j)
    | _ => (0, 0))
  | _ => (0, 0)
theorem keyAt_of {H : Hp} {t : Addr} {i j : Int} (h : H t = some (.tup [.int i, .int j])) : keyAt H (.ref t) = (i, j) := by
  unfold keyAt
  simp only [h]
def spLaw (K : PySem.W.Frag) : Sp := fun vs H Q _ => ∃ (a : Addr) (ns : List Int), vs = [.ref a] ∧ SqL K H a (ns.map V.int) ∧ ns.length ≤ 63 ∧ ∀ H', Q (.bl true) H'
/-- behind C(..): all that stood stands -/
theorem ini_same {H H2 : Hp} {x dx : Addr} {o : HO} {u : HO} (n1 : H x = none) (n2 : H dx = none) (n3 : dx ≠ x) (c : ∀ c o', (upd (upd H dx u) x o) c = some o' → c ≠ x → H2 c = some o') : Same H H2 := fun b o' h => by
  have nb : b ≠ x := fun e => by
    rw [e, n1] at h
    cases h
  have nd : b ≠ dx := fun e => by
    rw [e, n2] at h
    cases h
  exact c b o' (by rw [upd_ne nb, upd_ne nd]; exact h) nb
/-! ### facts that the head tells as truth values -/
theorem ex_at {l : List Bool} {n : Nat} {b : Bool} (h : l = List.replicate n true) (i' : Nat) (e : l[i']? = some b) : b = true := by
  rw [h] at e
  exact (List.eq_of_mem_replicate (List.mem_of_getElem? e))
def propB (K : PySem.W.Frag) (C : Addr) (m : Str) : Bool := decide (PySem.W.findIn K (.ref C) m = some (some (.ref (He.ma K C m)))) && (decide (PySem.W.specialIn K (.ref (He.ma K C m)) "__get__" = some (some (.builtin "property.__get__"))) && (decide (PySem.W.takesIn K (.ref (He.ma K C m)) = some true) && (match PySem.W.recIn K (He.ma K C m) "property" with
    | some (.ref _ :: _) => true
    | _ => false)))
theorem propB_ok {K : PySem.W.Frag} {C : Addr} {m : Str} (h : propB K C m = true) : PropOf K C m (He.ma K C m) (He5.wf K C "property" m) := by
  obtain ⟨h1, h⟩ := He.ba h
  obtain ⟨h2, h⟩ := He.ba h
  obtain ⟨h3, h4⟩ := He.ba h
  refine ⟨of_decide_eq_true h1, of_decide_eq_true h2, of_decide_eq_true h3, ?_⟩
  unfold He5.wf
  split at h4
  · rename_i g r e
    exact ⟨r, by rw [e]⟩
  · cases h4
end Ow
/-! Fractions: what reckoning keeps, more promises. -/
namespace Ow
open PySem PySem.Spec PyProof.Rows L2
/-! ### lowest terms of multiples -/
theorem div_mul {c x y : Int} (hc : c ≠ 0) (hy : y ≠ 0) : (if c * y < 0 then -gI (c * x) (c * y) else gI (c * x) (c * y)) = c * (if y < 0 then -gI x y else gI x y) := by
  have e : gI (c * x) (c * y) = (c.natAbs : Int) * gI x y := by
    unfold gI
    rw [Int.natAbs_mul, Int.natAbs_mul, Nat.gcd_mul_left, Int.natCast_mul]
  rw [e]
  rcases Int.lt_or_gt_of_ne hc with h | h <;> rcases Int.lt_or_gt_of_ne hy with g | g
  · have p := Int.mul_pos_of_neg_of_neg h g
    have a : (c.natAbs : Int) = -c := by omega
    rw [if_neg (by omega), if_pos g, a, Int.neg_mul, Int.mul_neg]
  · have p := Int.mul_neg_of_neg_of_pos h g
    have a : (c.natAbs : Int) = -c := by omega
    rw [if_pos p, if_neg (by omega), a, Int.neg_mul, Int.neg_neg]
  · have p := Int.mul_neg_of_pos_of_neg h g
    have a : (c.natAbs : Int) = c := by omega
    rw [if_pos p, if_pos g, a, Int.mul_neg]
  · have p := Int.mul_pos h g
    have a : (c.natAbs : Int) = c := by omega
    rw [if_neg (by omega), if_neg (by omega), a]
theorem low_mul {c x y : Int} (hc : c ≠ 0) (hy : y ≠ 0) : low (c * x) (c * y) = low x y := by
  have hd : (if y < 0 then -gI x y else gI x y) ≠ 0 := by
    have := gI_pos (t := x) hy
    split <;> omega
  have hcd : c * (if y < 0 then -gI x y else gI x y) ≠ 0 := Int.mul_ne_zero hc hd
  obtain ⟨u, hu⟩ : (if y < 0 then -gI x y else gI x y) ∣ x := by
    split
    · exact Int.neg_dvd.mpr gI_dvd_t
    · exact gI_dvd_t
  obtain ⟨v, hv⟩ : (if y < 0 then -gI x y else gI x y) ∣ y := by
    split
    · exact Int.neg_dvd.mpr gI_dvd_b
    · exact gI_dvd_b
  unfold low lowT lowB
  rw [div_mul hc hy]
  generalize (if y < 0 then -gI x y else gI x y) = D at *
  subst hu
  subst hv
  rw [← Int.mul_assoc, ← Int.mul_assoc, Int.mul_fdiv_cancel_left _ hcd, Int.mul_fdiv_cancel_left _ hcd, Int.mul_fdiv_cancel_left _ hd, Int.mul_fdiv_cancel_left _ hd]
theorem low_of {t b u v : Int} (hb : b ≠ 0) (hv : v ≠ 0) (h : t * v = u * b) : low t b = low u v := by
  rw [← low_mul (x := t) hv hb, ← low_mul (x := u) hb hv, Int.mul_comm v t, h, Int.mul_comm u b, Int.mul_comm v b]
def subP (p q : Int × Int) : Int × Int := low (p.1 * q.2 - q.1 * p.2) (p.2 * q.2)
def mulP (p q : Int × Int) : Int × Int := low (p.1 * q.1) (p.2 * q.2)
def overP (p q : Int × Int) : Int × Int := low (p.1 * q.2) (p.2 * q.1)
def absP (p : Int × Int) : Int × Int := ((p.1.natAbs : Int), p.2)
section
variable {t b : Int} {p q r : Int × Int}
theorem sub_low (hb : b ≠ 0) (hq : q.2 ≠ 0) : subP (low t b) q = low (t * q.2 - q.1 * b) (b * q.2) := by
  obtain ⟨c, hc, h1, h2, _, _⟩ := low_ex (t := t) hb
  have hB : lowB t b ≠ 0 := fun e => hb (by rw [h2, e, Int.mul_zero])
  have e : low (t * q.2 - q.1 * b) (b * q.2) = low (c * (lowT t b * q.2 - q.1 * lowB t b)) (c * (lowB t b * q.2)) := by
    congr 1
    · conv => lhs; rw [h1, h2]
      grind
    · conv => lhs; rw [h2]
      grind
  rw [e, low_mul hc (Int.mul_ne_zero hB hq)]
  rfl
theorem add_low (hb : b ≠ 0) (hq : q.2 ≠ 0) : addP (low t b) q = low (t * q.2 + q.1 * b) (b * q.2) := by
  obtain ⟨c, hc, h1, h2, _, _⟩ := low_ex (t := t) hb
  have hB : lowB t b ≠ 0 := fun e => hb (by rw [h2, e, Int.mul_zero])
  have e : low (t * q.2 + q.1 * b) (b * q.2) = low (c * (lowT t b * q.2 + q.1 * lowB t b)) (c * (lowB t b * q.2)) := by
    congr 1
    · conv => lhs; rw [h1, h2]
      grind
    · conv => lhs; rw [h2]
      grind
  rw [e, low_mul hc (Int.mul_ne_zero hB hq)]
  rfl
theorem mul_low (hb : b ≠ 0) (hq : q.2 ≠ 0) : mulP (low t b) q = low (t * q.1) (b * q.2) := by
  obtain ⟨c, hc, h1, h2, _, _⟩ := low_ex (t := t) hb
  have hB : lowB t b ≠ 0 := fun e => hb (by rw [h2, e, Int.mul_zero])
  have e : low (t * q.1) (b * q.2) = low (c * (lowT t b * q.1)) (c * (lowB t b * q.2)) := by
    congr 1
    · conv => lhs; rw [h1]
      grind
    · conv => lhs; rw [h2]
      grind
  rw [e, low_mul hc (Int.mul_ne_zero hB hq)]
  rfl
theorem over_low (hb : b ≠ 0) (hq : q.1 ≠ 0) : overP (low t b) q = low (t * q.2) (b * q.1) := by
  obtain ⟨c, hc, h1, h2, _, _⟩ := low_ex (t := t) hb
  have hB : lowB t b ≠ 0 := fun e => hb (by rw [h2, e, Int.mul_zero])
  have e : low (t * q.2) (b * q.1) = low (c * (lowT t b * q.2)) (c * (lowB t b * q.1)) := by
    congr 1
    · conv => lhs; rw [h1]
      grind
    · conv => lhs; rw [h2]
      grind
  rw [e, low_mul hc (Int.mul_ne_zero hB hq)]
  rfl
theorem add_comm' : addP p q = addP q p := by
  unfold addP
  rw [Int.add_comm, Int.mul_comm p.2 q.2]
theorem mul_comm' : mulP p q = mulP q p := by
  unfold mulP
  rw [Int.mul_comm p.1 q.1, Int.mul_comm p.2 q.2]
theorem nz (h : Low p) : p.2 ≠ 0 := Int.ne_of_gt h.1
theorem add_sub (hp : Low p) (hq : Low q) : subP (addP p q) q = p := by
  have h1 := nz hp
  have h2 := nz hq
  unfold addP
  rw [sub_low (Int.mul_ne_zero h1 h2) h2, low_of (Int.mul_ne_zero (Int.mul_ne_zero h1 h2) h2) h1 (u := p.1) (by grind), low_fix hp]
theorem sub_self' (hp : Low p) : subP p p = (0, 1) := by
  have h1 := nz hp
  unfold subP
  rw [low_of (Int.mul_ne_zero h1 h1) (show (1 : Int) ≠ 0 by decide) (u := 0) (by grind)]
  decide
theorem mul_over (hp : Low p) (hq : Low q) (h0 : q.1 ≠ 0) : overP (mulP p q) q = p := by
  have h1 := nz hp
  have h2 := nz hq
  unfold mulP
  rw [over_low (Int.mul_ne_zero h1 h2) h0, low_of (Int.mul_ne_zero (Int.mul_ne_zero h1 h2) h0) h1 (u := p.1) (by grind), low_fix hp]
theorem mul_add' (hp : Low p) (hq : Low q) (hr : Low r) : mulP p (addP q r) = addP (mulP p q) (mulP p r) := by
  have h1 := nz hp
  have h2 := nz hq
  have h3 := nz hr
  have hm : (mulP p r).2 ≠ 0 := nz (low_low (Int.mul_ne_zero h1 h3))
  rw [mul_comm']
  unfold addP
  rw [mul_low (Int.mul_ne_zero h2 h3) h1]
  show _ = addP (mulP p q) (mulP p r)
  rw [show mulP p q = low (p.1 * q.1) (p.2 * q.2) from rfl, add_low (Int.mul_ne_zero h1 h2) hm]
  have e : low ((p.1 * q.1) * (mulP p r).2 + (mulP p r).1 * (p.2 * q.2)) ((p.2 * q.2) * (mulP p r).2) = addP (mulP p r) (p.1 * q.1, p.2 * q.2) := by
    unfold addP
    congr 1
    · grind
    · grind
  rw [e, show mulP p r = low (p.1 * r.1) (p.2 * r.2) from rfl, add_low (Int.mul_ne_zero h1 h3) (Int.mul_ne_zero h1 h2)]
  exact low_of (Int.mul_ne_zero (Int.mul_ne_zero h2 h3) h1) (Int.mul_ne_zero (Int.mul_ne_zero h1 h3) (Int.mul_ne_zero h1 h2)) (by grind)
end
/-- powers by multiplying, before lowest terms -/
def pw (p : Int × Int) : Nat → Int × Int
  | 0 => (1, 1)
  | n + 1 => ((pw p n).1 * p.1, (pw p n).2 * p.2)
theorem pw_nz {p : Int × Int} (h : p.2 ≠ 0) : ∀ n, (pw p n).2 ≠ 0
  | 0 => by show (1 : Int) ≠ 0; decide
  | n + 1 => Int.mul_ne_zero (pw_nz h n) h
theorem pw_nz1 {p : Int × Int} (h : p.1 ≠ 0) : ∀ n, (pw p n).1 ≠ 0
  | 0 => by show (1 : Int) ≠ 0; decide
  | n + 1 => Int.mul_ne_zero (pw_nz1 h n) h
theorem pw_mul {p : Int × Int} (h : p.2 ≠ 0) (n : Nat) : mulP (low (pw p n).1 (pw p n).2) p = low (pw p (n + 1)).1 (pw p (n + 1)).2 := mul_low (pw_nz h n) h
theorem pw_over {p : Int × Int} (h : p.1 ≠ 0) (n : Nat) : overP (low (pw p n).2 (pw p n).1) p = low (pw p (n + 1)).2 (pw p (n + 1)).1 := over_low (pw_nz1 h n) h
/-- digits -/
def Bd (n : Nat) (p : Int × Int) : Prop := p.1.natAbs < 2 ^ n ∧ p.2.natAbs < 2 ^ n
theorem Bd.up {n m : Nat} {p : Int × Int} (h : Bd n p) (l : n ≤ m) : Bd m p := ⟨up_lt h.1 l, up_lt h.2 l⟩
theorem bd_low {n : Nat} {t b : Int} (h0 : b ≠ 0) (h : Bd n (t, b)) : Bd n (low t b) := ⟨Nat.lt_of_le_of_lt (low_le h0).1 h.1, Nat.lt_of_le_of_lt (low_le h0).2 h.2⟩
theorem okI_bd {i : Int} {n : Nat} (h : i.natAbs < 2 ^ n) (l : n ≤ 990) : okI i = true := okI_iff.mpr (Nat.lt_of_lt_of_le (up_lt h l) (by decide +kernel))
theorem Bd.ok {n : Nat} {p : Int × Int} (h : Bd n p) (l : n ≤ 990) : okI p.1 = true ∧ okI p.2 = true := ⟨okI_bd h.1 l, okI_bd h.2 l⟩
theorem Bd.fine {n : Nat} {p : Int × Int} (h : Bd n p) (l : n ≤ 990) (L : Low p) : Fine p := ⟨(h.ok l).1, (h.ok l).2, L⟩
section
variable {n m : Nat} {p q : Int × Int}
theorem bd_add (hp : Bd n p) (hq : Bd m q) (lp : Low p) (lq : Low q) : Bd (n + m + 1) (addP p q) ∧ Low (addP p q) := by
  have h := Int.mul_ne_zero (nz lp) (nz lq)
  have x := mul_lt hq.1 hp.2
  rw [Nat.add_comm m n] at x
  exact ⟨bd_low h ⟨add_lt (mul_lt hp.1 hq.2) x, up_lt (mul_lt hp.2 hq.2) (by omega)⟩, low_low h⟩
theorem bd_sub (hp : Bd n p) (hq : Bd m q) (lp : Low p) (lq : Low q) : Bd (n + m + 1) (subP p q) ∧ Low (subP p q) := by
  have h := Int.mul_ne_zero (nz lp) (nz lq)
  have x := mul_lt hq.1 hp.2
  rw [Nat.add_comm m n] at x
  exact ⟨bd_low h ⟨sub_lt (mul_lt hp.1 hq.2) x, up_lt (mul_lt hp.2 hq.2) (by omega)⟩, low_low h⟩
theorem bd_mul (hp : Bd n p) (hq : Bd m q) (lp : Low p) (lq : Low q) : Bd (n + m) (mulP p q) ∧ Low (mulP p q) := by
  have h := Int.mul_ne_zero (nz lp) (nz lq)
  exact ⟨bd_low h ⟨mul_lt hp.1 hq.1, mul_lt hp.2 hq.2⟩, low_low h⟩
theorem bd_over (hp : Bd n p) (hq : Bd m q) (lp : Low p) (h0 : q.1 ≠ 0) : Bd (n + m) (overP p q) ∧ Low (overP p q) := by
  have h := Int.mul_ne_zero (nz lp) h0
  exact ⟨bd_low h ⟨mul_lt hp.1 hq.2, mul_lt hp.2 hq.1⟩, low_low h⟩
theorem bd_pw (hp : Bd n p) : ∀ k, Bd (n * k + 1) (pw p k)
  | 0 => ⟨by show Int.natAbs 1 < 2 ^ (0 + 1); decide, by show Int.natAbs 1 < 2 ^ (0 + 1); decide⟩
  | k + 1 => by
    have h := bd_pw hp k
    have e : n * (k + 1) + 1 = n * k + 1 + n := by rw [Nat.mul_succ]; omega
    rw [e]
    exact ⟨mul_lt h.1 hp.1, mul_lt h.2 hp.2⟩
end
/-! ### texts -/
def tI (i : Int) : Str := (toString i : String)
def txt (p : Int × Int) : Str := if p.2 = 1 then tI p.1 else tI p.1 ++ "/" ++ tI p.2
theorem tI_len {i : Int} (h : okI i = true) : (tI i).length ≤ 301 := by
  have e := int_text_length_le10 (k := 300) (by decide) (okI_iff.mp h)
  unfold tI
  show (Str.ofString _).length ≤ _
  rw [PySem.ofString_length]
  exact e
theorem tI_log {i : Int} (h : okI i = true) : i.natAbs.log2 < 1920 := PySem.Flt.log2_lt_of (by decide) (Nat.lt_trans (okI_nat h) (by decide))
theorem strOk_iff {x : Str} : PyData.strOk x = true ↔ ∀ c ∈ x.cps.toList, c < 0x110000 := by
  unfold PyData.strOk
  rw [← Array.all_toList, List.all_eq_true]
  exact ⟨fun h c m => of_decide_eq_true (h c m), fun h c m => decide_eq_true (h c m)⟩
theorem tI_ok (i : Int) : PyData.strOk (tI i) = true := strOk_iff.mpr fun c m => by
  apply Decidable.byContradiction
  intro h
  exact int_text_free' c ⟨by omega, by omega⟩ i m
theorem ok_app {x y : Str} (h : PyData.strOk x = true) (g : PyData.strOk y = true) : PyData.strOk (x ++ y) = true := strOk_iff.mpr fun c m => by
  rw [Str.cps_append, Array.toList_append] at m
  rcases List.mem_append.mp m with m | m
  · exact strOk_iff.mp h c m
  · exact strOk_iff.mp g c m
theorem txt_ok (p : Int × Int) : PyData.strOk (txt p) = true := by
  unfold txt
  split
  · exact tI_ok _
  · exact ok_app (ok_app (tI_ok _) (by decide +kernel)) (tI_ok _)
/-! ### promises -/
def powP (p : Int × Int) (e : Int) : Int × Int := if e < 0 then low (pw p e.natAbs).2 (pw p e.natAbs).1 else low (pw p e.natAbs).1 (pw p e.natAbs).2
def sgn (i : Int) : Int := if i < 0 then -1 else if 0 < i then 1 else 0
def spSign (C : Addr) : Sp := fun vs H Q _ => ∃ (x : Addr) (p : Int × Int), vs = [.ref x] ∧ RAt H C x p ∧ Q (.int (sgn p.1)) H
def spWhole (C : Addr) : Sp := fun vs H Q _ => ∃ (x : Addr) (p : Int × Int), vs = [.ref x] ∧ RAt H C x p ∧ Fine p ∧ Q (.int (p.1 / p.2)) H
def spTextOf : Sp := fun vs H Q _ => ∃ (a : Addr) (p : Int × Int), vs = [.ref a] ∧ H a = some (.tup [.int p.1, .int p.2]) ∧ okI p.1 = true ∧ okI p.2 = true ∧ Q (.str (txt p)) H
def spText (C : Addr) : Sp := fun vs H Q _ => ∃ (x : Addr) (p : Int × Int), vs = [.ref x] ∧ RAt H C x p ∧ Fine p ∧ ∀ H', Same H H' → Q (.str (txt p)) H'
def spBool (C : Addr) : Sp := fun vs H Q _ => ∃ (x : Addr) (p : Int × Int), vs = [.ref x] ∧ RAt H C x p ∧ Q (.bl (p.1 != 0)) H
def spSub (C : Addr) : Sp := fun vs H Q _ => ∃ (x : Addr) (v : V) (p q : Int × Int), vs = [.ref x, v] ∧ RAt H C x p ∧ Fine p ∧ Opn H C v q ∧ Fine q ∧ okI (subP p q).1 = true ∧ okI (subP p q).2 = true ∧ NewR H C (subP p q) Q
def spMul (C : Addr) : Sp := fun vs H Q _ => ∃ (x : Addr) (v : V) (p q : Int × Int), vs = [.ref x, v] ∧ RAt H C x p ∧ Fine p ∧ Opn H C v q ∧ Fine q ∧ okI (mulP p q).1 = true ∧ okI (mulP p q).2 = true ∧ NewR H C (mulP p q) Q
def spDiv (C : Addr) : Sp := fun vs H Q _ => ∃ (x : Addr) (v : V) (p q : Int × Int), vs = [.ref x, v] ∧ RAt H C x p ∧ Fine p ∧ Opn H C v q ∧ Fine q ∧ q.1 ≠ 0 ∧ okI (overP p q).1 = true ∧ okI (overP p q).2 = true ∧ NewR H C (overP p q) Q
def spAbs (C : Addr) : Sp := fun vs H Q _ => ∃ (x : Addr) (p : Int × Int), vs = [.ref x] ∧ RAt H C x p ∧ Fine p ∧ NewR H C (absP p) Q
def spEqX (K : PySem.W.Frag) (C : Addr) : Sp := fun vs H Q _ => ∃ (x : Addr) (v : V) (p : Int × Int), vs = [.ref x, v] ∧ RAt H C x p ∧ ((∃ y q, v = .ref y ∧ RAt H C y q ∧ Q (.bl (decide (p = q))) H) ∨ ∃ t, TyX K H v t ∧ PySem.W.kitOne K t (.ref C) = some false ∧ Q (.bl false) H)
def spPow (C : Addr) : Sp := fun vs H Q _ => ∃ (x : Addr) (p : Int × Int) (e : Int), vs = [.ref x, .int e] ∧ RAt H C x p ∧ Low p ∧ Bd 140 p ∧ e.natAbs ≤ 3 ∧ (e < 0 → p.1 ≠ 0) ∧ NewR H C (powP p e) Q
def spLMinus (K : PySem.W.Frag) : Sp := fun vs H Q _ => ∃ (a b : Addr) (p q : Int × Int), vs = [.ref a, .ref b] ∧ SqT K H a [.int p.1, .int p.2] ∧ SqT K H b [.int q.1, .int q.2] ∧ Fine p ∧ Fine q ∧ New2 H (subP p q) Q
def spLTimes (K : PySem.W.Frag) : Sp := fun vs H Q _ => ∃ (a b : Addr) (p q : Int × Int), vs = [.ref a, .ref b] ∧ SqT K H a [.int p.1, .int p.2] ∧ SqT K H b [.int q.1, .int q.2] ∧ Fine p ∧ Fine q ∧ New2 H (mulP p q) Q
def spLOver (K : PySem.W.Frag) : Sp := fun vs H Q _ => ∃ (a b : Addr) (p q : Int × Int), vs = [.ref a, .ref b] ∧ SqT K H a [.int p.1, .int p.2] ∧ SqT K H b [.int q.1, .int q.2] ∧ Fine p ∧ Fine q ∧ q.1 ≠ 0 ∧ New2 H (overP p q) Q
def spLLess (K : PySem.W.Frag) : Sp := fun vs H Q _ => ∃ (a b : Addr) (p q : Int × Int), vs = [.ref a, .ref b] ∧ SqT K H a [.int p.1, .int p.2] ∧ SqT K H b [.int q.1, .int q.2] ∧ Fine p ∧ Fine q ∧ Q (.bl (lessP p q)) H
def spLText (K : PySem.W.Frag) : Sp := fun vs H Q _ => ∃ (a : Addr) (p : Int × Int), vs = [.ref a] ∧ SqT K H a [.int p.1, .int p.2] ∧ Fine p ∧ Q (.str (txt p)) H
def spLPow (K : PySem.W.Frag) : Sp := fun vs H Q _ => ∃ (a : Addr) (p : Int × Int) (e : Int), vs = [.ref a, .int e] ∧ H a = some (.tup [.int p.1, .int p.2]) ∧ Low p ∧ Bd 140 p ∧ e.natAbs ≤ 3 ∧ (e < 0 → p.1 ≠ 0) ∧ New2 H (powP p e) Q
def spLGreat : Sp := fun vs H Q _ => ∃ d, vs = [.ref d] ∧ DiceAt H d ∧ ∀ (p : Int × Int) (a : Addr) (H' : Hp), Low p → Bd 140 p → H a = none → H' a = some (.tup [.int p.1, .int p.2]) → DiceAt H' d → Fr d H H' → Q (.ref a) H'
def spLTold (C : Addr) : Sp := fun vs H Q _ => ∃ (x a : Addr) (p : Int × Int), vs = [.ref x, .ref a] ∧ RAt H C x p ∧ H a = some (.tup [.int p.1, .int p.2]) ∧ Fine p ∧ ∀ H', Same H H' → Q (.bl true) H'
def spLRight : Sp := fun vs H Q _ => ∃ d, vs = [.ref d] ∧ DiceAt H d ∧ ∀ H', DiceAt H' d → Fr d H H' → Q (.bl true) H'
theorem fracs_fine {p : Int × Int} (h : p ∈ fracs) : Low p ∧ Bd 140 p := by
  have a : (fracs.all fun p => decide (0 < p.2) && (decide (Nat.gcd p.1.natAbs p.2.natAbs = 1) && (decide (p.1.natAbs < 100) && decide (p.2.natAbs < 100)))) = true := by decide +kernel
  have a := List.all_eq_true.mp a p h
  simp only [Bool.and_eq_true, decide_eq_true_eq] at a
  exact ⟨⟨a.1, a.2.1⟩, Nat.lt_trans a.2.2.1 (by decide), Nat.lt_trans a.2.2.2 (by decide)⟩
theorem low_abs {p : Int × Int} (h : Low p) : low (p.1.natAbs : Int) p.2 = absP p := low_fix (p := absP p) ⟨h.1, h.2⟩
theorem q_str {X : Cx} {k : Nat} {C : Addr} {ps : List Str} {sp : Sp} (c : Mth X.prog X.w X.K X.mg X.base k C "__str__" ps sp) (hr : Room (k + 2) X.A) : CallR X (.type "str") (rOwnT C sp isTxt) := by
  obtain ⟨f, fd, F, hm, hb⟩ := c.ex
  exact k_strO F hr hb ⟨hm.at_, hm.fn⟩
theorem q_bool {X : Cx} {k : Nat} {C : Addr} {ps : List Str} {sp : Sp} (c : Mth X.prog X.w X.K X.mg X.base k C "__bool__" ps sp) (hr : Room (k + 2) X.A) : CallR X (.type "bool") (rOwnT C sp isTru) := by
  obtain ⟨f, fd, F, hm, hb⟩ := c.ex
  exact k_boolO F hr hb ⟨hm.at_, hm.fn⟩
def rOwnA (C : Addr) (sp : Sp) : List V → Hp → VK → Prop := fun xs H Q => ∃ a dx fs, xs = [.ref a] ∧ H a = some (.ins C dx fs) ∧ sp [.ref a] H Q E0
theorem q_abs {X : Cx} {k : Nat} {C : Addr} {ps : List Str} {sp : Sp} (c : Mth X.prog X.w X.K X.mg X.base k C "__abs__" ps sp) (hr : Room (k + 1) X.A) : CallR X (.builtin "abs") (rOwnA C sp) := by
  obtain ⟨f, fd, F, hm, hb⟩ := c.ex
  exact k_absO F hr hb ⟨hm.at_, hm.fn⟩
theorem q_eqX {X : Cx} {K : PySem.W.Frag} {k : Nat} {C : Addr} {ps : List Str} {sp : Sp} (c : Mth X.prog X.w X.K X.mg X.base k C "__eq__" ps sp) (hr : Room k X.A) (h : X.K = K := by rfl) : OpR X (compareOp .Eq) (rOwnEqX K C sp) := by
  subst h
  obtain ⟨f, fd, F, hm, hb⟩ := c.ex
  exact k_eqX F hr hb ⟨hm.at_, hm.fn⟩
theorem y_absI {i : Int} {H : Hp} {Q : VK} (h : Q (.int (i.natAbs : Int)) H) : rAbs [.int i] H Q := y_abs h
theorem y_neB {i j : Bool} {H : Hp} {Q : VK} (h : Q (.bl (!decide (i = j))) H) : rNe (.bl i) (.bl j) H Q := ⟨rfl, by
  have e : decide (V.bl i = V.bl j) = decide (i = j) := by
    rw [decide_eq_decide]
    exact ⟨fun z => V.bl.inj z, fun z => by rw [z]⟩
  rw [e]
  exact h⟩
theorem dice_neT {H : Hp} {d a : Addr} {xs : List V} (hD : DiceAt H d) (h : H a = some (.tup xs)) : a ≠ d := fun e => by
  obtain ⟨_, _, _, hd⟩ := hD
  rw [e, hd] at h
  cases h
theorem dice_neR {H : Hp} {d a C : Addr} {p : Int × Int} (hD : DiceAt H d) (h : RAt H C a p) : a ≠ d := fun e => by
  obtain ⟨_, _, _, hd⟩ := hD
  obtain ⟨dx, h⟩ := h
  rw [e, hd] at h
  cases h
def tq (t : Int × Int) : PyData := .tuple [.int t.1, .int t.2]
theorem tp {K : PySem.W.Frag} {H : Hp} {a : Addr} {p : Int × Int} (h : H a = some (.tup [.int p.1, .int p.2])) : Dp K H (.ref a) (tq p) := .tup (sqt h) (.cons (.int _) (.cons (.int _) .nil))
theorem dp_pairs {K : PySem.W.Frag} {H : Hp} : ∀ (rs : List Addr) (ps : List (Int × Int)), rs.length = ps.length → (∀ (m : Nat) (r : Addr), rs[m]? = some r → ∃ t, ps[m]? = some t ∧ H r = some (.tup [.int t.1, .int t.2])) → DpAll K H (rs.map V.ref) (ps.map tq)
  | [], [], _, _ => .nil
  | [], _ :: _, h, _ => by cases h
  | _ :: _, [], h, _ => by cases h
  | r :: rs, t :: ts, h, g => by
    obtain ⟨t', e, h'⟩ := g 0 r rfl
    cases Option.some.inj (show some t = some t' from e)
    exact .cons (tp h') (dp_pairs rs ts (Nat.succ.inj h) fun m r hm => g (m + 1) r hm)
theorem eqvT (t : Int × Int) : PyData.eqv (tq t) (tq t) = true := PySem.SeqAt.eqv_refl _ rfl
theorem shT (t : Int × Int) : SeqAt.shaped (tq t) = true := rfl
theorem neg_bd {n : Nat} {p : Int × Int} (h : Bd n p) (l : Low p) : Bd n (negP p) ∧ Low (negP p) :=
  ⟨⟨by show (-p.1).natAbs < _; rw [Int.natAbs_neg]; exact h.1, h.2⟩, l.1, by show Nat.gcd (-p.1).natAbs _ = 1; rw [Int.natAbs_neg]; exact l.2⟩
theorem low_int (n : Int) : Low (n, 1) := ⟨by show (0 : Int) < 1; decide, Nat.gcd_one_right _⟩
theorem bd_int {n : Int} (h : n.natAbs ≤ 4) : Bd 3 (n, 1) := ⟨by show n.natAbs < 2 ^ 3; omega, by show Int.natAbs 1 < 2 ^ 3; decide⟩
theorem nsd {α : Type} [DecidableEq α] {a b : α} (h : a = b) : (!decide (a = b)) = false := by rw [decide_eq_true h]; rfl
theorem less_self (p : Int × Int) : lessP p p = false := decide_eq_false (Int.lt_irrefl _)
theorem sml_fine5 {p : Int × Int} (h : (decide (0 < p.2) && (decide (Nat.gcd p.1.natAbs p.2.natAbs = 1) && (decide (p.1.natAbs ≤ 10000) && decide (p.2.natAbs ≤ 10000)))) = true) : Fine p := by
  simp only [Bool.and_eq_true, decide_eq_true_eq] at h
  exact ⟨okI_small (by omega), okI_small (by omega), h.1, h.2.1⟩
end Ow
/-! Texts of fractions: what reads a text back, as lists of signs. -/
namespace Ow
open PySem PySem.Spec PyProof.Rows L2 TL NumText
/-- the signs of an int's text -/
def iL (n : Int) : List Nat := if n < 0 then 45 :: numL n.natAbs else numL n.natAbs
def txL (p : Int × Int) : List Nat := if p.2 = 1 then iL p.1 else iL p.1 ++ 47 :: iL p.2
def digOk (cs : List Nat) : Bool := !cs.isEmpty && cs.all fun c => decide (48 ≤ c) && decide (c ≤ 57)
def strip : List Nat → List Nat
  | 45 :: r => r
  | cs => cs
def ival : List Nat → Int
  | 45 :: r => -(digitsVal r : Int)
  | cs => (digitsVal cs : Int)
/-- an int as by str -/
def canon (cs : List Nat) : Bool := digOk (strip cs) && (!(decide (1 < (strip cs).length) && decide ((strip cs).head? = some 48)) && !decide (cs = [45, 48]))
theorem tl_tI (n : Int) : tl (tI n) = iL n := by
  unfold iL tI
  by_cases h : n < 0
  · rw [if_pos h]
    obtain ⟨m, rfl⟩ : ∃ m : Nat, n = Int.negSucc m := ⟨n.natAbs - 1, by omega⟩
    show (Str.ofString ("-" ++ Nat.repr (m + 1))).cps.toList = _
    rw [signs_ofString, String.toList_append, List.map_append, Nat.toList_repr]
    rfl
  · rw [if_neg h]
    obtain ⟨m, rfl⟩ := Int.eq_ofNat_of_zero_le (Int.not_lt.mp h)
    exact tl_num m
theorem digOk_iff {cs : List Nat} : digOk cs = true ↔ cs ≠ [] ∧ AllDigits cs := by
  unfold digOk AllDigits
  simp only [Bool.and_eq_true, List.all_eq_true, decide_eq_true_eq, Bool.not_eq_true', List.isEmpty_eq_false_iff]
theorem iL_free {n : Int} : 47 ∉ iL n := by
  unfold iL
  split
  · intro h
    rcases List.mem_cons.mp h with h | h
    · cases h
    · exact numL_free (.inl (by decide)) h
  · exact numL_free (.inl (by decide))
theorem strip_num (n : Nat) : strip (numL n) = numL n ∧ ival (numL n) = n := by
  have h := numL_digits n
  have v := numL_val n
  cases e : numL n with
  | nil => exact absurd e (numL_ne n)
  | cons c r =>
    rw [e] at h v
    have hc := h.head
    have n45 : c ≠ 45 := by omega
    constructor
    · unfold strip
      split
      · rename_i r' q
        injection q with q1 _
        exact absurd q1 n45
      · rfl
    · unfold ival
      split
      · rename_i r' q
        injection q with q1 _
        exact absurd q1 n45
      · rw [v]
theorem ival_iL (n : Int) : ival (iL n) = n := by
  unfold iL
  split
  · show -(digitsVal (numL n.natAbs) : Int) = n
    rw [numL_val]
    omega
  · rw [(strip_num _).2]
    omega
theorem numL_head {n : Nat} (h : 1 < (numL n).length) : (numL n).head? ≠ some 48 := by
  induction n using Nat.strongRecOn with
  | _ n ih =>
    by_cases g : n < 10
    · rw [numL_lt g] at h
      simp at h
    · rw [numL_step (by omega)]
      have ne := numL_ne (n / 10)
      by_cases g2 : 1 < (numL (n / 10)).length
      · have := ih (n / 10) (by omega) g2
        cases e : numL (n / 10) with
        | nil => exact absurd e ne
        | cons c r =>
          rw [e] at this
          exact this
      · by_cases g3 : n / 10 < 10
        · rw [numL_lt g3]
          intro z
          injection z with z
          omega
        · rw [numL_step (show 10 ≤ n / 10 by omega), List.length_append, List.length_singleton] at g2
          have : 0 < (numL (n / 10 / 10)).length := List.length_pos_iff.mpr (numL_ne _)
          omega
theorem canon_iL (n : Int) : canon (iL n) = true := by
  unfold canon iL
  by_cases h : n < 0
  · rw [if_pos h]
    show (digOk (numL n.natAbs) && (!(decide (1 < (numL n.natAbs).length) && decide ((numL n.natAbs).head? = some 48)) && !decide (45 :: numL n.natAbs = [45, 48]))) = true
    rw [digOk_iff.mpr ⟨numL_ne _, numL_digits _⟩]
    have e1 : (decide (1 < (numL n.natAbs).length) && decide ((numL n.natAbs).head? = some 48)) = false := by
      by_cases g : 1 < (numL n.natAbs).length
      · rw [decide_eq_false (numL_head g), Bool.and_false]
      · rw [decide_eq_false g, Bool.false_and]
    have e2 : decide (45 :: numL n.natAbs = [45, 48]) = false := decide_eq_false fun z => by
      injection z with _ z
      have := congrArg digitsVal z
      rw [numL_val] at this
      have e : digitsVal [48] = 0 := rfl
      omega
    rw [e1, e2]
    rfl
  · rw [if_neg h, (strip_num _).1, digOk_iff.mpr ⟨numL_ne _, numL_digits _⟩]
    have e1 : (decide (1 < (numL n.natAbs).length) && decide ((numL n.natAbs).head? = some 48)) = false := by
      by_cases g : 1 < (numL n.natAbs).length
      · rw [decide_eq_false (numL_head g), Bool.and_false]
      · rw [decide_eq_false g, Bool.false_and]
    have e2 : decide (numL n.natAbs = [45, 48]) = false := decide_eq_false fun z => by
      have := numL_digits n.natAbs 45 (by rw [z]; exact List.mem_cons_self)
      omega
    rw [e1, e2]
    rfl
theorem num_canon {cs : List Nat} (h : digOk cs = true) (g : (decide (1 < cs.length) && decide (cs.head? = some 48)) = false) : numL (digitsVal cs) = cs := by
  obtain ⟨hne, hd⟩ := digOk_iff.mp h
  have key := toDigits_digitsVal (cs.length - 1) cs (by have := List.length_pos_iff.mpr hne; omega) hd (by
    by_cases l : 1 < cs.length
    · right
      cases cs with
      | nil => exact absurd rfl hne
      | cons c r =>
        have hc := hd.head
        refine ⟨c, r, rfl, ?_⟩
        rw [decide_eq_true l, Bool.true_and] at g
        have := of_decide_eq_false g
        have n48 : c ≠ 48 := fun z => this (by rw [z]; rfl)
        omega
    · left
      omega)
  unfold numL
  rw [key, List.map_map]
  have : ∀ (l : List Nat), AllDigits l → l.map (Char.toNat ∘ Char.ofNat) = l := by
    intro l hl
    induction l with
    | nil => rfl
    | cons c r ih =>
      have hc := hl.head
      rw [List.map_cons, ih hl.tail]
      congr 1
      have f : ∀ d : Nat, d < 58 → (Char.ofNat d).toNat = d := by decide
      exact f c (by omega)
  exact this cs hd
theorem strip_cases (cs : List Nat) : (∃ r, cs = 45 :: r) ∨ (strip cs = cs ∧ ival cs = (digitsVal cs : Int)) := by
  cases cs with
  | nil => exact .inr ⟨rfl, rfl⟩
  | cons c r =>
    by_cases h : c = 45
    · exact .inl ⟨r, by rw [h]⟩
    · refine .inr ⟨?_, ?_⟩
      · unfold strip
        split
        · rename_i r' q
          injection q with q1 _
          exact absurd q1 h
        · rfl
      · unfold ival
        split
        · rename_i r' q
          injection q with q1 _
          exact absurd q1 h
        · rfl
theorem iL_canon {cs : List Nat} (h : canon cs = true) : iL (ival cs) = cs := by
  unfold canon at h
  simp only [Bool.and_eq_true, Bool.not_eq_true'] at h
  obtain ⟨h1, h2, h3⟩ := h
  rcases strip_cases cs with ⟨r, rfl⟩ | ⟨e1, e2⟩
  · have h1 : digOk r = true := h1
    have h2 : (decide (1 < r.length) && decide (r.head? = some 48)) = false := h2
    have e := num_canon h1 h2
    have pos : 0 < digitsVal r := by
      apply Nat.pos_of_ne_zero
      intro z
      rw [z, numL_lt (by decide)] at e
      rw [← e] at h3
      exact absurd rfl (of_decide_eq_false h3)
    show iL (-(digitsVal r : Int)) = _
    unfold iL
    rw [if_pos (by omega), show (-(digitsVal r : Int)).natAbs = digitsVal r by omega, e]
  · rw [e1] at h1 h2
    have e := num_canon h1 h2
    rw [e2]
    unfold iL
    rw [if_neg (by omega), show ((digitsVal cs : Nat) : Int).natAbs = digitsVal cs by omega, e]
theorem canon_part {cs : List Nat} (h : canon cs = true) : digOk (strip cs) = true := by
  unfold canon at h
  exact (Bool.and_eq_true_iff.mp h).1
/-! ### parts -/
theorem spl_ne : ∀ (cs acc : List Nat), spl [47] 0 acc cs ≠ []
  | [], _ => by simp [spl]
  | c :: r, acc => by
    unfold spl
    split
    · simp
    · exact spl_ne r _
theorem pre1 {c : Nat} {r : List Nat} : pre [47] (c :: r) = true ↔ c = 47 := by
  constructor
  · intro h
    simp [pre] at h
    first | exact h.symm | exact h
  · intro h
    subst h
    simp [pre]
theorem join_spl : ∀ (cs acc : List Nat), joinL [47] (spl [47] 0 acc cs) = acc ++ cs
  | [], acc => by simp [spl, joinL]
  | c :: r, acc => by
    unfold spl
    split
    · rename_i h
      have hc := pre1.mp h
      subst hc
      have ih := join_spl r []
      have ne := spl_ne r []
      show joinL [47] (acc :: spl [47] 0 [] r) = _
      cases e : spl [47] 0 [] r with
      | nil => exact absurd e ne
      | cons p ps =>
        rw [e] at ih
        show acc ++ ([47] ++ joinL [47] (p :: ps)) = _
        rw [ih]
        rfl
    · rw [join_spl r (acc ++ [c]), List.append_assoc]
      rfl
theorem spl_txL (p : Int × Int) : spl [47] 0 [] (txL p) = if p.2 = 1 then [iL p.1] else [iL p.1, iL p.2] := by
  unfold txL
  split
  · exact spl_join (parts := [iL p.1]) (by simp) fun z hz => by
      rw [List.mem_singleton.mp hz]
      exact iL_free
  · exact spl_join (parts := [iL p.1, iL p.2]) (by simp) fun z hz => by
      simp only [List.mem_cons, List.not_mem_nil, or_false] at hz
      rcases hz with rfl | rfl <;> exact iL_free
/-- what the program reads -/
def pread (cs : List Nat) : Option (Int × Int) :=
  let ps := spl [47] 0 [] cs
  if ps.all (fun p => digOk (strip p)) = true then
    (let pr : Int × Int := (ival (ps.headD []), (ps[1]?.map ival).getD 1)
     if fracB pr && decide (txL pr = cs) then some pr else none)
  else none
/-- what the law reads -/
def lread (cs : List Nat) : Option (Int × Int) := match spl [47] 0 [] cs with
  | [p] => if canon p = true then some (ival p, 1) else none
  | [p, q] => if canon p = true ∧ canon q = true ∧ 1 < ival q ∧ low (ival p) (ival q) = (ival p, ival q) then some (ival p, ival q) else none
  | _ => none
theorem canon_fix {cs : List Nat} : canon cs = true ↔ iL (ival cs) = cs := ⟨iL_canon, fun h => by rw [← h]; exact canon_iL _⟩
theorem txL_join (p : Int × Int) (h : p.2 ≠ 1) : txL p = iL p.1 ++ 47 :: iL p.2 := by
  unfold txL
  rw [if_neg h]
/-- an int's signs bound it -/
theorem ival_ok {cs : List Nat} (h : canon cs = true) (l : cs.length ≤ 200) : okI (ival cs) = true := by
  have e := iL_canon h
  generalize ival cs = n at e
  subst e
  have ln : (numL n.natAbs).length ≤ 200 := by
    unfold iL at l
    split at l
    · rw [List.length_cons] at l
      omega
    · exact l
  refine okI_iff.mpr (Nat.lt_of_lt_of_le (m := 10 ^ 200) ?_ (by decide +kernel))
  have dv : ∀ (m : Nat), m < 10 ^ (numL m).length := by
    intro m
    induction m using Nat.strongRecOn with
    | _ m ih =>
      by_cases g : m < 10
      · rw [numL_lt g]
        exact g
      · have i := ih (m / 10) (by omega)
        rw [numL_step (by omega), List.length_append, List.length_singleton, Nat.pow_succ]
        omega
  exact Nat.lt_of_lt_of_le (dv _) (Nat.pow_le_pow_right (by decide) ln)
theorem low_iff {t b : Int} (h : 1 < b) : low t b = (t, b) ↔ Nat.gcd t.natAbs b.natAbs = 1 := by
  constructor
  · intro e
    have := (low_low (t := t) (b := b) (by omega)).2
    rw [e] at this
    exact this
  · intro e
    exact low_fix (p := (t, b)) ⟨by show 0 < b; omega, e⟩
theorem read_eq {cs : List Nat} (l : cs.length ≤ 200) : pread cs = lread cs := by
  have J := join_spl cs []
  rw [List.nil_append] at J
  unfold pread lread
  generalize hps : spl [47] 0 [] cs = ps at J
  have len : ∀ p ∈ ps, p.length ≤ 200 := by
    intro p hp
    rw [← J] at l
    clear J hps
    induction ps with
    | nil => cases hp
    | cons a r ih =>
      cases r with
      | nil =>
        rw [List.mem_singleton.mp hp]
        exact l
      | cons b r =>
        have l : (a ++ ([47] ++ joinL [47] (b :: r))).length ≤ 200 := l
        rw [List.length_append, List.length_append] at l
        rcases List.mem_cons.mp hp with h | h
        · rw [h]
          omega
        · exact ih (by omega) h
  -- what is told by a text has its parts
  have told : ∀ pr : Int × Int, txL pr = cs → ps = if pr.2 = 1 then [iL pr.1] else [iL pr.1, iL pr.2] := fun pr e => by
    rw [← hps, ← e]
    exact spl_txL pr
  match ps, J, len, told with
  | [], J, _, _ => exact absurd hps (spl_ne _ _)
  | [p], J, len, told =>
    have J : p = cs := J
    subst J
    have hl := len p (by simp)
    show (if ([p].all fun p => digOk (strip p)) = true then _ else none) = if canon p = true then _ else none
    by_cases c : canon p = true
    · have d : ([p].all fun p => digOk (strip p)) = true := by
        rw [List.all_cons, canon_part c]
        rfl
      have e : txL (ival p, 1) = p := by
        unfold txL
        rw [if_pos rfl]
        exact iL_canon c
      have f : fracB (ival p, 1) = true := by
        show (okI (ival p) && okI 1 && decide ((1 : Int) ≤ 1) && decide (Nat.gcd (ival p).natAbs 1 = 1)) = true
        rw [ival_ok c hl, okI_small (i := 1) (by decide), decide_eq_true (show (1 : Int) ≤ 1 by decide), decide_eq_true (Nat.gcd_one_right _)]
        rfl
      rw [if_pos d, if_pos c]
      show (if (fracB (ival p, 1) && decide (txL (ival p, 1) = p)) = true then some (ival p, (1 : Int)) else none) = _
      rw [f, decide_eq_true e]
      rfl
    · rw [if_neg c]
      split
      · show (if (fracB (ival p, 1) && decide (txL (ival p, 1) = p)) = true then some (ival p, (1 : Int)) else none) = _
        have e : ¬ txL (ival p, 1) = p := fun e => c (by
          unfold txL at e
          rw [if_pos rfl] at e
          exact canon_fix.mpr e)
        rw [decide_eq_false e, Bool.and_false]
        rfl
      · rfl
  | [p, q], J, len, told =>
    have J : p ++ 47 :: q = cs := J
    have lp := len p (by simp)
    have lq := len q (by simp)
    show (if ([p, q].all fun p => digOk (strip p)) = true then (if (fracB (ival p, ival q) && decide (txL (ival p, ival q) = cs)) = true then some (ival p, ival q) else none) else none) = if _ then _ else _
    by_cases c : canon p = true ∧ canon q = true ∧ 1 < ival q ∧ low (ival p) (ival q) = (ival p, ival q)
    · obtain ⟨c1, c2, c3, c4⟩ := c
      have d : ([p, q].all fun p => digOk (strip p)) = true := by
        rw [List.all_cons, List.all_cons, canon_part c1, canon_part c2]
        rfl
      have e : txL (ival p, ival q) = cs := by
        rw [txL_join _ (by show ival q ≠ 1; omega), ← J]
        show iL (ival p) ++ 47 :: iL (ival q) = _
        rw [iL_canon c1, iL_canon c2]
      have f : fracB (ival p, ival q) = true := by
        unfold fracB
        rw [ival_ok c1 lp, ival_ok c2 lq, decide_eq_true (show (1 : Int) ≤ ival q by omega), decide_eq_true ((low_iff c3).mp c4)]
        rfl
      rw [if_pos d, f, decide_eq_true e]
      exact (if_pos ⟨c1, c2, c3, c4⟩).symm
    · rw [if_neg c]
      split
      · split
        · rename_i h
          obtain ⟨f, e⟩ := Bool.and_eq_true_iff.mp h
          have e := of_decide_eq_true e
          exfalso
          have t := told _ e
          unfold fracB at f
          simp only [Bool.and_eq_true, decide_eq_true_eq] at f
          by_cases z : ival q = 1
          · rw [if_pos (show (ival p, ival q).2 = 1 from z)] at t
            exact absurd (congrArg List.length t) (by simp)
          · rw [if_neg (show ¬ (ival p, ival q).2 = 1 from z)] at t
            obtain ⟨t1, t2⟩ : p = iL (ival p) ∧ q = iL (ival q) := by
              have a := congrArg (fun l => l[0]?) t
              have b := congrArg (fun l => l[1]?) t
              exact ⟨Option.some.inj a, Option.some.inj b⟩
            have g : 1 < ival q := by have := f.1.2; omega
            exact c ⟨canon_fix.mpr t1.symm, canon_fix.mpr t2.symm, g, (low_iff g).mpr f.2⟩
        · rfl
      · rfl
  | p :: q :: r :: rest, J, _, told =>
    show (if _ then _ else _) = none
    split
    · show (if (fracB (ival p, ival q) && decide (txL (ival p, ival q) = cs)) = true then some (ival p, ival q) else none) = none
      have e : ¬ txL (ival p, ival q) = cs := fun e => by
        have t := told _ e
        have t := congrArg List.length t
        split at t <;> simp at t
      rw [decide_eq_false e, Bool.and_false]
      rfl
    · rfl
end Ow
/-! Texts: what the methods give, as lists of signs; promises of k06. -/
namespace Ow
open PySem PySem.Spec PyProof.Rows L2 TL NumText
theorem tl_minus : tl ("-" : Str) = [45] := by decide +kernel
theorem tl_slash : tl ("/" : Str) = [47] := by decide +kernel
theorem rm_minus (x : Str) : tl (Txt.removeprefix x "-") = strip (tl x) := by
  have hy : (("-" : Str)).length = 1 := by decide +kernel
  rw [PySem.StrLaws.removeprefix_eq, hy]
  have hs : Builtin.Str.subAt x "-" 0 = decide ((tl x).head? = some 45) := by
    unfold Builtin.Str.subAt
    rw [Bool.eq_iff_iff, decide_eq_true_eq, beq_iff_eq, ← Array.toList_inj, Array.toList_extract]
    show _ = tl ("-" : Str) ↔ _
    rw [tl_minus, hy, List.extract_eq_take_drop]
    have e : x.length = (tl x).length := len_tl x
    show ((tl x).drop 0).take _ = [45] ↔ _
    rw [List.drop_zero]
    cases tl x with
    | nil => simp
    | cons c r => simp
  rw [hs]
  have e : x.length = (tl x).length := len_tl x
  by_cases h : (tl x).head? = some 45
  · rw [decide_eq_true h]
    have l : 1 ≤ (tl x).length := by
      cases q : tl x with
      | nil => rw [q] at h; cases h
      | cons c r => simp
    rw [if_pos (by rw [e, decide_eq_true (by omega)]; rfl), tl_mk]
    show ((tl x).drop 1).take (x.length - 1) = _
    rw [e]
    cases q : tl x with
    | nil => rw [q] at h; cases h
    | cons c r =>
      rw [q] at h
      injection h with h
      subst h
      show ((45 :: r).drop 1).take _ = r
      simp
  · rw [decide_eq_false h, Bool.and_false, if_neg Bool.false_ne_true]
    rcases strip_cases (tl x) with ⟨r, q⟩ | ⟨q, _⟩
    · rw [q] at h
      exact absurd rfl h
    · exact q.symm
theorem uni_dig : ∀ c : Nat, c < 128 → Unicode.isDigit c = (decide (48 ≤ c) && decide (c ≤ 57)) := by decide +kernel
/-- signs below 128 -/
def Asc (cs : List Nat) : Prop := ∀ c ∈ cs, c < 128
theorem digits_is {x : Str} (h : Asc (tl x)) : (Txt.isascii x && Txt.isdigit x) = digOk (tl x) := by
  have a : Txt.isascii x = true := by
    unfold Txt.isascii
    rw [← Array.all_toList, List.all_eq_true]
    exact fun c m => decide_eq_true (h c m)
  rw [a, Bool.true_and]
  unfold Txt.isdigit digOk
  rw [← Array.all_toList, len_tl]
  have e1 : decide ((tl x).length > 0) = !(tl x).isEmpty := by cases tl x <;> simp
  have e2 : ∀ l : List Nat, Asc l → l.all Unicode.isDigit = l.all fun c => decide (48 ≤ c) && decide (c ≤ 57) := by
    intro l hl
    induction l with
    | nil => rfl
    | cons c r ih =>
      rw [List.all_cons, List.all_cons, uni_dig c (hl c List.mem_cons_self), ih fun d m => hl d (List.mem_cons_of_mem _ m)]
  rw [e1]
  congr 1
  exact e2 _ h
theorem isascii_t {x : Str} (h : Asc (tl x)) : Txt.isascii x = true := by
  unfold Txt.isascii
  rw [← Array.all_toList, List.all_eq_true]
  exact fun c m => decide_eq_true (h c m)
theorem isdigit_t {x : Str} (h : Asc (tl x)) : Txt.isdigit x = digOk (tl x) := by
  rw [← digits_is h, isascii_t h, Bool.true_and]
theorem strip_mem {cs : List Nat} {c : Nat} (h : c ∈ strip cs) : c ∈ cs := by
  rcases strip_cases cs with ⟨r, rfl⟩ | ⟨q, _⟩
  · exact List.mem_cons_of_mem _ h
  · rw [q] at h
    exact h
theorem strip_len (cs : List Nat) : (strip cs).length ≤ cs.length := by
  rcases strip_cases cs with ⟨r, rfl⟩ | ⟨q, _⟩
  · show r.length ≤ (45 :: r).length
    simp
  · rw [q]
    exact Nat.le_refl _
/-- int(part) -/
theorem int_part {x : Str} (h : digOk (strip (tl x)) = true) (l : (tl x).length ≤ 300) : intText? x = some (ival (tl x)) := by
  obtain ⟨hne, hd⟩ := digOk_iff.mp h
  rcases strip_cases (tl x) with ⟨r, q⟩ | ⟨q, e⟩
  · rw [q] at hne hd
    rw [intText_neg q hd hne (by rw [len_tl]; omega), q]
    rfl
  · rw [q] at hne hd
    rw [intText_digits hd hne (by rw [len_tl]; omega), e]
theorem split_tl (x : Str) : (Txt.split x "/").map tl = spl [47] 0 [] (tl x) := by
  have h := split_spl x "/" (by rw [tl_slash]; simp) (kind_ok (by decide +kernel))
  rw [tl_slash] at h
  exact h
theorem tl_txt (p : Int × Int) : tl (txt p) = txL p := by
  unfold txt txL
  split
  · exact tl_tI _
  · rw [tl_append, tl_append, tl_tI, tl_tI, tl_slash, List.append_assoc]
    rfl
theorem spl_mem : ∀ (cs acc : List Nat) (p : List Nat), p ∈ spl [47] 0 acc cs → (∀ c ∈ p, c ∈ acc ∨ c ∈ cs) ∧ p.length ≤ acc.length + cs.length
  | [], acc, p, h => by
    have h : p ∈ [acc] := h
    rw [List.mem_singleton.mp h]
    exact ⟨fun c m => .inl m, by simp⟩
  | c :: r, acc, p, h => by
    unfold spl at h
    split at h
    · rcases List.mem_cons.mp h with h | h
      · rw [h]
        exact ⟨fun c m => .inl m, by simp⟩
      · obtain ⟨a, b⟩ := spl_mem r [] p h
        exact ⟨fun d m => .inr (List.mem_cons_of_mem _ ((a d m).resolve_left (by simp))), by simp at b ⊢; omega⟩
    · obtain ⟨a, b⟩ := spl_mem r (acc ++ [c]) p h
      refine ⟨fun d m => ?_, by simp at b ⊢; omega⟩
      rcases a d m with a | a
      · rcases List.mem_append.mp a with a | a
        · exact .inl a
        · rw [List.mem_singleton.mp a]
          exact .inr List.mem_cons_self
      · exact .inr (List.mem_cons_of_mem _ a)
/-! ### promises -/
/-- what a value is read as -/
def Rd (K : PySem.W.Frag) (H : Hp) (v : V) (R : Option (Int × Int)) : Prop := (∃ t : Str, v = .str t ∧ Asc (tl t) ∧ (tl t).length ≤ 200 ∧ R = pread (tl t)) ∨ ∃ ty, TyX K H v ty ∧ PySem.W.kitOne K ty (.type "str") = some false ∧ R = none
def spAreDig : Sp := fun vs H Q _ => ∃ t : Str, vs = [.str t] ∧ Asc (tl t) ∧ (tl t).length ≤ 200 ∧ Q (.bl (digOk (tl t))) H
def spPairRead (K : PySem.W.Frag) : Sp := fun vs H Q _ => ∃ (v : V) (R : Option (Int × Int)), vs = [v] ∧ Rd K H v R ∧ (R = none → ∀ H', Same H H' → Q .non H') ∧ (∀ p, R = some p → ∀ a H', H a = none → H' a = some (.tup [.int p.1, .int p.2]) → Same H H' → Q (.ref a) H')
theorem pread_all {t : Str} : ((Txt.split t "/").map fun s => digOk (strip (tl s))).all id = (spl [47] 0 [] (tl t)).all fun p => digOk (strip p) := by
  rw [← split_tl, List.all_map, List.all_map]
  rfl
theorem pread_no {t : Str} (h : ((Txt.split t "/").map fun s => digOk (strip (tl s))).all id = false) : pread (tl t) = none := by
  rw [pread_all] at h
  unfold pread
  exact if_neg (by rw [h]; exact Bool.false_ne_true)
def prOf (t : Str) : Int × Int := (ival ((spl [47] 0 [] (tl t)).headD []), ((spl [47] 0 [] (tl t))[1]?.map ival).getD 1)
theorem pread_yes {t : Str} (h : ((Txt.split t "/").map fun s => digOk (strip (tl s))).all id = true) : pread (tl t) = if (fracB (prOf t) && decide (txL (prOf t) = tl t)) = true then some (prOf t) else none := by
  rw [pread_all] at h
  unfold pread
  exact if_pos h
theorem split_ne (t : Str) : Txt.split t "/" ≠ [] := fun e => by
  have h := split_tl t
  rw [e] at h
  exact spl_ne _ _ h.symm
theorem nums0 (t : Str) : ((Txt.split t "/").map (fun s => V.int (ival (tl s))) ++ [V.int 1])[0]? = some (.int (prOf t).1) := by
  unfold prOf
  rw [← split_tl]
  cases q : Txt.split t "/" with
  | nil => exact absurd q (split_ne t)
  | cons a r => rfl
theorem nums1 (t : Str) : ((Txt.split t "/").map (fun s => V.int (ival (tl s))) ++ [V.int 1])[1]? = some (.int (prOf t).2) := by
  unfold prOf
  rw [← split_tl]
  cases q : Txt.split t "/" with
  | nil => exact absurd q (split_ne t)
  | cons a r =>
    cases r with
    | nil => rfl
    | cons b r => rfl
theorem part_ok {t s : Str} (h : s ∈ Txt.split t "/") (a : Asc (tl t)) (l : (tl t).length ≤ 200) : Asc (tl s) ∧ (tl s).length ≤ 200 := by
  have m : tl s ∈ spl [47] 0 [] (tl t) := by
    rw [← split_tl]
    exact List.mem_map.mpr ⟨s, h, rfl⟩
  obtain ⟨x, y⟩ := spl_mem _ _ _ m
  exact ⟨fun c hc => a c ((x c hc).resolve_left (by simp)), by rw [List.length_nil] at y; omega⟩
theorem spl_count (t : Str) (l : (tl t).length ≤ 200) : (Txt.split t "/").length ≤ 1000 := by
  have e : (Txt.split t "/").length = (spl [47] 0 [] (tl t)).length := by rw [← split_tl, List.length_map]
  have c : ∀ (cs acc : List Nat), (spl [47] 0 acc cs).length ≤ cs.length + 1 := by
    intro cs
    induction cs with
    | nil => intro acc; simp [spl]
    | cons d r ih =>
      intro acc
      unfold spl
      split
      · have := ih []
        simp at this ⊢
        omega
      · have := ih (acc ++ [d])
        simp at this ⊢
        omega
  have := c (tl t) []
  omega
theorem txt_iff {p : Int × Int} {t : Str} : txt p = t ↔ txL p = tl t := by
  rw [← tl_txt]
  exact ⟨fun h => by rw [h], fun h => ext_tl h⟩
end Ow
/-! Errors of the text's own classes: raised by a classmethod, caught by its caller; ParseError, Ratio.read. -/
namespace Ow
open PySem PySem.Spec PyProof.Rows L2 TL
/-- C.m(e, ..), a classmethod that may raise -/
structure CmtX (P : Program) (w : World) (K : PySem.W.Frag) (mg : Str → Option Value) (base : Heap) (k : Nat) (C : Addr) (m : Str) (sp : Sp) : Prop where
  ex : ∃ (p g : Addr), ClX.CMet K C (.type "type") m p g ∧ ClX.CRead K C (.type "type") ∧ FnR P w K mg base (L2.CX P w) k g sp
theorem cmtX_of {P : Program} {w : World} {K : PySem.W.Frag} {mg : Str → Option Value} {base : Heap} {k : Nat} {C g pp : Addr} {nm : Str} {ps : List Str} {sp : Sp} {fd : FuncData} (F : FnOk P w K mg base (L2.CX P w) k g fd ps sp) (hb : Binds K fd ps []) (hc : ClX.CMet K C (.type "type") nm pp g) (hr : ClX.CRead K C (.type "type")) : CmtX P w K mg base k C nm sp :=
  ⟨pp, g, hc, hr, (F.raw hb .nil).imp fun vs H Q E h => by rw [List.append_nil]; exact h⟩
section
variable {X : Cx} {C : Addr} {k : Nat} {m : Str} {sp : Sp} {W : WX} {o e : Expr} {es : List Expr} {ta : TE} {t : TA} {pos apos : Pos}
/-- its call within a try, or where what is raised goes on: W tells what is wished of it -/
def tCmtS (C : Addr) (sp : Sp) (W : WX) (ta : TE) (t : TA) : TE := fun σ H Q => ta σ H fun x H1 => x = .ref C ∧ t σ H1 fun vs H2 => sp (.ref C :: vs) H2 Q (WE W σ)
theorem e_cmtS {pl : Sem Bool} (c : CmtX X.prog X.w X.K X.mg X.base k C m sp) (hr : Room k X.A) (tk : Takes X W) (ho : PE X o ta) (ha : PA X (e :: es) t)
    (hst : starEach (e :: es) X.env = (false, eval e X.env) :: starEach es X.env := by rfl) (hpl : (backTo pos (starEach es X.env)).any (·.1) = false := by rfl)
    (ht : eval (.Call (.Attribute o m apos) (e :: es) [] pos) X.env = (do
      let ov ← eval o X.env
      standAt apos.atName; let (f, first) ← holding [ov] (getMethod ov m pl); callWith pos f first (backTo pos (starEach (e :: es) X.env)) (backToKw pos (keywordEach [] X.env))) := by rfl) :
    PE X (.Call (.Attribute o m apos) (e :: es) [] pos) (tCmtS C sp W ta t) := by
  obtain ⟨p, g, hc, hrd, F⟩ := c.ex
  refine ⟨fun pins s σ H Q J h => ?_⟩
  refine PySem.W.methodCall_KW (pl := pl) (thn (ho.run pins s σ H _ J h) fun u s1 hh => ?_) ht
  obtain ⟨x, H1, J1, rx, ex, q⟩ := hh
  subst ex
  cases (show u = Value.ref C from rx)
  refine ClX.getmethcm_ok J1 hrd hc fun s2 J2 => ?_
  refine ClX.callwith_cm J2 (ClX.base_none J1 (Nat.le_refl _)) hc.fi (thn (ha.run pos _ s2 σ H1 _ J2 q) fun us s3 hh => ?_) hst hpl
  obtain ⟨vs, H2, J3, rv, q2⟩ := hh
  refine ⟨⟨ClX.pin_at J3, J3.kIn⟩, ?_⟩
  have z : wpAny (model X.prog X.w) X.A (call (.ref s1.heap.objs.size) us) (EP X ((s1.heap.objs.size, PySem.W.methodObj (.ref g) (.ref C)) :: pins) σ Q) X.xe s3 := by
    refine wpAny_call (PySem.W.method_call (ClX.pin_at J3) (codeAny_mono (F X.A X.stack s3 H2 (.ref C :: us) (.ref C :: vs) Q (WE W σ) hr J3.env0 (.cons rfl rv) q2) fun r s' hq => ?_))
    cases r with
    | error e => exact passAt tk σ _ H2 s3 e s' J3 hq
    | ok fl =>
      cases fl with
      | ret v => exact J3.after hq
      | next => exact False.elim hq
      | brk => exact False.elim hq
      | cont => exact False.elim hq
  exact thn z fun _ _ y => ClX.unpinE y
end
/-- an own error class with an __init__ that keeps its one argument under the name f -/
structure PEC (K : PySem.W.Frag) (mg : Str → Option Value) (x f : Str) (C fI : Addr) : Prop where
  oex : OexC K C
  g : mg x = some (.ref C)
  iC : PySem.W.findIn K (.ref C) "__init__" = some (some (.ref fI))
  tI : PySem.W.typeIn K (.ref fI) = some (.type "function")
  no : PySem.W.findIn K (.ref C) f = some none
  xf : XfC K C
  te : PySem.W.exmOne K (.ref C) (.ref C) = some true
def spPE (C : Addr) (f : Str) : Sp := fun vs H Q _ => ∃ (a : Addr) (v : V), vs = [.ref a, v] ∧ H a = some (exo a C none) ∧ ∀ d, H d = none → d ≠ a → Q .non (upd (upd H d (exd d [(f, v)])) a (exo a C (some d)))
/-- X(v): how the raising reads on -/
theorem mk_pe {C : Addr} {f : Str} {v : V} {H : Hp} {E : XK} (h : ∀ d H', H d = none → H' d = some (.xd [(f, v)]) → Same H H' → E (.ref C) (some d) H') :
    [v].length ≤ 1000 ∧ ∀ a, H a = none → spPE C f (.ref a :: ([v] ++ [])) (upd H a (exo a C none))
      (fun u H2 => u = .non ∧ ∃ (d : Addr) (fs : List (Str × V)), H2 a = some (exo a C (some d)) ∧ H2 d = some (exd d fs) ∧ H d = none ∧ E (.ref C) (some d) (upd (del H2 a) d (.xd fs))) (fun _ _ _ => False) := by
  refine ⟨by show 1 ≤ 1000; decide, fun a na => ⟨a, v, rfl, upd_same, fun d nd da => ⟨rfl, d, [(f, v)], upd_same, by rw [upd_ne da, upd_same], ?_, ?_⟩⟩⟩
  · rw [upd_ne da] at nd
    exact nd
  · rw [upd_ne da] at nd
    refine h d _ nd upd_same fun b o hb => ?_
    have b1 : b ≠ d := ne_of_none hb nd
    have b2 : b ≠ a := ne_of_none hb na
    rw [upd_ne b1, del_ne b2, upd_ne b2, upd_ne b1, upd_ne b2]
    exact hb
/-- Ratio.read: the fraction, or ParseError(None) -/
def spReadX (K : PySem.W.Frag) (C CP : Addr) : Sp := fun vs H Q E => ∃ (v : V) (R : Option (Int × Int)), vs = [.ref C, v] ∧ Rd K H v R ∧ (∀ p, R = some p → Fine p → NewR H C p Q) ∧
  (R = none → ∀ d H', H d = none → H' d = some (.xd [("line", .non)]) → Same H H' → E (.ref CP) (some d) H')
/-- _law_got: the pair, or a list with None -/
def spGot (K : PySem.W.Frag) : Sp := fun vs H Q _ => ∃ (v : V) (R : Option (Int × Int)), vs = [v] ∧ Rd K H v R ∧ (∀ p, R = some p → ∀ a H', H a = none → H' a = some (.tup [.int p.1, .int p.2]) → Same H H' → Q (.ref a) H') ∧
  (R = none → ∀ a H', H a = none → H' a = some (.lst [.non]) → Same H H' → Q (.ref a) H')
theorem fracB_fine {p : Int × Int} (h : fracB p = true) : Fine p := by
  unfold fracB at h
  simp only [Bool.and_eq_true, decide_eq_true_eq] at h
  exact ⟨h.1.1.1, h.1.1.2, by have := h.1.2; omega, h.2⟩
theorem pread_fine {cs : List Nat} {p : Int × Int} (h : pread cs = some p) : Fine p := by
  unfold pread at h
  simp only at h
  split at h
  · split at h
    · rename_i c
      cases h
      exact fracB_fine (Bool.and_eq_true_iff.mp c).1
    · cases h
  · cases h
theorem Rd.fine {K : PySem.W.Frag} {H : Hp} {v : V} {p : Int × Int} (h : Rd K H v (some p)) : Fine p := by
  rcases h with ⟨t, _, _, _, e⟩ | ⟨_, _, _, e⟩
  · exact pread_fine e.symm
  · cases e
/-! ### what the head tells of such a class -/
def oexB (K : PySem.W.Frag) (C : Addr) : Bool := match K.lookup C with
  | some ⟨.type "type", _, .cls cd, sl⟩ => (match cd.mro, sl.toList with
    | .ref D :: up, [_, _, _, _, some (.builtin mk), _] => D == C && (mk == "ValueError.__new__" && (!cd.hasDel && (cd.hasDict && PySem.HandSPX.refsVE up)))
    | _, _ => false)
  | _ => false
theorem oexB_ok {K : PySem.W.Frag} {C : Addr} (h : oexB K C = true) : ∃ nm q N bs bm sn sub ab col dd k0 k1 k2 k3 k5, K.lookup C = some (excClassObj nm q C N bs bm true sn sub ab col dd k0 k1 k2 k3 k5 "ValueError.__new__") ∧ PySem.HandSPX.refsVE bm = true := by
  unfold oexB at h
  split at h
  · rename_i dct cdat slo e
    split at h
    · rename_i D up s0 s1 s2 s3 mk s5 em es
      simp only [Bool.and_eq_true, beq_iff_eq, Bool.not_eq_true'] at h
      obtain ⟨rfl, rfl, hdl, hdd, hr⟩ := h
      obtain ⟨c1, c2, c3, c4, c5, c6, c7, c8, c9, c10, c11⟩ := cdat
      dsimp only at em hdl hdd
      subst em hdl hdd
      have z : slo = #[s0, s1, s2, s3, some (.builtin "ValueError.__new__"), s5] := by
        obtain ⟨l⟩ := slo
        simp only at es
        rw [es]
      subst z
      exact ⟨_, _, _, _, _, _, _, _, _, _, _, _, _, _, _, e, hr⟩
    · cases h
  · cases h
end Ow

namespace K06
open PySem PySem.Spec PyProof.Rows L2 Ow TL NumText
local macro_rules | `(tactic| walk_at "y1") => `(tactic| with_reducible first | refine y_seq ?_ | refine y_asg ?_ | refine y_name ?_ | refine y_con ?_ | refine y_op ?_ | refine y_un ?_ | refine y_cons ?_ | refine y_nil ?_ | refine y_cb ?_ | refine y_fn ?_ | refine y_I0 ?_ | refine y_ret ?_ | refine y_drop ?_ | refine y_ifs ?_ | refine y_test ?_ | refine y_bl ?_ | refine y_not ?_ | refine y_and ?_ | refine y_or ?_ | refine y_if ?_ | refine y_chain ?_ | refine y_andV ?_ | refine y_orV ?_ | refine y_yes ?_ | refine y_lst ?_ | refine y_tup ?_ | refine y_intI ?_ | refine y_intB ?_ | refine y_abs ?_ | refine y_max2 ?_ | refine y_min2 ?_ | refine y_eqI ?_ | refine y_neI ?_ | refine y_eqS ?_ | refine y_neS ?_ | refine y_reprB ?_ | refine y_sub ?_ | refine y_bm ?_ | refine y_m1 ?_ | refine y_lc ?_ | refine y_for ?_ | refine y_rng1 ?_ | refine y_iStr ?_ | refine y_iList ?_ | refine y_next ?_ | refine y_B ?_ | refine y_rU ?_ | refine y_fld ?_ | refine y_prp ?_ | refine y_mth ?_ | refine y_mkr ?_ | refine y_par ?_ | refine y_par2 ?_ | refine y_gcons ?_ | refine y_gnil ?_ | refine y_gfld ?_ | refine y_gcd ?_ | refine y_rng2 ?_ | refine y_iRev ?_ | refine y_revL ?_ | refine y_ef ?_ | refine y_iTup ?_ | refine y_sl ?_ | refine y_iZipA ?_ | refine y_noP ?_ | refine y_prt ?_)
local macro_rules | `(tactic| walk_at "yy") => `(tactic| repeat (first | walk_at "y1" | ((with_reducible refine y_var2 ?_); refine ⟨_, rfl, ?_⟩)))
local macro_rules | `(tactic| walk_at "yi") => `(tactic| first
  | refine y_I (show CMul _ _ from .inl ⟨by decide, by decide⟩) ?_ | refine y_I (show CMul _ _ from .inl ⟨by omega, by omega⟩) ?_ | refine y_I (show CMul _ _ from .inr ⟨by omega, by omega⟩) ?_
  | refine y_I (show (0 : Int) < _ by decide) ?_ | refine y_I (show (0 : Int) < _ by omega) ?_ | refine y_I (show CPowW _ _ from ⟨by decide, by decide +kernel⟩) ?_ | refine y_I (show (0 : Int) < _ by decide +kernel) ?_ | refine y_I (big_div (by decide) (by decide)) ?_)
local macro_rules | `(tactic| walk_at "yt") => `(tactic| (with_reducible refine y_t ?_ ?_; · decide))
local macro_rules | `(tactic| walk_at "yf") => `(tactic| (with_reducible refine y_f ?_ ?_; · decide))
def top (i : Nat) : Stmt := PySem.Challenge.pw_wonbyturns_k06_whole_texts_of_fractions.main.body.getD i (.Pass ⟨0, 0, 0, 0⟩)
abbrev s_wall : Stmt := top 1
abbrev s_ParseError___init__ : Stmt := inClass (top 6) 0
abbrev s_TooMany___init__ : Stmt := inClass (top 7) 0
abbrev s_is_integer : Stmt := top 11
abbrev s_is_fraction : Stmt := top 12
abbrev s_lowest : Stmt := top 14
abbrev s_short : Stmt := top 15
abbrev s_text_of : Stmt := top 16
abbrev s_pair_read : Stmt := top 17
abbrev s_are_digits : Stmt := top 18
abbrev s_Ratio___init__ : Stmt := inClass (top 20) 0
abbrev s_Ratio_of : Stmt := inClass (top 20) 1
abbrev s_Ratio_read : Stmt := inClass (top 20) 2
abbrev s_Ratio_top : Stmt := inClass (top 20) 3
abbrev s_Ratio_bottom : Stmt := inClass (top 20) 4
abbrev s_Ratio_pair : Stmt := inClass (top 20) 5
abbrev s_Ratio_text : Stmt := inClass (top 20) 6
abbrev s_Ratio_sign : Stmt := inClass (top 20) 7
abbrev s_Ratio_whole : Stmt := inClass (top 20) 8
abbrev s_Ratio___add__ : Stmt := inClass (top 20) 9
abbrev s_Ratio___sub__ : Stmt := inClass (top 20) 10
abbrev s_Ratio___mul__ : Stmt := inClass (top 20) 11
abbrev s_Ratio___neg__ : Stmt := inClass (top 20) 12
abbrev s_Ratio___abs__ : Stmt := inClass (top 20) 13
abbrev s_Ratio___bool__ : Stmt := inClass (top 20) 14
abbrev s_Ratio___eq__ : Stmt := inClass (top 20) 15
abbrev s_Ratio___str__ : Stmt := inClass (top 20) 16
abbrev s_Ratio_divided : Stmt := inClass (top 20) 17
abbrev s_Ratio_power : Stmt := inClass (top 20) 18
abbrev s_Ratio_is_below : Stmt := inClass (top 20) 19
abbrev s_Ratio_between : Stmt := inClass (top 20) 20
abbrev s_ratio : Stmt := top 21
abbrev s_operand : Stmt := top 22
abbrev s_law_dice : Stmt := top 24
abbrev s_law_roll : Stmt := top 25
abbrev s_law_pick : Stmt := top 26
abbrev s_law_ratio : Stmt := top 27
abbrev s_law_fraction : Stmt := top 28
abbrev s_law_text : Stmt := top 29
abbrev s_law_got : Stmt := top 30
abbrev s_law_bent : Stmt := top 31
abbrev s_law_digits : Stmt := top 32
abbrev s_law_due : Stmt := top 33
abbrev s_law_right : Stmt := top 34
abbrev s_law_is_refused : Stmt := top 35
abbrev s_law : Stmt := top 36
/-- the built-in names are the built-ins -/
structure Blt (mg : Str → Option Value) : Prop where
  n_abs : mg "abs" = none
  n_all : mg "all" = none
  n_bool : mg "bool" = none
  n_int : mg "int" = none
  n_isinstance : mg "isinstance" = none
  n_len : mg "len" = none
  n_max : mg "max" = none
  n_min : mg "min" = none
  n_range : mg "range" = none
  n_str : mg "str" = none
  n_tuple : mg "tuple" = none
structure Con (mg : Str → Option Value) : Prop where
  g_MAX_DIGITS : ∃ t, mg "MAX_DIGITS" = some (.int 300 t)
  g_LEAST_LONG : ∃ t, mg "LEAST_LONG" = some (.int (10 ^ 300) t)
/-! ### the law's own texts -/
theorem canLay_chars : ∀ l : List Nat, (∀ c ∈ l, c < 128) → PyData.canLayAll0 (l.map fun c => PyData.str ⟨#[c]⟩) = true
  | [], _ => rfl
  | c :: l, h => by
    have hc := h c List.mem_cons_self
    have ih := canLay_chars l fun x hx => h x (List.mem_cons_of_mem _ hx)
    simp [PyData.canLayAll0, PyData.canLay0, ih, PyData.strOk]
    omega
theorem depth_chars : ∀ l : List Nat, PyData.depthAll (l.map fun c => PyData.str ⟨#[c]⟩) = 0
  | [] => rfl
  | _ :: r => by simp [PyData.depthAll, PyData.depth, depth_chars r]
theorem shaped_chars {l : List Nat} (h : ∀ c ∈ l, c < 128) : SeqAt.shaped (.list (l.map fun c => PyData.str ⟨#[c]⟩)) = true := by
  simp [SeqAt.shaped, PyData.canLay0, PyData.depth, canLay_chars l h, depth_chars]
theorem eqv_nil (l : List Nat) : PyData.eqv (.list (l.map fun c => PyData.str ⟨#[c]⟩)) (.list []) = l.isEmpty := by
  cases l with
  | nil => rfl
  | cons c l => rfl
theorem dpa_chars {K : PySem.W.Frag} {H : Hp} : ∀ l : List Nat, DpAll K H (l.map fun c => V.str ⟨#[c]⟩) (l.map fun c => PyData.str ⟨#[c]⟩)
  | [] => .nil
  | c :: l => .cons (.str _) (dpa_chars l)
def isD (c : Nat) : Bool := decide (48 ≤ c) && decide (c ≤ 57)
theorem in_dig (c : Nat) : decide (c ∈ (("0123456789" : Str)).cps.toList) = isD c := by
  have e : (("0123456789" : Str)).cps.toList = [48, 49, 50, 51, 52, 53, 54, 55, 56, 57] := by decide +kernel
  rw [e]
  unfold isD
  rw [Bool.eq_iff_iff, decide_eq_true_eq, Bool.and_eq_true, decide_eq_true_eq, decide_eq_true_eq]
  simp only [List.mem_cons, List.not_mem_nil, or_false]
  omega
theorem all_not {l : List Nat} : (l.filter fun c => !isD c).isEmpty = l.all isD := by
  induction l with
  | nil => rfl
  | cons c l ih =>
    rw [List.filter_cons, List.all_cons, ← ih]
    cases isD c <;> rfl
theorem chr_at {z : Str} {i c : Nat} (h : z.cps[i]? = some c) : z.cps.toList.take (i + 1) = z.cps.toList.take i ++ [c] := by
  have e : z.cps.toList[i]? = some c := by simpa using h
  rw [List.take_add_one, e]
  rfl
theorem sl_to (t : Str) {i : Int} (h : 0 ≤ i) : tl (Txt.slice t none (some i)) = (tl t).take i.toNat := by
  have e := SX.slice_to (a := tl t) h
  rw [show SX.S (tl t) = t from mk_tl t] at e
  rw [e]
theorem sl_from (t : Str) {i : Int} (h : 0 ≤ i) : tl (Txt.slice t (some i) none) = (tl t).drop i.toNat := by
  have e := SX.slice_from (a := tl t) h
  rw [show SX.S (tl t) = t from mk_tl t] at e
  rw [e]
theorem hd_minus (t : Str) : decide (Txt.slice t none (some 1) = "-") = decide ((tl t).head? = some 45) := by
  rw [decide_eq_decide]
  constructor
  · intro h
    have e := congrArg tl h
    rw [sl_to t (by decide), tl_minus] at e
    cases q : tl t with
    | nil => rw [q] at e; cases e
    | cons c r =>
      rw [q] at e
      injection e with e _
      rw [e]
      rfl
  · intro h
    refine ext_tl ?_
    rw [sl_to t (by decide), tl_minus]
    cases q : tl t with
    | nil => rw [q] at h; cases h
    | cons c r =>
      rw [q] at h
      injection h with h
      rw [h]
      rfl
theorem strip_drop {t : Str} (h : (tl t).head? = some 45) : tl (Txt.slice t (some 1) none) = strip (tl t) := by
  rw [sl_from t (by decide)]
  cases q : tl t with
  | nil => rw [q] at h; cases h
  | cons c r =>
    rw [q] at h
    injection h with h
    subst h
    rfl
theorem strip_keep {t : Str} (h : ¬ (tl t).head? = some 45) : tl t = strip (tl t) := by
  rcases strip_cases (tl t) with ⟨r, q⟩ | ⟨q, _⟩
  · rw [q] at h
    exact absurd rfl h
  · exact q.symm
def spLDig : Sp := fun vs H Q _ => ∃ t : Str, vs = [.str t] ∧ Asc (tl t) ∧ (tl t).length ≤ 200 ∧ ∀ H', Same H H' → Q (.bl (canon (tl t))) H'
def spBent (K : PySem.W.Frag) : Sp := fun vs H Q _ => ∃ (d : Addr) (t : Str), vs = [.ref d, .str t] ∧ DiceAt H d ∧ Asc (tl t) ∧ (tl t).length ≤ 100 ∧ ∀ (u : Str) H', Asc (tl u) → (tl u).length ≤ 200 → DiceAt H' d → Fr d H H' → Q (.str u) H'
def spLDue (K : PySem.W.Frag) : Sp := fun vs H Q _ => ∃ t : Str, vs = [.str t] ∧ Asc (tl t) ∧ (tl t).length ≤ 200 ∧ (∀ p, lread (tl t) = some p → ∀ a H', H a = none → H' a = some (.tup [.int p.1, .int p.2]) → Same H H' → Q (.ref a) H') ∧ (lread (tl t) = none → ∀ H', Same H H' → Q .non H')
theorem eqvQ (a b : Int × Int) : PyData.eqv (tq a) (tq b) = decide (a = b) := by
  show ((a.1 == b.1) && ((a.2 == b.2) && true)) = _
  rw [Bool.and_true, Bool.eq_iff_iff, Bool.and_eq_true, decide_eq_true_eq, beq_iff_eq, beq_iff_eq]
  exact ⟨fun z => Prod.ext z.1 z.2, fun z => by rw [z]; exact ⟨rfl, rfl⟩⟩
theorem canLay_strs : ∀ l : List Str, (∀ s ∈ l, Asc (tl s)) → PyData.canLayAll0 (l.map PyData.str) = true
  | [], _ => rfl
  | s :: l, h => by
    have ih := canLay_strs l fun x hx => h x (List.mem_cons_of_mem _ hx)
    have ok : PyData.strOk s = true := strOk_iff.mpr fun c m => Nat.lt_trans (h s List.mem_cons_self c m) (by decide)
    show (PyData.strOk s && PyData.canLayAll0 (l.map PyData.str)) = true
    rw [ok, ih]
    rfl
theorem depth_strs : ∀ l : List Str, PyData.depthAll (l.map PyData.str) = 0
  | [] => rfl
  | _ :: r => by simp [PyData.depthAll, PyData.depth, depth_strs r]
theorem shaped_strs {l : List Str} (h : ∀ s ∈ l, Asc (tl s)) : SeqAt.shaped (.list (l.map PyData.str)) = true := by
  simp [SeqAt.shaped, PyData.canLay0, PyData.depth, canLay_strs l h, depth_strs]
theorem eqv_nilS (l : List Str) : PyData.eqv (.list (l.map PyData.str)) (.list []) = l.isEmpty := by
  cases l with
  | nil => rfl
  | cons c l => rfl
theorem dpa_strs {K : PySem.W.Frag} {H : Hp} : ∀ l : List Str, DpAll K H (l.map V.str) (l.map PyData.str)
  | [] => .nil
  | s :: l => .cons (.str s) (dpa_strs l)
theorem all_notC {l : List Str} : (l.filter fun s => !canon (tl s)).isEmpty = l.all fun s => canon (tl s) := by
  induction l with
  | nil => rfl
  | cons c l ih =>
    rw [List.filter_cons, List.all_cons, ← ih]
    cases canon (tl c) <;> rfl
theorem lread_many {t : Str} (h : 2 < (Txt.split t "/").length) : lread (tl t) = none := by
  unfold lread
  rw [← split_tl]
  match Txt.split t "/", h with
  | _ :: _ :: _ :: _, _ => rfl
theorem lread_no {t : Str} (h : ((Txt.split t "/").all fun s => canon (tl s)) = false) : lread (tl t) = none := by
  unfold lread
  rw [← split_tl]
  match q : Txt.split t "/" with
  | [] => rfl
  | [a] =>
    rw [q] at h
    have h : canon (tl a) = false := by simpa using h
    show (if canon (tl a) = true then _ else none) = none
    rw [h]
    rfl
  | [a, b] =>
    rw [q] at h
    show (if _ then _ else none) = none
    refine if_neg fun z => ?_
    have : ([a, b].all fun s => canon (tl s)) = true := by simp [z.1, z.2.1]
    rw [this] at h
    cases h
  | _ :: _ :: _ :: _ => rfl
theorem lread_one {t a : Str} (h : Txt.split t "/" = [a]) (c : canon (tl a) = true) : lread (tl t) = some (ival (tl a), 1) := by
  unfold lread
  rw [← split_tl, h]
  exact if_pos c
theorem one_is {t a : Str} (h : Txt.split t "/" = [a]) : a = t := by
  have j := join_spl (tl t) []
  rw [← split_tl, h] at j
  exact ext_tl j
theorem lread_two {t a b : Str} (h : Txt.split t "/" = [a, b]) (c1 : canon (tl a) = true) (c2 : canon (tl b) = true) : lread (tl t) = if 1 < ival (tl b) ∧ low (ival (tl a)) (ival (tl b)) = (ival (tl a), ival (tl b)) then some (ival (tl a), ival (tl b)) else none := by
  unfold lread
  rw [← split_tl, h]
  show (if _ then _ else _) = _
  by_cases z : 1 < ival (tl b) ∧ low (ival (tl a)) (ival (tl b)) = (ival (tl a), ival (tl b))
  · rw [if_pos z]
    exact if_pos ⟨c1, c2, z.1, z.2⟩
  · rw [if_neg z]
    exact if_neg fun w => z ⟨w.2.2.1, w.2.2.2⟩
theorem emp_iff {x : Str} : x = "" ↔ tl x = [] := by
  constructor
  · intro h
    rw [h]
    decide +kernel
  · intro h
    exact ext_tl (h.trans (by decide +kernel))

theorem pread_txL {p : Int × Int} (f : Fine p) (l : (txL p).length ≤ 200) : pread (txL p) = some p := by
  rw [read_eq l]
  unfold lread
  rw [spl_txL]
  by_cases h : p.2 = 1
  · rw [if_pos h]
    show (if canon (iL p.1) = true then some (ival (iL p.1), (1 : Int)) else none) = some p
    rw [if_pos (canon_iL _), ival_iL]
    exact congrArg some (Prod.ext rfl h.symm)
  · rw [if_neg h]
    show (if canon (iL p.1) = true ∧ canon (iL p.2) = true ∧ 1 < ival (iL p.2) ∧ low (ival (iL p.1)) (ival (iL p.2)) = (ival (iL p.1), ival (iL p.2)) then some (ival (iL p.1), ival (iL p.2)) else none) = some p
    rw [ival_iL, ival_iL]
    have := f.l.1
    exact if_pos ⟨canon_iL _, canon_iL _, by omega, low_fix f.l⟩
theorem asc_iL (n : Int) : Asc (iL n) := by
  intro c hc
  unfold iL at hc
  split at hc
  · rcases List.mem_cons.mp hc with h | h
    · omega
    · have := numL_digits _ c h
      omega
  · have := numL_digits _ c hc
    omega
theorem asc_txL (p : Int × Int) : Asc (txL p) := by
  unfold txL
  split
  · exact asc_iL _
  · intro c hc
    rcases List.mem_append.mp hc with h | h
    · exact asc_iL _ c h
    · rcases List.mem_cons.mp h with h | h
      · omega
      · exact asc_iL _ c h
theorem len_txt {p : Int × Int} (h1 : p.1.natAbs < 10 ^ 40) (h2 : p.2.natAbs < 10 ^ 40) : (tl (txt p)).length ≤ 100 := by
  have a : ∀ i : Int, i.natAbs < 10 ^ 40 → (tI i).length ≤ 41 := fun i h => by
    have e := int_text_length_le10 (k := 40) (by decide) h
    unfold tI
    show (Str.ofString _).length ≤ _
    rw [PySem.ofString_length]
    exact e
  have a1 := a _ h1
  have a2 := a _ h2
  rw [← len_tl]
  unfold txt
  split
  · omega
  · rw [Str.length_append, Str.length_append]
    have : (("/" : Str)).length = 1 := by decide +kernel
    omega

theorem frac_small {p : Int × Int} (h : p ∈ fracs) : Low p ∧ p.1.natAbs < 10 ^ 40 ∧ p.2.natAbs < 10 ^ 40 := by
  have a : (fracs.all fun p => decide (p.1.natAbs < 100) && decide (p.2.natAbs < 100)) = true := by decide +kernel
  have a := List.all_eq_true.mp a p h
  simp only [Bool.and_eq_true, decide_eq_true_eq] at a
  exact ⟨(fracs_fine h).1, Nat.lt_trans a.1 (by decide), Nat.lt_trans a.2 (by decide)⟩

/-! ### what is refused -/
structure IFC (K : PySem.W.Frag) (mg : Str → Option Value) (x : Str) (C : Addr) : Prop where
  q : PySem.W.excIn K C He.veBase "ValueError.__new__" = true
  g : mg x = some (.ref C)
  kC : PySem.W.keepIn K (.ref C) = true
  exC : PySem.W.subIn K (.ref C) (.type "BaseException") = some true
  tyC : PySem.W.typeIn K (.ref C) = some (.type "type")
  te : PySem.W.exmOne K (.ref C) (.ref C) = some true
def spIsIntG : Sp := fun vs H Q _ => ∃ v : V, vs = [v] ∧ ((∃ i, v = .int i ∧ Q (.bl (okI i)) H) ∨ ∃ b, v = .bl b ∧ Q (.bl false) H)
def NF (K : PySem.W.Frag) (H : Hp) (v : V) : Prop := (∃ ty, TyX K H v ty ∧ PySem.W.kitOne K ty (.type "tuple") = some false) ∨ (∃ a xs, v = .ref a ∧ H a = some (.tup xs) ∧ xs.length ≠ 2) ∨
  (∃ a b y, v = .ref a ∧ H a = some (.tup [.bl b, y])) ∨ ∃ (a : Addr) (p : Int × Int), v = .ref a ∧ H a = some (.tup [.int p.1, .int p.2]) ∧ fracB p = false
def spNoFr (K : PySem.W.Frag) : Sp := fun vs H Q _ => ∃ v : V, vs = [v] ∧ NF K H v ∧ Q (.bl false) H
def spOfX (K : PySem.W.Frag) (CF : Addr) : Sp := fun vs H _ E => ∃ (C : Addr) (v : V), vs = [.ref C, v] ∧ NF K H v ∧ ∀ H', Same H H' → E (.ref CF) none H'
def spRef (K : PySem.W.Frag) : Sp := fun vs H Q _ => ∃ v : V, vs = [v] ∧ NF K H v ∧ ∀ H', Same H H' → Q (.bl true) H'
/-- odd values: what is read as nothing -/
def Odd (G : Hp) (v : V) : Prop := (∃ t : Str, v = .str t ∧ Asc (tl t) ∧ (tl t).length ≤ 200 ∧ pread (tl t) = none) ∨ v = .non ∨ (∃ i, v = .int i) ∨ (∃ b, v = .bl b) ∨ ∃ a ys, v = .ref a ∧ (G a = some (.tup ys) ∨ G a = some (.lst ys))
theorem Odd.rd {K : PySem.W.Frag} {G H : Hp} {v : V} (s : Same G H) (h : Odd G v) : Rd K H v none := by
  rcases h with ⟨t, e, a, l, r⟩ | rfl | ⟨i, rfl⟩ | ⟨b, rfl⟩ | ⟨a, ys, rfl, h | h⟩
  · exact .inl ⟨t, e, a, l, r.symm⟩
  · exact .inr ⟨_, .base .non, kit_ty (by decide +kernel), rfl⟩
  · exact .inr ⟨_, .base (.int i), kit_ty (by decide +kernel), rfl⟩
  · exact .inr ⟨_, .base (.bl b), kit_ty (by decide +kernel), rfl⟩
  · exact .inr ⟨_, .base (.tup (s _ _ h)), kit_ty (by decide +kernel), rfl⟩
  · exact .inr ⟨_, .base (.lst (s _ _ h)), kit_ty (by decide +kernel), rfl⟩
section
variable {P : Program} {w : World} {K : PySem.W.Frag} {mg : Str → Option Value} {base : Heap}
theorem sc_is_integer : FnScope ["value"] ["value"] (defScope s_is_integer) := ⟨rfl, rfl, rfl, by decide +kernel, rfl, by decide +kernel, by decide +kernel⟩
-- 0 value
theorem ok_is_integer {f : Addr} {fd : FuncData} (F : FunD K "is_integer" "is_integer" (defArgs s_is_integer) (defBody s_is_integer) (defScope s_is_integer) [] [] f fd) (B : Blt mg) (Z : Con mg) {C : Addr} (T : RatioC K mg C) {CP fPI : Addr} (PE : PEC K mg "ParseError" "line" CP fPI) {CF : Addr} (IF : IFC K mg "InvalidFraction" CF) : FnOk P w K mg base CX0 1 f fd ["value"] spIsInt := by
  refine F.ok sc_is_integer (fun vs H Q E h => ?_) (fun cdv A outer s H vs Q E hr h => ?_)
  · obtain ⟨i, rfl, _⟩ := h
    rfl
  · obtain ⟨i, rfl, k⟩ := h
    refine ⟨_, PSs.nox (pss_cons (ps_if (PW.pt (pw_or (pt_not (pt_val (pe_callB (c_isi (K := K)) (by rfl) B.n_isinstance (by decide +kernel) (pa_cons (pv 0) (pa_cons (pe_bltn (v := .ty "int") (by rfl) B.n_int (by decide +kernel) rfl) pa_nil))))) (pw_or1 (pt_val (pe_callB (c_isi (K := K)) (by rfl) B.n_isinstance (by decide +kernel) (pa_cons (pv 0) (pa_cons (pe_bltn (v := .ty "bool") (by rfl) B.n_bool (by decide +kernel) rfl) pa_nil))))))) (pss_one (ps_ret pe_bl)) pss_nil) (pss_one (ps_ret (pe_chain op_lt op_lt (pe_un un_neg (pe_globI (by rfl) Z.g_LEAST_LONG)) (pv 0) (pe_globI (by rfl) Z.g_LEAST_LONG))))), ?_⟩
    walk_at "yy"
    refine y_isi (k := true) (.base (.int i)) (kit_ty (by decide +kernel)) ?_
    walk_at "yy"
    walk_at "yf"
    walk_at "yy"
    refine y_isi (k := false) (.base (.int i)) (kit_ty (by decide +kernel)) ?_
    walk_at "yy"
    walk_at "yf"
    walk_at "yy"
    refine y_ite (fun h => ?_) (fun h => ?_)
    · walk_at "yy"
      have e : okI i = decide (i < 10 ^ 300) := by
        unfold okI
        rw [if_pos h]
      rw [← e]
      exact k
    · have e : okI i = false := by
        unfold okI
        rw [if_neg (by rw [h]; exact Bool.false_ne_true)]
      rw [← e]
      exact k
theorem sc_is_fraction : FnScope ["value", "top", "bottom"] ["value"] (defScope s_is_fraction) := ⟨rfl, rfl, rfl, by decide +kernel, rfl, by decide +kernel, by decide +kernel⟩
-- 0 value, 1 top, 2 bottom
theorem ok_is_fraction {f : Addr} {fd : FuncData} (F : FunD K "is_fraction" "is_fraction" (defArgs s_is_fraction) (defBody s_is_fraction) (defScope s_is_fraction) [] [] f fd) (B : Blt mg) (Z : Con mg) {C : Addr} (T : RatioC K mg C) {CP fPI : Addr} (PE : PEC K mg "ParseError" "line" CP fPI) {CF : Addr} (IF : IFC K mg "InvalidFraction" CF) (C_is_integer : Cal P w K mg base 1 "is_integer" ["value"] spIsInt) : FnOk P w K mg base CX0 2 f fd ["value"] (spIsFrac K) := by
  refine F.ok sc_is_fraction (fun vs H Q E h => ?_) (fun cdv A outer s H vs Q E hr h => ?_)
  · obtain ⟨a, p, rfl, _⟩ := h
    rfl
  · obtain ⟨a, p, rfl, ha, k⟩ := h
    refine ⟨_, PSs.nox (pss_cons (ps_if (PW.pt (pw_or (pt_not (pt_val (pe_callB (c_isi (K := K)) (by rfl) B.n_isinstance (by decide +kernel) (pa_cons (pv 0) (pa_cons (pe_bltn (v := .ty "tuple") (by rfl) B.n_tuple (by decide +kernel) rfl) pa_nil))))) (pw_or1 (pt_cmpR op_ne (pe_callB (c_lenQ (K := K)) (by rfl) B.n_len (by decide +kernel) (pa_cons (pv 0) pa_nil)) pe_int (nomark _))))) (pss_one (ps_ret pe_bl)) pss_nil) (pss_cons (ps_asg (pv 0) (g_tup (K := K) (n := 2) (by rfl) (pgs_cons (pg_name (i := 1) sc_is_fraction.nd rfl (Or.inl rfl)) (pgs_cons (pg_name (i := 2) sc_is_fraction.nd rfl (Or.inl rfl)) pgs_nil)))) (pss_cons (ps_if (PW.pt (pw_or (pt_not (pt_val (pe_fn C_is_integer (hr.mono (by decide)) (by rfl) (pa_cons (pv 1) pa_nil)))) (pw_or1 (pt_not (pt_val (pe_fn C_is_integer (hr.mono (by decide)) (by rfl) (pa_cons (pv 2) pa_nil))))))) (pss_one (ps_ret pe_bl)) pss_nil) (pss_one (ps_ret (pe_and (pe_cmpR op_ge (pv 2) pe_int (nomark _)) (pe_one (pe_cmpR op_eq (pe_callBfun cr_gcd (by rfl) T.gcd (pa_cons (pv 1) (pa_cons (pv 2) pa_nil))) pe_int (nomark _))))))))), ?_⟩
    walk_at "yy"
    refine y_isi (k := true) (.base (.tup ha)) (kit_ty (by decide +kernel)) ?_
    walk_at "yy"
    walk_at "yf"
    walk_at "yy"
    refine y_lenT (sqt ha) ?_
    walk_at "yy"
    with_reducible refine y_f ?_ ?_
    · rfl
    walk_at "yy"
    refine y_gtup rfl (sqt ha) rfl ?_
    walk_at "yy"
    refine ⟨p.1, rfl, ?_⟩
    walk_at "yy"
    have fin : ∀ b, fracB p = b → Q (.bl b) H := fun b e => by
      rw [← e]
      exact k
    refine y_ite (fun h1 => ?_) (fun h1 => ?_)
    · walk_at "yy"
      refine fin _ ?_
      unfold fracB
      rw [(Bool.not_eq_true' _).mp h1, Bool.false_and, Bool.false_and, Bool.false_and]
    · walk_at "yy"
      refine ⟨p.2, rfl, ?_⟩
      walk_at "yy"
      refine y_ite (fun h2 => ?_) (fun h2 => ?_)
      · walk_at "yy"
        refine fin _ ?_
        unfold fracB
        rw [(Bool.not_eq_true' _).mp h2, Bool.and_false, Bool.false_and, Bool.false_and]
      · walk_at "yy"
        have h1 := (Bool.not_eq_false' _).mp h1
        have h2 := (Bool.not_eq_false' _).mp h2
        refine y_ite (fun h3 => ?_) (fun h3 => ?_)
        · walk_at "yy"
          refine fin _ ?_
          unfold fracB
          rw [h1, h2, h3, Bool.true_and, Bool.true_and, Bool.true_and, decide_eq_decide]
          omega
        · refine fin _ ?_
          unfold fracB
          rw [h3, Bool.and_false, Bool.false_and]
theorem sc_lowest : FnScope ["top", "bottom", "common"] ["top", "bottom"] (defScope s_lowest) := ⟨rfl, rfl, rfl, by decide +kernel, rfl, by decide +kernel, by decide +kernel⟩
-- 0 top, 1 bottom, 2 common
theorem ok_lowest {f : Addr} {fd : FuncData} (F : FunD K "lowest" "lowest" (defArgs s_lowest) (defBody s_lowest) (defScope s_lowest) [] [] f fd) (B : Blt mg) (Z : Con mg) {C : Addr} (T : RatioC K mg C) {CP fPI : Addr} (PE : PEC K mg "ParseError" "line" CP fPI) {CF : Addr} (IF : IFC K mg "InvalidFraction" CF) : FnOk P w K mg base CX0 1 f fd ["top", "bottom"] spLowest := by
  refine F.ok sc_lowest (fun vs H Q E h => ?_) (fun cdv A outer s H vs Q E hr h => ?_)
  · obtain ⟨t, b, rfl, _⟩ := h
    rfl
  · obtain ⟨t, b, rfl, h0, ht, hb, k⟩ := h
    refine ⟨_, PSs.nox (pss_cons (ps_set (i := 2) sc_lowest.nd rfl (Or.inl rfl) (pe_callBfun cr_gcd (by rfl) T.gcd (pa_cons (pv 0) (pa_cons (pv 1) pa_nil)))) (pss_cons (ps_if (pt_cmpR op_lt (pv 1) pe_int (nomark _)) (pss_one (ps_set (i := 2) sc_lowest.nd rfl (Or.inl rfl) (pe_un un_neg (pv 2)))) pss_nil) (pss_one (ps_ret (pe_tup (pa_cons (pe_op op_fdivWN (pv 0) (pv 2)) (pa_cons (pe_op op_fdivWN (pv 1) (pv 2)) pa_nil))))))), ?_⟩
    walk_at "yy"
    have hd := fun i : Int => divWN (t := t) h0 hb (i := i)
    by_cases hn : b < 0
    · refine y_t (decide_eq_true hn) ?_
      rw [if_pos hn] at hd
      walk_at "yy"
      refine y_I (hd _) ?_
      walk_at "yy"
      refine y_I (hd _) ?_
      walk_at "yy"
      refine ⟨by show 2 ≤ sizeLine; decide, fun p hp => k p _ hp ?_ (same_new hp)⟩
      rw [upd_same]
      unfold low lowT lowB
      rw [if_pos hn]
      rfl
    · refine y_f (decide_eq_false hn) ?_
      rw [if_neg hn] at hd
      walk_at "yy"
      refine y_I (hd _) ?_
      walk_at "yy"
      refine y_I (hd _) ?_
      walk_at "yy"
      refine ⟨by show 2 ≤ sizeLine; decide, fun p hp => k p _ hp ?_ (same_new hp)⟩
      rw [upd_same]
      unfold low lowT lowB
      rw [if_neg hn]
      rfl
theorem sc_Ratio___init__ : FnScope ["self", "top", "bottom"] ["self", "top", "bottom"] (defScope s_Ratio___init__) := ⟨rfl, rfl, rfl, by decide +kernel, rfl, by decide +kernel, by decide +kernel⟩
-- 0 self, 1 top, 2 bottom
theorem ok_Ratio___init__ {f : Addr} {fd : FuncData} (F : FunD K "__init__" "Ratio.__init__" (defArgs s_Ratio___init__) (defBody s_Ratio___init__) (defScope s_Ratio___init__) [.int 1] [] f fd) (B : Blt mg) (Z : Con mg) {C : Addr} (T : RatioC K mg C) {CP fPI : Addr} (PE : PEC K mg "ParseError" "line" CP fPI) {CF : Addr} (IF : IFC K mg "InvalidFraction" CF) (C_is_integer : Cal P w K mg base 1 "is_integer" ["value"] spIsInt) (C_lowest : Cal P w K mg base 1 "lowest" ["top", "bottom"] spLowest) : FnOk P w K mg base CX0 2 f fd ["self", "top", "bottom"] (spInit C) := by
  refine F.ok sc_Ratio___init__ (fun vs H Q E h => ?_) (fun cdv A outer s H vs Q E hr h => ?_)
  · obtain ⟨x, dx, t, b, rfl, _⟩ := h
    rfl
  · obtain ⟨x, dx, t, b, rfl, hx, h1, h2, h0, k⟩ := h
    refine ⟨_, PSs.nox (pss_cons (ps_if (PW.pt (pw_or (pt_not (pt_val (pe_fn C_is_integer (hr.mono (by decide)) (by rfl) (pa_cons (pv 1) pa_nil)))) (pw_or1 (pt_not (pt_val (pe_fn C_is_integer (hr.mono (by decide)) (by rfl) (pa_cons (pv 2) pa_nil))))))) (pss_one ps_never) pss_nil) (pss_cons (ps_if (pt_cmpR op_eq (pv 2) pe_int (nomark _)) (pss_one ps_never) pss_nil) (pss_one (ps_asg (pe_fn C_lowest (hr.mono (by decide)) (by rfl) (pa_cons (pv 1) (pa_cons (pv 2) pa_nil))) (g_tup (K := K) (n := 2) (by rfl) (pgs_cons (pg_fld (K := K) (pv 0)) (pgs_cons (pg_fld (K := K) (pv 0)) pgs_nil))))))), ?_⟩
    walk_at "yy"
    refine ⟨t, rfl, ?_⟩
    rw [h1]
    walk_at "yy"
    walk_at "yf"
    walk_at "yy"
    refine ⟨b, rfl, ?_⟩
    rw [h2]
    walk_at "yy"
    walk_at "yf"
    walk_at "yy"
    refine y_f (decide_eq_false h0) ?_
    walk_at "yy"
    refine ⟨t, b, rfl, h0, up_lt (okI_nat h1) (by decide), up_lt (okI_nat h2) (by decide), fun a H1 na ea s1 => ?_⟩
    walk_at "yy"
    refine y_gtup rfl (sqt ea) rfl ?_
    walk_at "yy"
    refine ⟨x, C, dx, [], rfl, s1 _ _ hx, T.cls, T.nT, by decide, ?_⟩
    walk_at "yy"
    refine ⟨x, C, dx, _, rfl, upd_same, T.cls, T.nB, by show 1 < 1000; decide, ?_⟩
    walk_at "yy"
    refine k _ ⟨dx, ?_⟩ fun c o e n => ?_
    · rw [upd_same]
      exact congrArg (fun l => some (HO.ins C dx l)) (rf_put (low t b))
    · rw [upd_ne n, upd_ne n]
      exact s1 _ _ e
theorem sc_Ratio_pair : FnScope ["self"] ["self"] (defScope s_Ratio_pair) := ⟨rfl, rfl, rfl, by decide +kernel, rfl, by decide +kernel, by decide +kernel⟩
-- 0 self
theorem ok_Ratio_pair {f : Addr} {fd : FuncData} (F : FunD K "pair" "Ratio.pair" (defArgs s_Ratio_pair) (defBody s_Ratio_pair) (defScope s_Ratio_pair) [] [] f fd) (B : Blt mg) (Z : Con mg) {C : Addr} (T : RatioC K mg C) {CP fPI : Addr} (PE : PEC K mg "ParseError" "line" CP fPI) {CF : Addr} (IF : IFC K mg "InvalidFraction" CF) : FnOk P w K mg base CX0 1 f fd ["self"] (spPair C) := by
  refine F.ok sc_Ratio_pair (fun vs H Q E h => ?_) (fun cdv A outer s H vs Q E hr h => ?_)
  · obtain ⟨x, p, rfl, _⟩ := h
    rfl
  · obtain ⟨x, p, rfl, hx, k⟩ := h
    refine ⟨_, PSs.nox (pss_one (ps_ret (pe_tup (pa_cons (e_fld (K := K) (pv 0)) (pa_cons (e_fld (K := K) (pv 0)) pa_nil))))), ?_⟩
    walk_at "yy"
    refine ⟨_, C, _, _, _, rfl, hx.choose_spec, T.cls, T.nT, rf_t _, ?_⟩
    walk_at "yy"
    refine ⟨_, C, _, _, _, rfl, hx.choose_spec, T.cls, T.nB, rf_b _, ?_⟩
    walk_at "yy"
    exact ⟨by show 2 ≤ sizeLine; decide, fun a ha => k a _ ha upd_same (same_new ha)⟩
theorem sc_Ratio_of : FnScope ["cls", "pair"] ["cls", "pair"] (defScope s_Ratio_of) := ⟨rfl, rfl, rfl, by decide +kernel, rfl, by decide +kernel, by decide +kernel⟩
-- 0 cls, 1 pair
theorem ok_Ratio_of {f : Addr} {fd : FuncData} (F : FunD K "of" "Ratio.of" (defArgs s_Ratio_of) (defBody s_Ratio_of) (defScope s_Ratio_of) [] [] f fd) (B : Blt mg) (Z : Con mg) {C : Addr} (T : RatioC K mg C) {CP fPI : Addr} (PE : PEC K mg "ParseError" "line" CP fPI) {CF : Addr} (IF : IFC K mg "InvalidFraction" CF) (C_is_fraction : Cal P w K mg base 2 "is_fraction" ["value"] (spIsFrac K)) (C_Ratio_2 : Mkr P w K mg base 2 "Ratio" C (spInit C) []) : FnOk P w K mg base CX0 4 f fd ["cls", "pair"] (spOf C) := by
  refine F.ok sc_Ratio_of (fun vs H Q E h => ?_) (fun cdv A outer s H vs Q E hr h => ?_)
  · obtain ⟨a, p, rfl, _⟩ := h
    rfl
  · obtain ⟨a, p, rfl, ha, fp, k⟩ := h
    refine ⟨_, PSs.nox (pss_cons (ps_if (pt_not (pt_val (pe_fn C_is_fraction (hr.mono (by decide)) (by rfl) (pa_cons (pv 1) pa_nil)))) (pss_one ps_never) pss_nil) (pss_one (ps_ret (e_mkl (i := 0) C_Ratio_2 (hr.mono (by decide)) rfl (by first | exact Or.inl rfl | exact Or.inr (Or.inl rfl)) (pa_cons (pe_ix (x_tup (K := K)) (pv 1) pe_int (fun _ _ => rfl)) (pa_cons (pe_ix (x_tup (K := K)) (pv 1) pe_int (fun _ _ => rfl)) pa_nil)))))), ?_⟩
    have e : fracB p = true := by
      unfold fracB
      rw [fp.t, fp.b, decide_eq_true (show 1 ≤ p.2 from fp.l.1), decide_eq_true fp.l.2]
      rfl
    walk_at "yy"
    refine ⟨a, p, rfl, ha, ?_⟩
    rw [e]
    walk_at "yy"
    walk_at "yf"
    walk_at "yy"
    refine y_mkl rfl ?_
    walk_at "yy"
    refine y_ixT (sqt ha) rfl ?_
    walk_at "yy"
    refine y_ixT (sqt ha) rfl ?_
    walk_at "yy"
    refine fun x dx nx ndx nxd => ?_
    refine ⟨x, dx, _, _, rfl, upd_same, fp.t, fp.b, Int.ne_of_gt fp.l.1, fun H2 hR fr => ⟨rfl, ?_⟩⟩
    refine k x H2 nx ?_ fun c o e1 => ?_
    · rw [← low_fix fp.l]
      exact hR
    · have n1 : c ≠ x := ne_of_none e1 nx
      have n2 : c ≠ dx := ne_of_none e1 ndx
      exact fr c o (by rw [upd_ne n1, upd_ne n2]; exact e1) n1
theorem sc_text_of : FnScope ["pair", "top", "bottom"] ["pair"] (defScope s_text_of) := ⟨rfl, rfl, rfl, by decide +kernel, rfl, by decide +kernel, by decide +kernel⟩
-- 0 pair, 1 top, 2 bottom
theorem ok_text_of {f : Addr} {fd : FuncData} (F : FunD K "text_of" "text_of" (defArgs s_text_of) (defBody s_text_of) (defScope s_text_of) [] [] f fd) (B : Blt mg) (Z : Con mg) {C : Addr} (T : RatioC K mg C) {CP fPI : Addr} (PE : PEC K mg "ParseError" "line" CP fPI) {CF : Addr} (IF : IFC K mg "InvalidFraction" CF) : FnOk P w K mg base CX0 1 f fd ["pair"] spTextOf := by
  refine F.ok sc_text_of (fun vs H Q E h => ?_) (fun cdv A outer s H vs Q E hr h => ?_)
  · obtain ⟨a, p, rfl, _⟩ := h
    rfl
  · obtain ⟨a, p, rfl, ha, h1, h2, k⟩ := h
    refine ⟨_, PSs.nox (pss_cons (ps_asg (pv 0) (g_tup (K := K) (n := 2) (by rfl) (pgs_cons (pg_name (i := 1) sc_text_of.nd rfl (Or.inl rfl)) (pgs_cons (pg_name (i := 2) sc_text_of.nd rfl (Or.inl rfl)) pgs_nil)))) (pss_one (ps_ret (pe_ifExp (pt_cmpR op_eq (pv 2) pe_int (nomark _)) (pe_callTy call_str_int (by rfl) B.n_str (by decide +kernel) (pa_cons (pv 1) pa_nil)) (pe_joined (.cons (pe_fmt (pv 1)) (.cons pe_str (.cons (pe_fmt (pv 2)) .nil)))))))), ?_⟩
    walk_at "yy"
    refine y_gtup rfl (sqt ha) rfl ?_
    walk_at "yy"
    refine y_ite (fun h => ?_) (fun h => ?_)
    · have h := of_decide_eq_true h
      walk_at "yy"
      refine ⟨p.1, rfl, tI_log h1, ?_⟩
      have e : txt p = tI p.1 := by
        unfold txt
        rw [if_pos h]
      rw [e] at k
      exact k
    · have h := of_decide_eq_false h
      have e : txt p = ((Str.empty ++ tI p.1) ++ "/") ++ tI p.2 := by
        unfold txt
        rw [if_neg h, Str.empty_append]
      rw [e] at k
      have l1 := tI_len h1
      have l2 := tI_len h2
      have l3 : (Str.empty ++ tI p.1).length ≤ 301 := by rw [Str.empty_append]; exact l1
      have l4 : ((Str.empty ++ tI p.1) ++ "/").length ≤ 302 := by
        rw [Str.length_append]
        have : (("/" : Str)).length = 1 := by decide +kernel
        omega
      have l5 : (((Str.empty ++ tI p.1) ++ "/") ++ tI p.2).length ≤ 603 := by
        rw [Str.length_append]
        omega
      refine ⟨_, rfl, .inr ⟨p.1, rfl, tI_log h1, ?_⟩⟩
      refine ⟨_, rfl, Nat.le_trans l3 (by decide), ?_⟩
      refine ⟨_, rfl, Nat.le_trans l4 (by decide), ?_⟩
      refine ⟨_, rfl, .inr ⟨p.2, rfl, tI_log h2, ?_⟩⟩
      exact ⟨_, rfl, Nat.le_trans l5 (by decide), k⟩
theorem sc_Ratio_text : FnScope ["self"] ["self"] (defScope s_Ratio_text) := ⟨rfl, rfl, rfl, by decide +kernel, rfl, by decide +kernel, by decide +kernel⟩
-- 0 self
theorem ok_Ratio_text {f : Addr} {fd : FuncData} (F : FunD K "text" "Ratio.text" (defArgs s_Ratio_text) (defBody s_Ratio_text) (defScope s_Ratio_text) [] [] f fd) (B : Blt mg) (Z : Con mg) {C : Addr} (T : RatioC K mg C) {CP fPI : Addr} (PE : PEC K mg "ParseError" "line" CP fPI) {CF : Addr} (IF : IFC K mg "InvalidFraction" CF) (C_Ratio_pair : Prp P w K mg base 1 C "pair" (spPair C)) (C_text_of : Cal P w K mg base 1 "text_of" ["pair"] spTextOf) : FnOk P w K mg base CX0 3 f fd ["self"] (spText C) := by
  refine F.ok sc_Ratio_text (fun vs H Q E h => ?_) (fun cdv A outer s H vs Q E hr h => ?_)
  · obtain ⟨x, p, rfl, _⟩ := h
    rfl
  · obtain ⟨x, p, rfl, hx, fp, k⟩ := h
    refine ⟨_, PSs.nox (pss_one (ps_ret (pe_fn C_text_of (hr.mono (by decide)) (by rfl) (pa_cons (e_prp C_Ratio_pair T.cls (hr.mono (by decide)) (pv 0)) pa_nil)))), ?_⟩
    walk_at "yy"
    obtain ⟨dx, hx'⟩ := id hx
    refine ⟨x, dx, _, rfl, hx', x, p, rfl, hx, fun a H1 na ea s1 => ?_⟩
    walk_at "yy"
    exact ⟨a, p, rfl, ea, fp.t, fp.b, k _ s1⟩
theorem sc_are_digits : FnScope ["text"] ["text"] (defScope s_are_digits) := ⟨rfl, rfl, rfl, by decide +kernel, rfl, by decide +kernel, by decide +kernel⟩
-- 0 text
theorem ok_are_digits {f : Addr} {fd : FuncData} (F : FunD K "_are_digits" "_are_digits" (defArgs s_are_digits) (defBody s_are_digits) (defScope s_are_digits) [] [] f fd) (B : Blt mg) (Z : Con mg) {C : Addr} (T : RatioC K mg C) {CP fPI : Addr} (PE : PEC K mg "ParseError" "line" CP fPI) {CF : Addr} (IF : IFC K mg "InvalidFraction" CF) : FnOk P w K mg base CX0 1 f fd ["text"] spAreDig := by
  refine F.ok sc_are_digits (fun vs H Q E h => ?_) (fun cdv A outer s H vs Q E hr h => ?_)
  · obtain ⟨t, rfl, _⟩ := h
    rfl
  · obtain ⟨t, rfl, ha, hl, k⟩ := h
    refine ⟨_, PSs.nox (pss_one (ps_ret (pe_and (pe_cmpR op_le (pe_callB c_lenS (by rfl) B.n_len (by decide +kernel) (pa_cons (pv 0) pa_nil)) (pe_globI (by rfl) Z.g_MAX_DIGITS) (nomark _)) (pe_and (pe_m0 PySem.F.slot_str_isascii PySem.F.type_str_isascii mt_isascii (pv 0)) (pe_one (pe_m0 PySem.F.slot_str_isdigit PySem.F.type_str_isdigit mt_isdigit (pv 0))))))), ?_⟩
    walk_at "yy"
    refine y_lenS (by rw [len_tl]; omega) ?_
    walk_at "yy"
    refine y_t (decide_eq_true (by rw [len_tl]; omega)) ?_
    walk_at "yy"
    refine ⟨.str t, rfl, ⟨_, rfl⟩, t, rfl, rfl, trivial, _, rfl, ?_⟩
    rw [isascii_t ha]
    walk_at "yt"
    walk_at "yy"
    refine ⟨.str t, rfl, ⟨_, rfl⟩, t, rfl, rfl, trivial, ?_⟩
    rw [isdigit_t ha]
    exact k
theorem sc_pair_read : FnScope ["text", "parts", "numbers", "pair", "part"] ["text"] (defScope s_pair_read) := ⟨rfl, rfl, rfl, by decide +kernel, rfl, by decide +kernel, by decide +kernel⟩
-- 0 text, 1 parts, 2 numbers, 3 pair, 4 part
theorem ok_pair_read {f : Addr} {fd : FuncData} (F : FunD K "pair_read" "pair_read" (defArgs s_pair_read) (defBody s_pair_read) (defScope s_pair_read) [] [] f fd) (B : Blt mg) (Z : Con mg) {C : Addr} (T : RatioC K mg C) {CP fPI : Addr} (PE : PEC K mg "ParseError" "line" CP fPI) {CF : Addr} (IF : IFC K mg "InvalidFraction" CF) (C_are_digits : Cal P w K mg base 1 "_are_digits" ["text"] spAreDig) (C_is_fraction : Cal P w K mg base 2 "is_fraction" ["value"] (spIsFrac K)) (C_text_of : Cal P w K mg base 1 "text_of" ["pair"] spTextOf) : FnOk P w K mg base CX0 3 f fd ["text"] (spPairRead K) := by
  refine F.ok sc_pair_read (fun vs H Q E h => ?_) (fun cdv A outer s H vs Q E hr h => ?_)
  · obtain ⟨v, R, rfl, _⟩ := h
    rfl
  · obtain ⟨v, R, rfl, hR, kN, kS⟩ := h
    refine ⟨_, PSs.nox (pss_cons (ps_if (pt_not (pt_val (pe_callB (c_isi (K := K)) (by rfl) B.n_isinstance (by decide +kernel) (pa_cons (pv 0) (pa_cons (pe_bltn (v := .ty "str") (by rfl) B.n_str (by decide +kernel) rfl) pa_nil))))) (pss_one (ps_ret pe_non)) pss_nil) (pss_cons (ps_set (i := 1) sc_pair_read.nd rfl (Or.inl rfl) (pe_m1 PySem.F.slot_str_split PySem.F.type_str_split mt_split (pv 0) pe_str)) (pss_cons (ps_if (pt_not (pt_val (pe_callB (c_all (K := K) rfl) (by rfl) B.n_all (by decide +kernel) (pa_cons (pe_lc (own := [("part", 4)]) (g := gName 4) (tt := tYes) rfl sc_pair_read.nd (w_list (K := K) (pv 1)) (blkOk_by (own := [("part", 4)]) (N := ["text", "parts", "numbers", "pair", "part"]) (sc := defScope s_pair_read) (by decide +kernel)) (fun _ _ _ _ _ => pg_name (i := 4) sc_pair_read.nd rfl (Or.inl rfl)) (fun _ _ _ _ _ => pts_nil) (fun _ _ _ _ _ => (pe_fn C_are_digits (hr.mono (by decide)) (by rfl) (pa_cons (pe_m1 PySem.F.slot_str_removeprefix PySem.F.type_str_removeprefix mt_removeprefix (pv 4) pe_str) pa_nil)))) pa_nil)))) (pss_one (ps_ret pe_non)) pss_nil) (pss_cons (ps_set (i := 2) sc_pair_read.nd rfl (Or.inl rfl) (pe_op op_cat (pe_lc (own := [("part", 4)]) (g := gName 4) (tt := tYes) rfl sc_pair_read.nd (w_list (K := K) (pv 1)) (blkOk_by (own := [("part", 4)]) (N := ["text", "parts", "numbers", "pair", "part"]) (sc := defScope s_pair_read) (by decide +kernel)) (fun _ _ _ _ _ => pg_name (i := 4) sc_pair_read.nd rfl (Or.inl rfl)) (fun _ _ _ _ _ => pts_nil) (fun _ _ _ _ _ => (pe_callTy call_int_str (by rfl) B.n_int (by decide +kernel) (pa_cons (pv 4) pa_nil)))) (pe_lst (pa_cons pe_int pa_nil)))) (pss_cons (ps_set (i := 3) sc_pair_read.nd rfl (Or.inl rfl) (pe_tup (pa_cons (pe_ix (x_list (K := K)) (pv 2) pe_int (fun _ _ => rfl)) (pa_cons (pe_ix (x_list (K := K)) (pv 2) pe_int (fun _ _ => rfl)) pa_nil)))) (pss_one (ps_ret (pe_ifExp (PW.pt (pw_and (pt_val (pe_fn C_is_fraction (hr.mono (by decide)) (by rfl) (pa_cons (pv 3) pa_nil))) (pw_and1 (pt_cmpR op_eq (pe_fn C_text_of (hr.mono (by decide)) (by rfl) (pa_cons (pv 3) pa_nil)) (pv 0) (nomark _))))) (pv 3) pe_non)))))))), ?_⟩
    rcases hR with ⟨t, rfl, ha, hl, eR⟩ | ⟨ty, hty, kt, eR⟩
    · walk_at "yy"
      refine y_isi (k := true) (.base (.str t)) (kit_ty (by decide +kernel)) ?_
      walk_at "yy"
      walk_at "yf"
      walk_at "yy"
      refine ⟨⟨_, rfl⟩, ?_⟩
      walk_at "yy"
      refine ⟨t, "/", rfl, rfl, by decide +kernel, Nat.le_trans (show t.length + 2 ≤ 1000 by rw [len_tl]; omega) (by decide), fun P nP => ?_⟩
      walk_at "yy"
      refine ⟨P, rfl, ⟨_, sql upd_same⟩, fun D nD => lc_list (xs := (Txt.split t "/").map V.str) (fun j H3 => H3 D = some (.lst (((Txt.split t "/").take j).map fun s => V.bl (digOk (strip (tl s))))) ∧ H3 P = some (.lst ((Txt.split t "/").map V.str)) ∧ Same (upd H P (.lst ((Txt.split t "/").map V.str))) H3) ?_ (fun _ _ _ h => sql h.2.1) ?_ ?_⟩
      · exact ⟨upd_same, by rw [upd_ne (ne_of_none upd_same nD)]; exact upd_same, same_new nD⟩
      · rintro j x H3 hx ⟨eD, ep, s3⟩
        rw [List.getElem?_map] at hx
        obtain ⟨s, es, rfl⟩ := Option.map_eq_some_iff.mp hx
        have hm : s ∈ Txt.split t "/" := List.mem_of_getElem? es
        have hj : j < (Txt.split t "/").length := (List.getElem?_eq_some_iff.mp es).1
        have sc := spl_count t hl
        obtain ⟨as, ls⟩ := part_ok hm ha hl
        walk_at "yy"
        refine ⟨rfl, ?_⟩
        walk_at "yy"
        walk_at "yt"
        walk_at "yy"
        refine ⟨⟨_, rfl⟩, ?_⟩
        walk_at "yy"
        refine ⟨s, "-", rfl, rfl, sz_le (by rw [len_tl]; omega), ?_⟩
        refine ⟨_, rfl, by rw [rm_minus]; exact fun c m => as c (strip_mem m), by rw [rm_minus]; exact Nat.le_trans (strip_len _) ls, ?_⟩
        rw [rm_minus]
        refine ⟨_, eD, sz_lt (by rw [List.length_map, List.length_take]; omega), ?_, ?_, same_mut s3 nD⟩
        · rw [upd_same, List.take_add_one, es, List.map_append]
          rfl
        · rw [upd_ne (ne_of_none upd_same nD)]
          exact ep
      · rintro H3 ⟨eD, ep, s3⟩
        rw [List.length_map, List.take_length] at eD
        walk_at "yy"
        refine ⟨D, _, rfl, sql (by rw [eD, show ((Txt.split t "/").map fun s => V.bl (digOk (strip (tl s)))) = (((Txt.split t "/").map fun s => digOk (strip (tl s))).map V.bl) by rw [List.map_map]; rfl]), ?_⟩
        cases hb : ((Txt.split t "/").map fun s => digOk (strip (tl s))).all id with
        | false =>
          walk_at "yy"
          walk_at "yt"
          walk_at "yy"
          exact kN (eR.trans (pread_no hb)) _ ((same_new nP).trans s3)
        | true =>
          walk_at "yy"
          walk_at "yf"
          walk_at "yy"
          have eR := eR.trans (pread_yes hb)
          have dig : ∀ s ∈ Txt.split t "/", digOk (strip (tl s)) = true := fun s m => by
            rw [List.all_map, List.all_eq_true] at hb
            exact hb s m
          have sc := spl_count t hl
          have sP := (same_new nP).trans s3
          have nP3 := ep
          clear hb eD
          refine ⟨P, rfl, ⟨_, sql ep⟩, fun D2 nD2 => lc_list (xs := (Txt.split t "/").map V.str) (fun j H4 => H4 D2 = some (.lst (((Txt.split t "/").take j).map fun s => V.int (ival (tl s)))) ∧ H4 P = some (.lst ((Txt.split t "/").map V.str)) ∧ Same H3 H4) ?_ (fun _ _ _ h => sql h.2.1) ?_ ?_⟩
          · exact ⟨upd_same, by rw [upd_ne (ne_of_none ep nD2)]; exact ep, same_new nD2⟩
          · rintro j x H4 hx ⟨eD2, ep4, s4⟩
            rw [List.getElem?_map] at hx
            obtain ⟨s, es, rfl⟩ := Option.map_eq_some_iff.mp hx
            have hm : s ∈ Txt.split t "/" := List.mem_of_getElem? es
            have hj : j < (Txt.split t "/").length := (List.getElem?_eq_some_iff.mp es).1
            obtain ⟨as, ls⟩ := part_ok hm ha hl
            walk_at "yy"
            refine ⟨rfl, ?_⟩
            walk_at "yy"
            walk_at "yt"
            walk_at "yy"
            refine ⟨s, _, rfl, int_part (dig s hm) (by omega), by rw [len_tl]; omega, ?_⟩
            refine ⟨_, eD2, sz_lt (by rw [List.length_map, List.length_take]; omega), ?_, ?_, same_mut s4 nD2⟩
            · rw [upd_same, List.take_add_one, es, List.map_append]
              rfl
            · rw [upd_ne (ne_of_none ep nD2)]
              exact ep4
          · rintro H4 ⟨eD2, ep4, s4⟩
            rw [List.length_map, List.take_length] at eD2
            walk_at "yy"
            refine ⟨by show 1 ≤ sizeLine; decide, fun o1 no1 => ?_⟩
            refine ⟨D2, o1, _, _, rfl, rfl, by rw [upd_ne (ne_of_none eD2 no1)]; exact eD2, upd_same, sz_le (by rw [List.length_map]; show _ + 1 ≤ _; omega), fun N nN => ?_⟩
            have eN : (upd (upd H4 o1 (.lst [.int 1])) N (.lst ((Txt.split t "/").map (fun s => V.int (ival (tl s))) ++ [V.int 1]))) N = some (.lst ((Txt.split t "/").map (fun s => V.int (ival (tl s))) ++ [V.int 1])) := upd_same
            have sN : Same H4 (upd (upd H4 o1 (.lst [.int 1])) N (.lst ((Txt.split t "/").map (fun s => V.int (ival (tl s))) ++ [V.int 1]))) := (same_new no1).trans (same_new nN)
            generalize upd (upd H4 o1 (.lst [.int 1])) N (.lst ((Txt.split t "/").map (fun s => V.int (ival (tl s))) ++ [V.int 1])) = H5 at eN sN ⊢
            have s5 := (sP.trans s4).trans sN
            walk_at "yy"
            refine y_ixL (sql eN) (at_nat (by decide) (nums0 t)) ?_
            walk_at "yy"
            refine y_ixL (sql eN) (at_nat (by decide) (nums1 t)) ?_
            walk_at "yy"
            refine ⟨by show 2 ≤ sizeLine; decide, fun a na => ?_⟩
            have ea : (upd H5 a (.tup [.int (prOf t).1, .int (prOf t).2])) a = some (.tup [.int (prOf t).1, .int (prOf t).2]) := upd_same
            have s6 := s5.trans (same_new (o := .tup [.int (prOf t).1, .int (prOf t).2]) na)
            have na := Same.free s5 na
            generalize upd H5 a (.tup [.int (prOf t).1, .int (prOf t).2]) = H6 at ea s6 ⊢
            walk_at "yy"
            refine ⟨a, prOf t, rfl, ea, ?_⟩
            cases hf : fracB (prOf t) with
            | false =>
              rw [hf] at eR
              walk_at "yy"
              walk_at "yf"
              walk_at "yy"
              exact kN eR _ s6
            | true =>
              rw [hf] at eR
              have hf' := hf
              unfold fracB at hf'
              simp only [Bool.and_eq_true] at hf'
              walk_at "yy"
              walk_at "yt"
              walk_at "yy"
              refine ⟨a, prOf t, rfl, ea, hf'.1.1.1, hf'.1.1.2, ?_⟩
              walk_at "yy"
              have ed : decide (txt (prOf t) = t) = decide (txL (prOf t) = tl t) := by
                rw [decide_eq_decide]
                exact txt_iff
              rw [ed]
              cases hd : decide (txL (prOf t) = tl t) with
              | false =>
                rw [hd] at eR
                walk_at "yf"
                walk_at "yy"
                exact kN eR _ s6
              | true =>
                rw [hd] at eR
                walk_at "yt"
                walk_at "yy"
                exact kS _ eR a _ na ea s6
    · walk_at "yy"
      refine y_isi (k := false) hty kt ?_
      walk_at "yy"
      walk_at "yt"
      walk_at "yy"
      exact kN eR _ (Same.refl H)
theorem sc_ParseError___init__ : FnScope ["self", "line"] ["self", "line"] (defScope s_ParseError___init__) := ⟨rfl, rfl, rfl, by decide +kernel, rfl, by decide +kernel, by decide +kernel⟩
-- 0 self, 1 line
theorem ok_ParseError___init__ {f : Addr} {fd : FuncData} (F : FunD K "__init__" "ParseError.__init__" (defArgs s_ParseError___init__) (defBody s_ParseError___init__) (defScope s_ParseError___init__) [] [] f fd) (B : Blt mg) (Z : Con mg) {C : Addr} (T : RatioC K mg C) {CP fPI : Addr} (PE : PEC K mg "ParseError" "line" CP fPI) {CF : Addr} (IF : IFC K mg "InvalidFraction" CF) : FnOk P w K mg base CX0 1 f fd ["self", "line"] (spPE CP "line") := by
  refine F.ok sc_ParseError___init__ (fun vs H Q E h => ?_) (fun cdv A outer s H vs Q E hr h => ?_)
  · obtain ⟨a, v, rfl, _⟩ := h
    rfl
  · obtain ⟨a, v, rfl, ha, k⟩ := h
    refine ⟨_, PSs.nox (pss_one (ps_ost (pv 0) (pv 1))), ?_⟩
    refine ⟨_, rfl, _, rfl, a, CP, rfl, PE.oex, PE.no, .inl ⟨ha, fun d nd da => k d nd da⟩⟩
theorem sc_Ratio_read : FnScope ["cls", "text", "pair"] ["cls", "text"] (defScope s_Ratio_read) := ⟨rfl, rfl, rfl, by decide +kernel, rfl, by decide +kernel, by decide +kernel⟩
-- 0 cls, 1 text, 2 pair
theorem ok_Ratio_read {f : Addr} {fd : FuncData} (F : FunD K "read" "Ratio.read" (defArgs s_Ratio_read) (defBody s_Ratio_read) (defScope s_Ratio_read) [] [] f fd) (B : Blt mg) (Z : Con mg) {C : Addr} (T : RatioC K mg C) {CP fPI : Addr} (PE : PEC K mg "ParseError" "line" CP fPI) {CF : Addr} (IF : IFC K mg "InvalidFraction" CF) (C_pair_read : Cal P w K mg base 3 "pair_read" ["text"] (spPairRead K)) (C_ParseError___init__ : ∃ (fdP : FuncData) (psP : List Str), FnOk P w K mg base CX0 1 fPI fdP psP (spPE CP "line") ∧ Binds K fdP psP []) (C_Ratio_2 : Mkr P w K mg base 2 "Ratio" C (spInit C) []) : FnOk P w K mg base (L2.CX P w) 5 f fd ["cls", "text"] (spReadX K C CP) := by
  refine F.ok sc_Ratio_read (fun vs H Q E h => ?_) (fun cdv A outer s H vs Q E hr h => ?_)
  · obtain ⟨v, R, rfl, _⟩ := h
    rfl
  · obtain ⟨v, R, rfl, hR, k, kE⟩ := h
    obtain ⟨fdP, psP, FP, bP⟩ := C_ParseError___init__
    refine ⟨_, (pss_cons (ps_set (i := 2) sc_Ratio_read.nd rfl (Or.inl rfl) (pe_fn C_pair_read (hr.mono (by decide)) (by rfl) (pa_cons (pv 1) pa_nil))) (pss_cons (ps_if (pt_cmpR op_isN (pv 2) pe_non (nomark _)) (pss_one (ps_raise rfl (takes_of rfl rfl rfl rfl) (pmk_oex PE.oex PE.iC PE.tI FP (hr.mono (by decide)) bP .nil pass0 (by rfl) PE.g (pa_cons pe_non pa_nil)))) pss_nil) (pss_one (ps_ret (e_mkl (i := 0) C_Ratio_2 (hr.mono (by decide)) rfl (by first | exact Or.inl rfl | exact Or.inr (Or.inl rfl)) (pa_cons (pe_ix (x_tup (K := K)) (pv 2) pe_int (fun _ _ => rfl)) (pa_cons (pe_ix (x_tup (K := K)) (pv 2) pe_int (fun _ _ => rfl)) pa_nil))))))), ?_⟩
    walk_at "yy"
    refine ⟨v, R, rfl, hR, fun eR H1 s1 => ?_, fun p eR a H1 na ea s1 => ?_⟩
    · walk_at "yy"
      refine ⟨rfl, ?_⟩
      walk_at "yy"
      walk_at "yt"
      exact mk_pe fun d H2 nd ed s2 => kE eR d H2 (Same.free s1 nd) ed (s1.trans s2)
    · have fp : Fine p := (show Rd K H v (some p) by rw [← eR]; exact hR).fine
      walk_at "yy"
      refine ⟨rfl, ?_⟩
      walk_at "yy"
      refine y_f (decide_eq_false fun z => nomatch z) ?_
      walk_at "yy"
      refine y_mkl rfl ?_
      walk_at "yy"
      refine y_ixT (sqt ea) rfl ?_
      walk_at "yy"
      refine y_ixT (sqt ea) rfl ?_
      walk_at "yy"
      refine fun x dx nx ndx nxd => ?_
      refine ⟨x, dx, _, _, rfl, upd_same, fp.t, fp.b, Int.ne_of_gt fp.l.1, fun H2 hq fr => ⟨rfl, ?_⟩⟩
      have s2 := ini_same nx ndx nxd fr
      rw [low_fix fp.l] at hq
      exact k p eR fp x H2 (Same.free s1 nx) hq (s1.trans s2)
theorem sc_law_got : FnScope ["_law_text_here", "error"] ["_law_text_here"] (defScope s_law_got) := ⟨rfl, rfl, rfl, by decide +kernel, rfl, by decide +kernel, by decide +kernel⟩
-- 0 _law_text_here, 1 error
theorem ok_law_got {f : Addr} {fd : FuncData} (F : FunD K "_law_got" "_law_got" (defArgs s_law_got) (defBody s_law_got) (defScope s_law_got) [] [] f fd) (B : Blt mg) (Z : Con mg) {C : Addr} (T : RatioC K mg C) {CP fPI : Addr} (PE : PEC K mg "ParseError" "line" CP fPI) {CF : Addr} (IF : IFC K mg "InvalidFraction" CF) (C_Ratio_read : CmtX P w K mg base 5 C "read" (spReadX K C CP)) (C_Ratio_pair : Prp P w K mg base 1 C "pair" (spPair C)) : FnOk P w K mg base CX0 7 f fd ["_law_text_here"] (spGot K) := by
  refine F.ok sc_law_got (fun vs H Q E h => ?_) (fun cdv A outer s H vs Q E hr h => ?_)
  · obtain ⟨v, R, rfl, _⟩ := h
    rfl
  · obtain ⟨v, R, rfl, hR, kS, kN⟩ := h
    refine ⟨_, (pss_one (ps_try_as (i := 1) (tb := fun W => tRet (tPrp C (spPair C) (tCmtS C (spReadX K C CP) W (tC (.ref C)) (tCons (tVar 0) tNil)))) (ts := fun a cls d => tRet (tLst (tCons (tXf a cls d CP "line" (tVar 1)) tNil))) (Wout := fun _ _ _ _ => False) rfl rfl sc_law_got.nd rfl rfl ⟨rfl, by decide, Or.inl PE.g⟩ takes0
          (fun W pn xe tk _ => pss_one (ps_ret (e_prp C_Ratio_pair T.cls (hr.mono (by decide)) (e_cmtS C_Ratio_read (hr.mono (by decide)) tk (pe_glob (v := .ref C) (by rfl) T.g rfl) (pa_cons (pv 0) pa_nil)))))
          (fun a oe cls d pn hz hf => pss_one (ps_ret (pe_lst (pa_cons (pe_xf PE.xf PE.no hz hf (pv 1)) pa_nil)))))), ?_⟩
    refine ⟨rfl, v, rfl, v, R, rfl, hR, fun p hp fp x H1 nx rx s1 => ?_, fun eR d H1 nd ed s1 => ?_⟩
    · refine ⟨x, _, _, rfl, rx.choose_spec, x, p, rfl, rx, fun a H2 na ea s2 => ?_⟩
      exact kS p hp a H2 (Same.free s1 na) ea (s1.trans s2)
    · refine ⟨true, PE.te, fun _ a0 _ => ?_, fun q => Bool.noConfusion q⟩
      refine ⟨.ref a0, rfl, rfl, rfl, d, _, .non, rfl, ed, by simp [List.lookup], ?_⟩
      exact ⟨by show 1 ≤ sizeLine; decide, fun p np => kN eR p _ (Same.free s1 np) upd_same (s1.trans (same_new np))⟩
theorem sc_law_dice : FnScope ["_law_script", "_law_spot", "_law_cell", "_law_great", "_law_blend"] ["_law_script", "_law_spot"] (defScope s_law_dice) := ⟨rfl, rfl, rfl, by decide +kernel, rfl, by decide +kernel, by decide +kernel⟩
-- 0 _law_script, 1 _law_spot, 2 _law_cell, 3 _law_great, 4 _law_blend
theorem ok_law_dice {f : Addr} {fd : FuncData} (F : FunD K "_law_dice" "_law_dice" (defArgs s_law_dice) (defBody s_law_dice) (defScope s_law_dice) [] [] f fd) (B : Blt mg) (Z : Con mg) {C : Addr} (T : RatioC K mg C) {CP fPI : Addr} (PE : PEC K mg "ParseError" "line" CP fPI) {CF : Addr} (IF : IFC K mg "InvalidFraction" CF) : FnOk P w K mg base CX0 1 f fd ["_law_script", "_law_spot"] (spDice K) := by
  refine F.ok sc_law_dice (fun vs H Q E h => ?_) (fun cdv A outer s H vs Q E hr h => ?_)
  · obtain ⟨a, i, ns, rfl, _⟩ := h
    rfl
  · obtain ⟨a, i, ns, rfl, hS, h0, h1, k⟩ := h
    refine ⟨_, PSs.nox (pss_cons (ps_set (i := 2) sc_law_dice.nd rfl (Or.inl rfl) (pe_op op_add (pe_op op_mul pe_int (pv 1)) pe_int)) (pss_cons (ps_if (pt_cmpR op_lt (pv 1) (pe_callB (c_lenQ (K := K)) (by rfl) B.n_len (by decide +kernel) (pa_cons (pv 0) pa_nil)) (nomark _)) (pss_one (ps_set (i := 2) sc_law_dice.nd rfl (Or.inl rfl) (pe_ix (x_list (K := K)) (pv 0) (pv 1) (fun _ _ => rfl)))) pss_nil) (pss_cons (ps_set (i := 3) sc_law_dice.nd rfl (Or.inl rfl) (pe_op op_mod (pe_callTy c_int (by rfl) B.n_int (by decide +kernel) (pa_cons (pe_callB c_abs (by rfl) B.n_abs (by decide +kernel) (pa_cons (pv 2) pa_nil)) pa_nil)) (pe_op op_powW (pe_op op_powW pe_int pe_int) pe_int))) (pss_cons (ps_set (i := 4) sc_law_dice.nd rfl (Or.inl rfl) (pe_op op_add (pe_op op_add (pe_op op_add (pe_op op_mul (pe_op op_mod (pe_callTy c_int (by rfl) B.n_int (by decide +kernel) (pa_cons (pv 3) pa_nil)) pe_int) pe_int) (pe_op op_mul pe_int (pv 1))) (pe_op op_mul pe_int (pe_callTy c_int (by rfl) B.n_int (by decide +kernel) (pa_cons (pe_cmpR op_lt (pv 2) pe_int (nomark _)) pa_nil)))) pe_int)) (pss_one (ps_ret (pe_lst (pa_cons (pe_callB (c_max2 rfl) (by rfl) B.n_max (by decide +kernel) (pa_cons pe_int (pa_cons (pe_op op_sub (pv 3) (pe_op op_powW pe_int pe_int)) pa_nil))) (pa_cons (pe_op op_mod (pe_callTy c_int (by rfl) B.n_int (by decide +kernel) (pa_cons (pv 4) pa_nil)) pe_int) (pa_cons pe_int pa_nil)))))))))), ?_⟩
    walk_at "yy"
    walk_at "yi"
    walk_at "yy"
    refine y_lenL hS ?_
    walk_at "yy"
    -- if spot < len(script): cell = script[spot]; both ways come together
    refine y_join (fun cell : Int => [some (.ref a), some (.int i), some (.int cell), none, none]) (71 * i + 29) rfl (fun cell => ?_) (fun hk J => ?_)
    · walk_at "yy"
      walk_at "yi"
      walk_at "yy"
      walk_at "yi"
      walk_at "yy"
      walk_at "yi"
      walk_at "yy"
      generalize ((cell.natAbs : Int) % _) = great
      walk_at "yy"
      walk_at "yi"
      walk_at "yy"
      walk_at "yi"
      walk_at "yy"
      walk_at "yi"
      walk_at "yy"
      walk_at "yi"
      walk_at "yy"
      generalize (great % 2305843009213693613 * 1000427 + 8111 * i + 59 * _ + 31) = blend
      walk_at "yy"
      walk_at "yi"
      walk_at "yy"
      walk_at "yi"
      walk_at "yy"
      exact ⟨by show 3 ≤ sizeLine; decide, fun p hp => k p _ hp ⟨_, _, _, upd_same⟩ (same_new hp)⟩
    · have hk := of_decide_eq_true hk
      rw [List.length_map] at hk
      have hn : i.toNat < ns.length := by omega
      walk_at "yy"
      refine y_ixL hS (at_nat h0 (v := .int ns[i.toNat]) (by simp [hn])) ?_
      exact J _
theorem sc_law_roll : FnScope ["_law_dice_here", "_law_total", "_law_found", "_law_one", "_law_two"] ["_law_dice_here", "_law_total"] (defScope s_law_roll) := ⟨rfl, rfl, rfl, by decide +kernel, rfl, by decide +kernel, by decide +kernel⟩
-- 0 _law_dice_here, 1 _law_total, 2 _law_found, 3 _law_one, 4 _law_two
theorem ok_law_roll {f : Addr} {fd : FuncData} (F : FunD K "_law_roll" "_law_roll" (defArgs s_law_roll) (defBody s_law_roll) (defScope s_law_roll) [] [] f fd) (B : Blt mg) (Z : Con mg) {C : Addr} (T : RatioC K mg C) {CP fPI : Addr} (PE : PEC K mg "ParseError" "line" CP fPI) {CF : Addr} (IF : IFC K mg "InvalidFraction" CF) : FnOk P w K mg base CX0 1 f fd ["_law_dice_here", "_law_total"] spRoll := by
  refine F.ok sc_law_roll (fun vs H Q E h => ?_) (fun cdv A outer s H vs Q E hr h => ?_)
  · obtain ⟨d, t, rfl, _⟩ := h
    rfl
  · obtain ⟨d, t, rfl, ⟨g, e, c, hd⟩, h0, h1, k⟩ := h
    refine ⟨_, PSs.nox (pss_cons (ps_if (pt_cmpR op_gt (pe_ix (x_list (K := K)) (pv 0) pe_int (fun _ _ => rfl)) pe_int (nomark _)) (pss_cons (ps_set (i := 2) sc_law_roll.nd rfl (Or.inl rfl) (pe_op op_mod (pe_callTy c_int (by rfl) B.n_int (by decide +kernel) (pa_cons (pe_ix (x_list (K := K)) (pv 0) pe_int (fun _ _ => rfl)) pa_nil)) (pv 1))) (pss_cons (ps_asg (pe_op op_fdivW (pe_ix (x_list (K := K)) (pv 0) pe_int (fun _ _ => rfl)) (pv 1)) (pg_sub (pv 0) pe_int set_list)) (pss_one (ps_ret (pv 2))))) pss_nil) (pss_cons (ps_asg (pe_op op_add (pe_ix (x_list (K := K)) (pv 0) pe_int (fun _ _ => rfl)) pe_int) (pg_sub (pv 0) pe_int set_list)) (pss_cons (ps_set (i := 3) sc_law_roll.nd rfl (Or.inl rfl) (pe_op op_mod (pe_callTy c_int (by rfl) B.n_int (by decide +kernel) (pa_cons (pe_op op_add (pe_ix (x_list (K := K)) (pv 0) pe_int (fun _ _ => rfl)) (pe_op op_mul pe_int (pe_ix (x_list (K := K)) (pv 0) pe_int (fun _ _ => rfl)))) pa_nil)) pe_int)) (pss_cons (ps_set (i := 4) sc_law_roll.nd rfl (Or.inl rfl) (pe_op op_add (pe_op op_mul (pe_op op_mod (pe_callTy c_int (by rfl) B.n_int (by decide +kernel) (pa_cons (pe_op op_mul (pv 3) (pv 3)) pa_nil)) pe_int) (pv 3)) (pe_op op_mul pe_int (pe_ix (x_list (K := K)) (pv 0) pe_int (fun _ _ => rfl))))) (pss_cons (ps_set (i := 4) sc_law_roll.nd rfl (Or.inl rfl) (pe_op op_mod (pe_callTy c_int (by rfl) B.n_int (by decide +kernel) (pa_cons (pv 4) pa_nil)) pe_int)) (pss_one (ps_ret (pe_op op_mod (pe_callTy c_int (by rfl) B.n_int (by decide +kernel) (pa_cons (pe_op op_fdivW (pv 4) pe_int) pa_nil)) (pv 1))))))))), ?_⟩
    have hdv : ∀ i : Int, CDivW i t := fun i => big_div h0 h1
    walk_at "yy"
    refine y_ixL (sql hd) rfl ?_
    walk_at "yy"
    refine y_ite (fun hk => ?_) (fun hk => ?_)
    · walk_at "yy"
      refine y_ixL (sql hd) rfl ?_
      walk_at "yy"
      walk_at "yi"
      walk_at "yy"
      refine y_ixL (sql hd) rfl ?_
      walk_at "yy"
      refine y_I (hdv _) ?_
      walk_at "yy"
      refine y_setL hd rfl ?_
      walk_at "yy"
      exact k _ _ (Int.emod_nonneg _ (by omega)) (Int.emod_lt_of_pos _ h0) ⟨_, _, _, upd_same⟩ Fr.self
    · walk_at "yy"
      refine y_ixL (sql hd) rfl ?_
      walk_at "yy"
      refine y_setL hd rfl ?_
      walk_at "yy"
      refine y_ixL (sql upd_same) rfl ?_
      walk_at "yy"
      refine y_ixL (sql upd_same) rfl ?_
      walk_at "yy"
      walk_at "yi"
      walk_at "yy"
      walk_at "yi"
      walk_at "yy"
      generalize e1 : (e + 998244289 * (c + 1)) % 2305843009213693951 = one
      have b0 : 0 ≤ one := by omega
      have b1 : one < 2305843009213693951 := by omega
      clear e1
      walk_at "yy"
      walk_at "yi"
      walk_at "yy"
      walk_at "yi"
      walk_at "yy"
      generalize e2 : one * one % 2305843009213693883 = sq
      have b2 : 0 ≤ sq := by omega
      have b3 : sq < 2305843009213693883 := by omega
      clear e2
      walk_at "yi"
      walk_at "yy"
      refine y_ixL (sql upd_same) rfl ?_
      walk_at "yy"
      walk_at "yi"
      walk_at "yy"
      walk_at "yi"
      walk_at "yy"
      refine y_I (big_div (by decide) (by decide)) ?_
      walk_at "yy"
      refine y_I (show (0 : Int) < t from h0) ?_
      exact k _ _ (Int.emod_nonneg _ (by omega)) (Int.emod_lt_of_pos _ h0) ⟨_, _, _, upd_same⟩ Fr.self
theorem sc_law_pick : FnScope ["_law_dice_here", "_law_items"] ["_law_dice_here", "_law_items"] (defScope s_law_pick) := ⟨rfl, rfl, rfl, by decide +kernel, rfl, by decide +kernel, by decide +kernel⟩
-- 0 _law_dice_here, 1 _law_items
theorem ok_law_pick {f : Addr} {fd : FuncData} (F : FunD K "_law_pick" "_law_pick" (defArgs s_law_pick) (defBody s_law_pick) (defScope s_law_pick) [] [] f fd) (B : Blt mg) (Z : Con mg) {C : Addr} (T : RatioC K mg C) {CP fPI : Addr} (PE : PEC K mg "ParseError" "line" CP fPI) {CF : Addr} (IF : IFC K mg "InvalidFraction" CF) (C_law_roll : Cal P w K mg base 1 "_law_roll" ["_law_dice_here", "_law_total"] spRoll) : FnOk P w K mg base CX0 2 f fd ["_law_dice_here", "_law_items"] (spPick K) := by
  refine F.ok sc_law_pick (fun vs H Q E h => ?_) (fun cdv A outer s H vs Q E hr h => ?_)
  · obtain ⟨d, l, ys, rfl, _⟩ := h
    rfl
  · obtain ⟨d, l, ys, rfl, hD, hl, nl, h0, h1, k⟩ := h
    refine ⟨_, PSs.nox (pss_one (ps_ret (pe_ix (x_list (K := K)) (pv 1) (pe_fn C_law_roll (hr.mono (by decide)) (by rfl) (pa_cons (pv 0) (pa_cons (pe_callB (c_lenQ (K := K)) (by rfl) B.n_len (by decide +kernel) (pa_cons (pv 1) pa_nil)) pa_nil))) (fun _ _ => rfl)))), ?_⟩
    walk_at "yy"
    refine y_lenL hl ?_
    walk_at "yy"
    refine ⟨d, _, rfl, hD, by omega, ?_, fun n H' n0 n1 hD' f => ?_⟩
    · have : (2 : Nat) ^ 4000 > 100000 := by decide +kernel
      omega
    obtain ⟨v, e, m⟩ := getD_at n0 n1
    exact y_ixL (f.lst nl hl) (at_nat n0 e) (k v H' m hD' f)
theorem sc_law_ratio : FnScope ["_law_top", "_law_bottom", "_law_one", "_law_other", "_law_sign"] ["_law_top", "_law_bottom"] (defScope s_law_ratio) := ⟨rfl, rfl, rfl, by decide +kernel, rfl, by decide +kernel, by decide +kernel⟩
-- 0 _law_top, 1 _law_bottom, 2 _law_one, 3 _law_other, 4 _law_sign
theorem ok_law_ratio {f : Addr} {fd : FuncData} (F : FunD K "_law_ratio" "_law_ratio" (defArgs s_law_ratio) (defBody s_law_ratio) (defScope s_law_ratio) [] [] f fd) (B : Blt mg) (Z : Con mg) {C : Addr} (T : RatioC K mg C) {CP fPI : Addr} (PE : PEC K mg "ParseError" "line" CP fPI) {CF : Addr} (IF : IFC K mg "InvalidFraction" CF) : FnOk P w K mg base CX0 1 f fd ["_law_top", "_law_bottom"] spLRatio := by
  refine F.ok sc_law_ratio (fun vs H Q E h => ?_) (fun cdv A outer s H vs Q E hr h => ?_)
  · obtain ⟨t, b, rfl, _⟩ := h
    rfl
  · obtain ⟨t, b, rfl, h0, ht, hb, k⟩ := h
    refine ⟨_, PSs.nox (pss_cons (ps_par (i := 2) (j := 3) (by rfl) sc_law_ratio.nd rfl rfl (by decide) rfl rfl (pa_cons (pe_callB c_abs (by rfl) B.n_abs (by decide +kernel) (pa_cons (pv 0) pa_nil)) (pa_cons (pe_callB c_abs (by rfl) B.n_abs (by decide +kernel) (pa_cons (pv 1) pa_nil)) pa_nil)) (by rfl)) (pss_cons (ps_while PassesOwn.never (pt_cmpR op_gt (pv 3) pe_int (nomark _)) (pss_one (ps_par (i := 2) (j := 3) (by rfl) sc_law_ratio.nd rfl rfl (by decide) rfl rfl (pa_cons (pv 3) (pa_cons (pe_op op_mod (pv 2) (pv 3)) pa_nil)) (by rfl)))) (pss_cons (ps_set (i := 4) sc_law_ratio.nd rfl (Or.inl rfl) (pe_ifExp (pt_cmpR op_lt (pv 1) pe_int (nomark _)) (pe_un un_neg pe_int) pe_int)) (pss_one (ps_ret (pe_tup (pa_cons (pe_op op_fdivW (pe_op op_mul (pv 4) (pv 0)) (pv 2)) (pa_cons (pe_op op_fdivW (pe_op op_mul (pv 4) (pv 1)) (pv 2)) pa_nil)))))))), ?_⟩
    have hg := gI_pos (t := t) h0
    have hl := gI_le (t := t) h0
    have hd : ∀ i : Int, CDivW i (gI t b) := fun i => big_div hg (Nat.lt_of_le_of_lt hl hb)
    walk_at "yy"
    refine y_while ⟨fun m σ H' => ∃ u v : Nat, σ = [some (.int t), some (.int b), some (.int (u : Int)), some (.int (v : Int)), none] ∧ Nat.gcd u v = Nat.gcd t.natAbs b.natAbs ∧ m = v ∧ H' = H, ⟨_, t.natAbs, b.natAbs, rfl, rfl, rfl, rfl⟩, ?_⟩
    rintro m σ H' ⟨u, v, rfl, eg, em, rfl⟩
    walk_at "yy"
    refine y_ite (fun h => ?_) (fun h => ?_)
    · have h := of_decide_eq_true h
      have hv : 0 < v := by omega
      refine ⟨fun σ' H2 => ∃ v' : Nat, σ' = [some (.int t), some (.int b), some (.int (v : Int)), some (.int (v' : Int)), none] ∧ Nat.gcd v v' = Nat.gcd t.natAbs b.natAbs ∧ v' < v ∧ H2 = H', fun σ' H2 ⟨v', e, g, l, eH⟩ => ⟨v', by omega, v, v', e, g, rfl, eH⟩, ?_⟩
      walk_at "yy"
      refine y_I (show (0 : Int) < (v : Int) by omega) ?_
      walk_at "yy"
      refine ⟨_, _, rfl, u % v, rfl, ?_, Nat.mod_lt _ hv, rfl⟩
      rw [← eg, Nat.gcd_comm u v, Nat.gcd_rec v u, Nat.gcd_comm]
    · have h := of_decide_eq_false h
      have hv : v = 0 := by omega
      subst hv
      rw [Nat.gcd_zero_right] at eg
      subst eg
      have fin : ∀ sg : Int, sg = (if b < 0 then -1 else 1) → (-(2 ^ 64) < sg ∧ sg < 2 ^ 64) → ∀ (p : Addr) (H2 : Hp), H' p = none → H2 = upd H' p (.tup [.int ((sg * t) / gI t b), .int ((sg * b) / gI t b)]) → Q (.ref p) H2 := fun sg es _ p H2 hp e => by
        subst es
        refine k p H2 hp ?_ (by rw [e]; exact same_new hp)
        rw [e, upd_same, lowT_eq h0, lowB_eq h0]
        rfl
      walk_at "yy"
      refine y_ite (fun hn => ?_) (fun hn => ?_)
      · have hn := of_decide_eq_true hn
        walk_at "yy"
        walk_at "yi"
        walk_at "yy"
        refine y_I (hd _) ?_
        walk_at "yy"
        walk_at "yi"
        walk_at "yy"
        refine y_I (hd _) ?_
        walk_at "yy"
        exact ⟨by show 2 ≤ sizeLine; decide, fun p hp => fin (-1) (by rw [if_pos hn]) (by decide) p _ hp rfl⟩
      · have hn := of_decide_eq_false hn
        walk_at "yy"
        walk_at "yi"
        walk_at "yy"
        refine y_I (hd _) ?_
        walk_at "yy"
        walk_at "yi"
        walk_at "yy"
        refine y_I (hd _) ?_
        walk_at "yy"
        exact ⟨by show 2 ≤ sizeLine; decide, fun p hp => fin 1 (by rw [if_neg hn]) (by decide) p _ hp rfl⟩
theorem sc_law_fraction : FnScope ["_law_dice_here"] ["_law_dice_here"] (defScope s_law_fraction) := ⟨rfl, rfl, rfl, by decide +kernel, rfl, by decide +kernel, by decide +kernel⟩
-- 0 _law_dice_here
theorem ok_law_fraction {f : Addr} {fd : FuncData} (F : FunD K "_law_fraction" "_law_fraction" (defArgs s_law_fraction) (defBody s_law_fraction) (defScope s_law_fraction) [] [] f fd) (B : Blt mg) (Z : Con mg) {C : Addr} (T : RatioC K mg C) {CP fPI : Addr} (PE : PEC K mg "ParseError" "line" CP fPI) {CF : Addr} (IF : IFC K mg "InvalidFraction" CF) (C_law_roll : Cal P w K mg base 1 "_law_roll" ["_law_dice_here", "_law_total"] spRoll) (C_law_pick : Cal P w K mg base 2 "_law_pick" ["_law_dice_here", "_law_items"] (spPick K)) (C_law_ratio : Cal P w K mg base 1 "_law_ratio" ["_law_top", "_law_bottom"] spLRatio) : FnOk P w K mg base CX0 3 f fd ["_law_dice_here"] spLFrac := by
  refine F.ok sc_law_fraction (fun vs H Q E h => ?_) (fun cdv A outer s H vs Q E hr h => ?_)
  · obtain ⟨d, rfl, _⟩ := h
    rfl
  · obtain ⟨d, rfl, hD, k⟩ := h
    refine ⟨_, PSs.nox (pss_one (ps_ret (pe_fn C_law_ratio (hr.mono (by decide)) (by rfl) (pa_cons (pe_op op_sub (pe_fn C_law_roll (hr.mono (by decide)) (by rfl) (pa_cons (pv 0) (pa_cons pe_int pa_nil))) pe_int) (pa_cons (pe_fn C_law_pick (hr.mono (by decide)) (by rfl) (pa_cons (pv 0) (pa_cons (pe_lst (pa_cons pe_int (pa_cons pe_int (pa_cons pe_int (pa_cons pe_int (pa_cons pe_int (pa_cons pe_int (pa_cons pe_int pa_nil)))))))) pa_nil))) pa_nil))))), ?_⟩
    walk_at "yy"
    refine ⟨d, 13, rfl, hD, by decide, big_of (by decide), fun n H1 m0 m1 hD1 f1 => ?_⟩
    walk_at "yy"
    refine ⟨by show 7 ≤ sizeLine; decide, fun p np => ?_⟩
    walk_at "yy"
    refine ⟨d, p, _, rfl, hD1.new np, sql upd_same, hD1.ne np, by show 0 < 7; decide, by show 7 ≤ 100000; decide, fun v H2 mv hD2 f2 => ?_⟩
    obtain ⟨b, rfl, hb⟩ : ∃ b : Int, v = .int b ∧ b ∈ [1, 2, 3, 4, 5, (6 : Int)] := by
      simp only [List.mem_cons, List.not_mem_nil, or_false] at mv
      rcases mv with rfl | rfl | rfl | rfl | rfl | rfl | rfl <;> exact ⟨_, rfl, by decide⟩
    have hb2 : 1 ≤ b ∧ b ≤ 6 := by
      simp only [List.mem_cons, List.not_mem_nil, or_false] at hb
      omega
    walk_at "yy"
    have f02 : Fr d H H2 := f1.trans ((Fr.new np).trans f2)
    refine ⟨n - 6, b, rfl, by omega, big_of (by omega), big_of (by omega), fun a H3 na ea s3 => ?_⟩
    exact k _ a H3 (fracs_mem (by omega) (by omega) hb) (free_fr f02 na (hD2.ne na)) ea (hD2.same s3) (f02.trans (Fr.of_same s3))
theorem sc_law_text : FnScope ["_law_pair"] ["_law_pair"] (defScope s_law_text) := ⟨rfl, rfl, rfl, by decide +kernel, rfl, by decide +kernel, by decide +kernel⟩
-- 0 _law_pair
theorem ok_law_text {f : Addr} {fd : FuncData} (F : FunD K "_law_text" "_law_text" (defArgs s_law_text) (defBody s_law_text) (defScope s_law_text) [] [] f fd) (B : Blt mg) (Z : Con mg) {C : Addr} (T : RatioC K mg C) {CP fPI : Addr} (PE : PEC K mg "ParseError" "line" CP fPI) {CF : Addr} (IF : IFC K mg "InvalidFraction" CF) : FnOk P w K mg base CX0 1 f fd ["_law_pair"] (spLText K) := by
  refine F.ok sc_law_text (fun vs H Q E h => ?_) (fun cdv A outer s H vs Q E hr h => ?_)
  · obtain ⟨a, p, rfl, _⟩ := h
    rfl
  · obtain ⟨a, p, rfl, ha, fp, k⟩ := h
    refine ⟨_, PSs.nox (pss_one (ps_ret (pe_ifExp (pt_cmpR op_eq (pe_ix (x_tup (K := K)) (pv 0) pe_int (fun _ _ => rfl)) pe_int (nomark _)) (pe_callTy call_str_int (by rfl) B.n_str (by decide +kernel) (pa_cons (pe_ix (x_tup (K := K)) (pv 0) pe_int (fun _ _ => rfl)) pa_nil)) (pe_op op_add_str (pe_op op_add_str (pe_callTy call_str_int (by rfl) B.n_str (by decide +kernel) (pa_cons (pe_ix (x_tup (K := K)) (pv 0) pe_int (fun _ _ => rfl)) pa_nil)) pe_str) (pe_callTy call_str_int (by rfl) B.n_str (by decide +kernel) (pa_cons (pe_ix (x_tup (K := K)) (pv 0) pe_int (fun _ _ => rfl)) pa_nil)))))), ?_⟩
    have l1 := tI_len fp.t
    have l2 := tI_len fp.b
    walk_at "yy"
    refine y_ixT ha rfl ?_
    walk_at "yy"
    refine y_ite (fun h => ?_) (fun h => ?_)
    · have h := of_decide_eq_true h
      walk_at "yy"
      refine y_ixT ha rfl ?_
      refine ⟨p.1, rfl, tI_log fp.t, ?_⟩
      have e : txt p = tI p.1 := by
        unfold txt
        rw [if_pos h]
      rw [e] at k
      exact k
    · have h := of_decide_eq_false h
      have e : txt p = (tI p.1 ++ "/") ++ tI p.2 := by
        unfold txt
        rw [if_neg h]
      rw [e] at k
      have l0 : (("/" : Str)).length = 1 := by decide +kernel
      have l4 : (tI p.1 ++ "/").length ≤ 302 := by
        rw [Str.length_append]
        omega
      walk_at "yy"
      refine y_ixT ha rfl ?_
      refine ⟨p.1, rfl, tI_log fp.t, ?_⟩
      walk_at "yy"
      refine ⟨_, _, rfl, rfl, Nat.le_trans (show (tI p.1).length + (("/" : Str)).length ≤ 603 by omega) (by decide), ?_⟩
      walk_at "yy"
      refine y_ixT ha rfl ?_
      refine ⟨p.2, rfl, tI_log fp.b, ?_⟩
      exact ⟨_, _, rfl, rfl, Nat.le_trans (show (tI p.1 ++ "/").length + (tI p.2).length ≤ 603 by omega) (by decide), k⟩
theorem sc_law_digits : FnScope ["_law_text_here", "_law_digits_here", "_law_sign"] ["_law_text_here"] (defScope s_law_digits) := ⟨rfl, rfl, rfl, by decide +kernel, rfl, by decide +kernel, by decide +kernel⟩
-- 0 _law_text_here, 1 _law_digits_here, 2 _law_sign
theorem ok_law_digits {f : Addr} {fd : FuncData} (F : FunD K "_law_digits" "_law_digits" (defArgs s_law_digits) (defBody s_law_digits) (defScope s_law_digits) [] [] f fd) (B : Blt mg) (Z : Con mg) {C : Addr} (T : RatioC K mg C) {CP fPI : Addr} (PE : PEC K mg "ParseError" "line" CP fPI) {CF : Addr} (IF : IFC K mg "InvalidFraction" CF) : FnOk P w K mg base CX0 1 f fd ["_law_text_here"] spLDig := by
  refine F.ok sc_law_digits (fun vs H Q E h => ?_) (fun cdv A outer s H vs Q E hr h => ?_)
  · obtain ⟨t, rfl, _⟩ := h
    rfl
  · obtain ⟨t, rfl, ha, hl, k⟩ := h
    refine ⟨_, PSs.nox (pss_cons (ps_set (i := 1) sc_law_digits.nd rfl (Or.inl rfl) (pe_ifExp (pt_cmpR op_eq (pe_slice C8.sl_txt (pv 0) po_none (po_some pe_int)) pe_str (nomark _)) (pe_slice C8.sl_txt (pv 0) (po_some pe_int) po_none) (pv 0))) (pss_cons (ps_if (PW.pt (pw_or (pt_cmpR op_eq (pv 1) pe_str (nomark _)) (pw_or (pt_cmpR (o_neD (K := K) hr.units) (pe_lc (own := [("_law_sign", 2)]) (g := gName 2) (tt := _) rfl sc_law_digits.nd (pi_str (pv 1)) (blkOk_by (own := [("_law_sign", 2)]) (N := ["_law_text_here", "_law_digits_here", "_law_sign"]) (sc := defScope s_law_digits) (by decide +kernel)) (fun _ _ _ _ _ => pg_name (i := 2) sc_law_digits.nd rfl (Or.inl rfl)) (fun _ _ _ _ _ => (pts_one (pt_cmpR op_notIn_sign (pv 2) pe_str (by rfl)))) (fun _ _ _ _ _ => (pv 2))) (pe_lst pa_nil) (nomark _)) (pw_or1 (PW.pt (pw_and (pt_cmpR op_gt (pe_callB c_lenS (by rfl) B.n_len (by decide +kernel) (pa_cons (pv 1) pa_nil)) pe_int (nomark _)) (pw_and1 (pt_cmpR op_eq (pe_ix ix_str (pv 1) pe_int (fun _ _ => rfl)) pe_str (nomark _))))))))) (pss_one (ps_ret pe_bl)) pss_nil) (pss_one (ps_ret (pe_cmpR op_ne (pv 0) pe_str (nomark _)))))), ?_⟩
    have l1 : t.length = (tl t).length := len_tl t
    refine y_seq ?_
    refine y_seqAsg (fun v H1 => ∃ d : Str, v = .str d ∧ tl d = strip (tl t) ∧ H1 = H) (fun v H1 hP => ?_) (fun J => ?_)
    · obtain ⟨d, rfl, hd, rfl⟩ := hP
      have ad : Asc (tl d) := by rw [hd]; exact fun c m => ha c (strip_mem m)
      have ld : (tl d).length ≤ 200 := by rw [hd]; exact Nat.le_trans (strip_len _) hl
      have hc : canon (tl t) = (digOk (tl d) && (!(decide (1 < (tl d).length) && decide ((tl d).head? = some 48)) && !decide (tl t = [45, 48]))) := by
        unfold canon
        rw [hd]
      have eD : tl d = d.cps.toList := rfl
      have no : canon (tl t) = false → Q (.bl false) H1 := fun e => by
        rw [← e]
        exact k H1 (Same.refl H1)
      walk_at "yy"
      refine y_ite (fun h1 => ?_) (fun h1 => ?_)
      · have h1 := emp_iff.mp (of_decide_eq_true h1)
        walk_at "yy"
        walk_at "yt"
        walk_at "yy"
        refine no ?_
        rw [hc, h1]
        rfl
      · have h1 := fun z => of_decide_eq_false h1 (emp_iff.mpr z)
        walk_at "yy"
        refine ⟨d, rfl, fun D nD => lc_it walk_str (fun i H2 => H2 D = some (.lst (((d.cps.toList.take i).filter fun c => !isD c).map fun c => V.str ⟨#[c]⟩)) ∧ Same H1 H2) ⟨upd_same, same_new nD⟩ (fun _ _ _ _ => trivial) ?_ ?_⟩
        · rintro i x H2 H3 hi ⟨eL, sm⟩ ⟨rfl, c, ec, rfl⟩
          walk_at "yy"
          refine ⟨rfl, ?_⟩
          walk_at "yy"
          refine ⟨_, _, rfl, rfl, ?_⟩
          walk_at "yy"
          rw [in_dig]
          refine y_ite (fun g1 => ?_) (fun g1 => ?_)
          · walk_at "yy"
            refine ⟨_, eL, ?_, ?_, same_mut sm nD⟩
            · rw [List.length_map]
              have q1 := List.length_filter_le (fun c => !isD c) (d.cps.toList.take i)
              have q2 := List.length_take_le i d.cps.toList
              have q3 : i ≤ d.cps.toList.length := by rw [Array.length_toList]; exact Nat.le_of_lt hi
              have q4 : d.cps.toList.length ≤ 200 := ld
              exact sz_lt (by omega)
            · rw [upd_same, chr_at ec, List.filter_append, List.map_append]
              simp [List.filter_cons, g1]
          · refine ⟨?_, sm⟩
            rw [eL, chr_at ec, List.filter_append]
            simp [List.filter_cons, g1]
        · rintro H2 ⟨eL, sm⟩
          rw [List.take_of_length_le (by rw [Array.length_toList]; exact Nat.le_refl _)] at eL
          walk_at "yy"
          refine ⟨sz_le (by simp), fun p np => ?_⟩
          have npD : D ≠ p := ne_of_none eL np
          have hasc : ∀ c ∈ (d.cps.toList.filter fun c => !isD c), c < 128 := fun c hc => ad c (List.mem_filter.mp hc).1
          refine ⟨_, .list [], .lst (sql (by rw [upd_ne npD]; exact eL)) (dpa_chars _), .lst (sql upd_same) .nil, shaped_chars hasc, by decide +kernel, ?_⟩
          rw [eqv_nil, all_not]
          have sp := sm.trans (same_new (o := .lst []) np)
          have no2 : ∀ H5, Same H1 H5 → canon (tl t) = false → Q (.bl false) H5 := fun H5 s5 e => by
            rw [← e]
            exact k H5 s5
          have dg : digOk (tl d) = d.cps.toList.all isD := by
            unfold digOk
            cases q : tl d with
            | nil => exact absurd q h1
            | cons c r =>
              rw [eD] at q
              rw [q]
              rfl
          cases hal : d.cps.toList.all isD with
          | false =>
            walk_at "yy"
            walk_at "yt"
            walk_at "yy"
            walk_at "yt"
            walk_at "yy"
            refine no2 _ sp ?_
            rw [hc, dg, hal]
            rfl
          | true =>
            walk_at "yy"
            walk_at "yf"
            walk_at "yy"
            refine y_lenS (by rw [len_tl]; omega) ?_
            walk_at "yy"
            have fin : (decide (1 < (tl d).length) && decide ((tl d).head? = some 48)) = false → Q (.bl (!decide (t = "-0"))) (upd H2 p (.lst [])) := fun e => by
              have e2 : (!decide (t = "-0")) = canon (tl t) := by
                rw [hc, dg, hal, e]
                show _ = !decide (tl t = [45, 48])
                congr 1
                rw [decide_eq_decide]
                exact ⟨fun z => by rw [z]; decide +kernel, fun z => ext_tl (z.trans (by decide +kernel))⟩
              rw [e2]
              exact k _ sp
            have ll : (d.length : Int) = (tl d).length := by rw [len_tl]
            refine y_ite (fun h2 => ?_) (fun h2 => ?_)
            · have h2 := of_decide_eq_true h2
              walk_at "yy"
              obtain ⟨c, r, q⟩ : ∃ c r, tl d = c :: r := by
                cases q : tl d with
                | nil => exact absurd q h1
                | cons c r => exact ⟨c, r, rfl⟩
              refine ⟨d, 0, c, rfl, rfl, Nat.le_trans (show d.length ≤ 1000 by rw [len_tl]; omega) (by decide), (show atI (tl d) ((0 : Nat) : Int) = some c from atI_nat (show (tl d)[0]? = some c by rw [q]; rfl)), ?_⟩
              have e0 : decide ((⟨#[c]⟩ : Str) = "0") = decide (c = 48) := by
                rw [decide_eq_decide]
                constructor
                · intro z
                  have z := congrArg tl z
                  have w : tl ("0" : Str) = [48] := by decide +kernel
                  rw [w] at z
                  injection z
                · intro z
                  rw [z]
                  decide +kernel
              walk_at "yy"
              rw [e0]
              refine y_ite (fun h3 => ?_) (fun h3 => ?_)
              · have h3 := of_decide_eq_true h3
                walk_at "yy"
                refine no2 _ sp ?_
                rw [hc, decide_eq_true (show 1 < (tl d).length by omega), q, h3]
                show (_ && (!(true && true) && _)) = false
                simp
              · have h3 := of_decide_eq_false h3
                walk_at "yy"
                refine fin ?_
                rw [q, decide_eq_false (show ¬ (c :: r).head? = some 48 from fun z => h3 (Option.some.inj z)), Bool.and_false]
            · have h2 := of_decide_eq_false h2
              walk_at "yf"
              walk_at "yy"
              refine fin ?_
              rw [decide_eq_false (by omega), Bool.false_and]
    · walk_at "yy"
      refine ⟨.str t, rfl, 1, rfl, t, rfl, Nat.le_trans (show t.length ≤ 1000 by omega) (by decide), ?_⟩
      walk_at "yy"
      rw [hd_minus]
      refine y_ite (fun h => ?_) (fun h => ?_)
      · walk_at "yy"
        refine ⟨.str t, rfl, 1, rfl, t, rfl, Nat.le_trans (show t.length ≤ 1000 by omega) (by decide), ?_⟩
        exact J _ _ ⟨_, rfl, strip_drop (of_decide_eq_true h), rfl⟩
      · exact ⟨_, rfl, J _ _ ⟨_, rfl, strip_keep (of_decide_eq_false h), rfl⟩⟩
theorem sc_law_bent : FnScope ["_law_dice_here", "_law_text_here", "_law_at", "_law_sign"] ["_law_dice_here", "_law_text_here"] (defScope s_law_bent) := ⟨rfl, rfl, rfl, by decide +kernel, rfl, by decide +kernel, by decide +kernel⟩
-- 0 _law_dice_here, 1 _law_text_here, 2 _law_at, 3 _law_sign
theorem ok_law_bent {f : Addr} {fd : FuncData} (F : FunD K "_law_bent" "_law_bent" (defArgs s_law_bent) (defBody s_law_bent) (defScope s_law_bent) [] [] f fd) (B : Blt mg) (Z : Con mg) {C : Addr} (T : RatioC K mg C) {CP fPI : Addr} (PE : PEC K mg "ParseError" "line" CP fPI) {CF : Addr} (IF : IFC K mg "InvalidFraction" CF) (C_law_roll : Cal P w K mg base 1 "_law_roll" ["_law_dice_here", "_law_total"] spRoll) (C_law_pick : Cal P w K mg base 2 "_law_pick" ["_law_dice_here", "_law_items"] (spPick K)) : FnOk P w K mg base CX0 3 f fd ["_law_dice_here", "_law_text_here"] (spBent K) := by
  refine F.ok sc_law_bent (fun vs H Q E h => ?_) (fun cdv A outer s H vs Q E hr h => ?_)
  · obtain ⟨d, t, rfl, _⟩ := h
    rfl
  · obtain ⟨d, t, rfl, hD, ha, hl, k⟩ := h
    refine ⟨_, PSs.nox (pss_cons (ps_set (i := 2) sc_law_bent.nd rfl (Or.inl rfl) (pe_fn C_law_roll (hr.mono (by decide)) (by rfl) (pa_cons (pv 0) (pa_cons (pe_op op_add (pe_callB c_lenS (by rfl) B.n_len (by decide +kernel) (pa_cons (pv 1) pa_nil)) pe_int) pa_nil)))) (pss_cons (ps_set (i := 3) sc_law_bent.nd rfl (Or.inl rfl) (pe_fn C_law_pick (hr.mono (by decide)) (by rfl) (pa_cons (pv 0) (pa_cons (pe_lst (pa_cons pe_str (pa_cons pe_str (pa_cons pe_str (pa_cons pe_str (pa_cons pe_str (pa_cons pe_str (pa_cons pe_str (pa_cons pe_str (pa_cons pe_str (pa_cons pe_str (pa_cons pe_str pa_nil)))))))))))) pa_nil)))) (pss_one (ps_ret (pe_op op_add_str (pe_op op_add_str (pe_slice C8.sl_txt (pv 1) po_none (po_some (pv 2))) (pv 3)) (pe_slice C8.sl_txt (pv 1) (po_some (pe_op op_add (pv 2) (pe_fn C_law_roll (hr.mono (by decide)) (by rfl) (pa_cons (pv 0) (pa_cons pe_int pa_nil))))) po_none)))))), ?_⟩
    have l1 : t.length = (tl t).length := len_tl t
    have sz : t.length ≤ sizeLine := Nat.le_trans (show t.length ≤ 1000 by omega) (by decide)
    walk_at "yy"
    refine y_lenS (by omega) ?_
    walk_at "yy"
    refine ⟨d, _, rfl, hD, by omega, big_of (by omega), fun n H1 n0 n1 hD1 f1 => ?_⟩
    walk_at "yy"
    refine ⟨by show 11 ≤ sizeLine; decide, fun l nl => ?_⟩
    walk_at "yy"
    refine ⟨d, l, _, rfl, hD1.new nl, sql upd_same, hD1.ne nl, by show 0 < 11; decide, by show 11 ≤ 100000; decide, fun v H2 mv hD2 f2 => ?_⟩
    obtain ⟨z, rfl, az, lz⟩ : ∃ z : Str, v = .str z ∧ Asc (tl z) ∧ (tl z).length ≤ 1 := by
      simp only [List.mem_cons, List.not_mem_nil, or_false] at mv
      rcases mv with rfl | rfl | rfl | rfl | rfl | rfl | rfl | rfl | rfl | rfl | rfl
      all_goals exact ⟨_, rfl, by unfold Asc; decide +kernel, by decide +kernel⟩
    have l2 : z.length = (tl z).length := len_tl z
    walk_at "yy"
    refine ⟨.str t, rfl, .int n, rfl, n, rfl, t, rfl, sz, ?_⟩
    walk_at "yy"
    have e1 := sl_to t n0
    have l3 : (Txt.slice t none (some n)).length ≤ 100 := by
      rw [len_tl, e1, List.length_take]
      omega
    refine ⟨_, _, rfl, rfl, Nat.le_trans (show (Txt.slice t none (some n)).length + z.length ≤ 1000 by omega) (by decide), ?_⟩
    refine ⟨.str t, rfl, .int n, rfl, .ref d, rfl, d, 2, rfl, hD2, by decide, big_of (by decide), fun m H3 m0 m1 hD3 f3 => ?_⟩
    refine ⟨_, _, rfl, rfl, n + m, rfl, t, rfl, sz, ?_⟩
    have e2 := sl_from t (i := n + m) (by omega)
    have e3 : tl ((Txt.slice t none (some n) ++ z) ++ Txt.slice t (some (n + m)) none) = ((tl t).take n.toNat ++ tl z) ++ (tl t).drop (n + m).toNat := by
      rw [tl_append, tl_append, e1, e2]
    have l4 : (Txt.slice t none (some n) ++ z).length ≤ 101 := by
      rw [Str.length_append]
      omega
    have l5 : (Txt.slice t (some (n + m)) none).length ≤ 100 := by
      rw [len_tl, e2, List.length_drop]
      omega
    refine ⟨_, _, rfl, rfl, Nat.le_trans (show (Txt.slice t none (some n) ++ z).length + (Txt.slice t (some (n + m)) none).length ≤ 1000 by omega) (by decide), k _ H3 ?_ ?_ hD3 (f1.trans ((Fr.new nl).trans (f2.trans f3)))⟩
    · rw [e3]
      intro c hc
      rcases List.mem_append.mp hc with hc | hc
      · rcases List.mem_append.mp hc with hc | hc
        · exact ha c (List.mem_of_mem_take hc)
        · exact az c hc
      · exact ha c (List.mem_of_mem_drop hc)
    · rw [e3, List.length_append, List.length_append, List.length_take, List.length_drop]
      omega
theorem sc_law_due : FnScope ["_law_text_here", "_law_parts", "_law_pair", "_law_part"] ["_law_text_here"] (defScope s_law_due) := ⟨rfl, rfl, rfl, by decide +kernel, rfl, by decide +kernel, by decide +kernel⟩
-- 0 _law_text_here, 1 _law_parts, 2 _law_pair, 3 _law_part
theorem ok_law_due {f : Addr} {fd : FuncData} (F : FunD K "_law_due" "_law_due" (defArgs s_law_due) (defBody s_law_due) (defScope s_law_due) [] [] f fd) (B : Blt mg) (Z : Con mg) {C : Addr} (T : RatioC K mg C) {CP fPI : Addr} (PE : PEC K mg "ParseError" "line" CP fPI) {CF : Addr} (IF : IFC K mg "InvalidFraction" CF) (C_law_digits : Cal P w K mg base 1 "_law_digits" ["_law_text_here"] spLDig) (C_law_ratio : Cal P w K mg base 1 "_law_ratio" ["_law_top", "_law_bottom"] spLRatio) : FnOk P w K mg base CX0 3 f fd ["_law_text_here"] (spLDue K) := by
  refine F.ok sc_law_due (fun vs H Q E h => ?_) (fun cdv A outer s H vs Q E hr h => ?_)
  · obtain ⟨t, rfl, _⟩ := h
    rfl
  · obtain ⟨t, rfl, ha, hl, kS, kN⟩ := h
    refine ⟨_, PSs.nox (pss_cons (ps_set (i := 1) sc_law_due.nd rfl (Or.inl rfl) (pe_m1 PySem.F.slot_str_split PySem.F.type_str_split mt_split (pv 0) pe_str)) (pss_cons (ps_if (PW.pt (pw_or (pt_cmpR op_gt (pe_callB (c_lenQ (K := K)) (by rfl) B.n_len (by decide +kernel) (pa_cons (pv 1) pa_nil)) pe_int (nomark _)) (pw_or1 (pt_cmpR (o_neD (K := K) hr.units) (pe_lc (own := [("_law_part", 3)]) (g := gName 3) (tt := _) rfl sc_law_due.nd (w_list (K := K) (pv 1)) (blkOk_by (own := [("_law_part", 3)]) (N := ["_law_text_here", "_law_parts", "_law_pair", "_law_part"]) (sc := defScope s_law_due) (by decide +kernel)) (fun _ _ _ _ _ => pg_name (i := 3) sc_law_due.nd rfl (Or.inl rfl)) (fun _ _ _ _ _ => (pts_one (pt_not (pt_val (pe_fn C_law_digits (hr.mono (by decide)) (by rfl) (pa_cons (pv 3) pa_nil)))))) (fun _ _ _ _ _ => (pv 3))) (pe_lst pa_nil) (nomark _))))) (pss_one (ps_ret pe_non)) pss_nil) (pss_cons (ps_if (pt_cmpR op_eq (pe_callB (c_lenQ (K := K)) (by rfl) B.n_len (by decide +kernel) (pa_cons (pv 1) pa_nil)) pe_int (nomark _)) (pss_one (ps_ret (pe_tup (pa_cons (pe_callTy call_int_str (by rfl) B.n_int (by decide +kernel) (pa_cons (pv 0) pa_nil)) (pa_cons pe_int pa_nil))))) pss_nil) (pss_cons (ps_set (i := 2) sc_law_due.nd rfl (Or.inl rfl) (pe_tup (pa_cons (pe_callTy call_int_str (by rfl) B.n_int (by decide +kernel) (pa_cons (pe_ix (x_list (K := K)) (pv 1) pe_int (fun _ _ => rfl)) pa_nil)) (pa_cons (pe_callTy call_int_str (by rfl) B.n_int (by decide +kernel) (pa_cons (pe_ix (x_list (K := K)) (pv 1) pe_int (fun _ _ => rfl)) pa_nil)) pa_nil)))) (pss_one (ps_ret (pe_ifExp (PW.pt (pw_and (pt_cmpR op_gt (pe_ix (x_tup (K := K)) (pv 2) pe_int (fun _ _ => rfl)) pe_int (nomark _)) (pw_and1 (pt_cmpR (o_eqD (K := K) hr.units) (pe_fn C_law_ratio (hr.mono (by decide)) (by rfl) (pa_cons (pe_ix (x_tup (K := K)) (pv 2) pe_int (fun _ _ => rfl)) (pa_cons (pe_ix (x_tup (K := K)) (pv 2) pe_int (fun _ _ => rfl)) pa_nil))) (pv 2) (nomark _))))) (pv 2) pe_non))))))), ?_⟩
    have sc := spl_count t hl
    have l1 : t.length = (tl t).length := len_tl t
    walk_at "yy"
    refine ⟨⟨_, rfl⟩, ?_⟩
    walk_at "yy"
    refine ⟨t, "/", rfl, rfl, by decide +kernel, Nat.le_trans (show t.length + 2 ≤ 1000 by omega) (by decide), fun P nP => ?_⟩
    have eP : (upd H P (.lst ((Txt.split t "/").map V.str))) P = some (.lst ((Txt.split t "/").map V.str)) := upd_same
    have sP : Same H (upd H P (.lst ((Txt.split t "/").map V.str))) := same_new nP
    generalize upd H P (.lst ((Txt.split t "/").map V.str)) = H0 at eP sP ⊢
    walk_at "yy"
    refine y_lenL (sql eP) ?_
    rw [List.length_map]
    walk_at "yy"
    refine y_ite (fun h1 => ?_) (fun h1 => ?_)
    · have h1 := of_decide_eq_true h1
      walk_at "yy"
      walk_at "yt"
      walk_at "yy"
      exact kN (lread_many (by omega)) _ sP
    · have h1 := of_decide_eq_false h1
      have part : ∀ s ∈ Txt.split t "/", Asc (tl s) ∧ (tl s).length ≤ 200 := fun s m => part_ok m ha hl
      walk_at "yy"
      refine ⟨P, rfl, ⟨_, sql eP⟩, fun D nD => lc_list (xs := (Txt.split t "/").map V.str) (fun j H3 => H3 D = some (.lst ((((Txt.split t "/").take j).filter fun s => !canon (tl s)).map V.str)) ∧ H3 P = some (.lst ((Txt.split t "/").map V.str)) ∧ Same H0 H3) ?_ (fun _ _ _ h => sql h.2.1) ?_ ?_⟩
      · exact ⟨upd_same, by rw [upd_ne (ne_of_none eP nD)]; exact eP, same_new nD⟩
      · rintro j x H3 hx ⟨eD, ep, s3⟩
        rw [List.getElem?_map] at hx
        obtain ⟨s, es, rfl⟩ := Option.map_eq_some_iff.mp hx
        obtain ⟨as, ls⟩ := part s (List.mem_of_getElem? es)
        have hj : j < (Txt.split t "/").length := (List.getElem?_eq_some_iff.mp es).1
        have tk : (Txt.split t "/").take (j + 1) = (Txt.split t "/").take j ++ [s] := by
          rw [List.take_add_one, es]
          rfl
        walk_at "yy"
        refine ⟨rfl, ?_⟩
        walk_at "yy"
        refine ⟨s, rfl, as, ls, fun H4 s4 => ?_⟩
        walk_at "yy"
        cases hcn : canon (tl s) with
        | false =>
          walk_at "yy"
          walk_at "yt"
          walk_at "yy"
          refine ⟨_, s4 _ _ eD, ?_, ?_, ?_, same_mut (s3.trans s4) nD⟩
          · rw [List.length_map]
            have q1 := List.length_filter_le (fun s => !canon (tl s)) ((Txt.split t "/").take j)
            have q2 := List.length_take_le j (Txt.split t "/")
            exact sz_lt (by omega)
          · rw [upd_same, tk, List.filter_append, List.map_append]
            simp [List.filter_cons, hcn]
          · rw [upd_ne (ne_of_none eP nD)]
            exact s4 _ _ ep
        | true =>
          walk_at "yf"
          refine ⟨?_, s4 _ _ ep, s3.trans s4⟩
          rw [s4 _ _ eD, tk, List.filter_append]
          simp [List.filter_cons, hcn]
      · rintro H3 ⟨eD, ep, s3⟩
        rw [List.length_map, List.take_length] at eD
        walk_at "yy"
        refine ⟨sz_le (by simp), fun q nq => ?_⟩
        have nqD : D ≠ q := ne_of_none eD nq
        have hasc : ∀ s ∈ ((Txt.split t "/").filter fun s => !canon (tl s)), Asc (tl s) := fun s hs => (part s (List.mem_filter.mp hs).1).1
        refine ⟨_, .list [], .lst (sql (by rw [upd_ne nqD]; exact eD)) (dpa_strs _), .lst (sql upd_same) .nil, shaped_strs hasc, by decide +kernel, ?_⟩
        rw [eqv_nilS, all_notC]
        have sq := (sP.trans s3).trans (same_new (o := .lst []) nq)
        have epq : (upd H3 q (.lst [])) P = some (.lst ((Txt.split t "/").map V.str)) := by rw [upd_ne (ne_of_none ep nq)]; exact ep
        generalize upd H3 q (.lst []) = H5 at sq epq ⊢
        cases hal : (Txt.split t "/").all fun s => canon (tl s) with
        | false =>
          walk_at "yy"
          walk_at "yt"
          walk_at "yy"
          exact kN (lread_no hal) _ sq
        | true =>
          walk_at "yy"
          walk_at "yf"
          walk_at "yy"
          refine y_lenL (sql epq) ?_
          rw [List.length_map]
          walk_at "yy"
          match hS : Txt.split t "/" with
          | [] => exact absurd hS (split_ne t)
          | [a] =>
            rw [hS] at hal
            have ca : canon (tl a) = true := by simpa using hal
            have ea := one_is hS
            subst ea
            refine y_t (decide_eq_true rfl) ?_
            walk_at "yy"
            refine ⟨a, _, rfl, int_part (canon_part ca) (by omega), by omega, ?_⟩
            walk_at "yy"
            exact ⟨by show 2 ≤ sizeLine; decide, fun r nr => kS _ (lread_one hS ca) r _ (Same.free sq nr) upd_same (sq.trans (same_new nr))⟩
          | [a, b] =>
            rw [hS] at hal epq
            have cab : canon (tl a) = true ∧ canon (tl b) = true := by simpa using hal
            obtain ⟨ca, cb⟩ := cab
            have la := (part a (by rw [hS]; simp)).2
            have lb := (part b (by rw [hS]; simp)).2
            have oa := okI_nat (ival_ok ca la)
            have ob := okI_nat (ival_ok cb lb)
            have L := lread_two hS ca cb
            refine y_f (decide_eq_false (show ¬ ((2 : Int) = 1) by decide)) ?_
            walk_at "yy"
            refine y_ixL (sql epq) (at_nat (v := .str a) (by decide) rfl) ?_
            refine ⟨a, _, rfl, int_part (canon_part ca) (by omega), by rw [len_tl]; omega, ?_⟩
            walk_at "yy"
            refine y_ixL (sql epq) (at_nat (v := .str b) (by decide) rfl) ?_
            refine ⟨b, _, rfl, int_part (canon_part cb) (by omega), by rw [len_tl]; omega, ?_⟩
            walk_at "yy"
            refine ⟨by show 2 ≤ sizeLine; decide, fun r nr => ?_⟩
            have er : (upd H5 r (.tup [.int (ival (tl a)), .int (ival (tl b))])) r = some (.tup [.int (ival (tl a), ival (tl b)).1, .int (ival (tl a), ival (tl b)).2]) := upd_same
            have nr0 := Same.free sq nr
            have sr := sq.trans (same_new (o := .tup [.int (ival (tl a)), .int (ival (tl b))]) nr)
            generalize upd H5 r (.tup [.int (ival (tl a)), .int (ival (tl b))]) = H6 at er sr ⊢
            walk_at "yy"
            refine y_ixT (sqt er) rfl ?_
            walk_at "yy"
            refine y_ite (fun g => ?_) (fun g => ?_)
            · have g := of_decide_eq_true g
              walk_at "yy"
              refine y_ixT (sqt er) rfl ?_
              walk_at "yy"
              refine y_ixT (sqt er) rfl ?_
              walk_at "yy"
              refine ⟨_, _, rfl, by omega, up_lt oa (by decide), up_lt ob (by decide), fun u H7 nu eu su => ?_⟩
              walk_at "yy"
              refine ⟨tq (low (ival (tl a)) (ival (tl b))), tq (ival (tl a), ival (tl b)), tp eu, tp (su _ _ er), shT _, shT _, ?_⟩
              rw [eqvQ]
              walk_at "yy"
              refine y_ite (fun e => ?_) (fun e => ?_)
              · have e := of_decide_eq_true e
                rw [if_pos ⟨g, e⟩] at L
                walk_at "yy"
                exact kS _ L r _ nr0 (su _ _ er) (sr.trans su)
              · have e := of_decide_eq_false e
                rw [if_neg (fun z => e z.2)] at L
                walk_at "yy"
                exact kN L _ (sr.trans su)
            · have g := of_decide_eq_false g
              rw [if_neg (fun z => g z.1)] at L
              walk_at "yf"
              walk_at "yy"
              exact kN L _ sr
          | a :: b :: c :: r =>
            rw [hS] at h1
            simp at h1
            omega
theorem sc_law_right : FnScope ["_law_dice_here", "_law_pair", "_law_text_here", "_law_turn", "_law_near", "_law_due_here"] ["_law_dice_here"] (defScope s_law_right) := ⟨rfl, rfl, rfl, by decide +kernel, rfl, by decide +kernel, by decide +kernel⟩
-- 0 _law_dice_here, 1 _law_pair, 2 _law_text_here, 3 _law_turn, 4 _law_near, 5 _law_due_here
theorem ok_law_right {f : Addr} {fd : FuncData} (F : FunD K "_law_right" "_law_right" (defArgs s_law_right) (defBody s_law_right) (defScope s_law_right) [] [] f fd) (B : Blt mg) (Z : Con mg) {C : Addr} (T : RatioC K mg C) {CP fPI : Addr} (PE : PEC K mg "ParseError" "line" CP fPI) {CF : Addr} (IF : IFC K mg "InvalidFraction" CF) (C_law_fraction : Cal P w K mg base 3 "_law_fraction" ["_law_dice_here"] spLFrac) (C_law_roll : Cal P w K mg base 1 "_law_roll" ["_law_dice_here", "_law_total"] spRoll) (C_law_ratio : Cal P w K mg base 1 "_law_ratio" ["_law_top", "_law_bottom"] spLRatio) (C_Ratio_of : Cmt P w K mg base 4 C "of" (spOf C)) (C_Ratio_text : Prp P w K mg base 3 C "text" (spText C)) (C_law_text : Cal P w K mg base 1 "_law_text" ["_law_pair"] (spLText K)) (C_law_got : Cal P w K mg base 7 "_law_got" ["_law_text_here"] (spGot K)) (C_law_bent : Cal P w K mg base 3 "_law_bent" ["_law_dice_here", "_law_text_here"] (spBent K)) (C_law_due : Cal P w K mg base 3 "_law_due" ["_law_text_here"] (spLDue K)) : FnOk P w K mg base CX0 8 f fd ["_law_dice_here"] spLRight := by
  refine F.ok sc_law_right (fun vs H Q E h => ?_) (fun cdv A outer s H vs Q E hr h => ?_)
  · obtain ⟨d, rfl, _⟩ := h
    rfl
  · obtain ⟨d, rfl, hD, k⟩ := h
    refine ⟨_, PSs.nox (pss_cons (ps_set (i := 1) sc_law_right.nd rfl (Or.inl rfl) (pe_fn C_law_fraction (hr.mono (by decide)) (by rfl) (pa_cons (pv 0) pa_nil))) (pss_cons (ps_if (pt_cmpR op_eq (pe_fn C_law_roll (hr.mono (by decide)) (by rfl) (pa_cons (pv 0) (pa_cons pe_int pa_nil))) pe_int (nomark _)) (pss_one (ps_set (i := 1) sc_law_right.nd rfl (Or.inl rfl) (pe_fn C_law_ratio (hr.mono (by decide)) (by rfl) (pa_cons (pe_op op_sub (pe_fn C_law_roll (hr.mono (by decide)) (by rfl) (pa_cons (pv 0) (pa_cons (pe_op op_powW pe_int pe_int) pa_nil))) (pe_op op_powW pe_int pe_int)) (pa_cons (pe_op op_add pe_int (pe_fn C_law_roll (hr.mono (by decide)) (by rfl) (pa_cons (pv 0) (pa_cons (pe_op op_powW pe_int pe_int) pa_nil)))) pa_nil))))) pss_nil) (pss_cons (ps_set (i := 2) sc_law_right.nd rfl (Or.inl rfl) (e_prp C_Ratio_text T.cls (hr.mono (by decide)) (e_cmt C_Ratio_of (hr.mono (by decide)) (pe_glob (v := .ref C) (by rfl) T.g rfl) (pa_cons (pv 1) pa_nil)))) (pss_cons (ps_if (PW.pt (pw_or (pt_cmpR op_ne (pv 2) (pe_fn C_law_text (hr.mono (by decide)) (by rfl) (pa_cons (pv 1) pa_nil)) (nomark _)) (pw_or1 (pt_cmpR (o_neD (K := K) hr.units) (pe_fn C_law_got (hr.mono (by decide)) (by rfl) (pa_cons (pv 2) pa_nil)) (pv 1) (nomark _))))) (pss_one (ps_ret pe_bl)) pss_nil) (pss_cons (ps_for PassesOwn.never rfl (pi_range1 (by rfl) B.n_range (pa_cons pe_int pa_nil)) (pg_name (i := 3) sc_law_right.nd rfl (Or.inl rfl)) (pss_cons (ps_set (i := 4) sc_law_right.nd rfl (Or.inl rfl) (pe_fn C_law_bent (hr.mono (by decide)) (by rfl) (pa_cons (pv 0) (pa_cons (pv 2) pa_nil)))) (pss_cons (ps_set (i := 5) sc_law_right.nd rfl (Or.inl rfl) (pe_fn C_law_due (hr.mono (by decide)) (by rfl) (pa_cons (pv 4) pa_nil))) (pss_one (ps_if (pt_cmpR (o_neD (K := K) hr.units) (pe_fn C_law_got (hr.mono (by decide)) (by rfl) (pa_cons (pv 4) pa_nil)) (pe_ifExp (pt_cmpR op_isN (pv 5) pe_non (nomark _)) (pe_lst (pa_cons pe_non pa_nil)) (pv 5)) (nomark _)) (pss_one (ps_ret pe_bl)) pss_nil))))) (pss_one (ps_ret pe_bl))))))), ?_⟩
    walk_at "yy"
    refine ⟨d, rfl, hD, fun p0 a0 G0 hp0 na0 ea0 hD0 f0 => ?_⟩
    walk_at "yy"
    refine ⟨d, 3, rfl, hD0, by decide, big_of (by decide), fun n H1 m0 m1 hD1 f1 => ?_⟩
    walk_at "yy"
    refine y_ite (fun h => ?_) (fun h => ?_)
    · clear h
      walk_at "yy"
      walk_at "yi"
      walk_at "yy"
      refine ⟨d, _, rfl, hD1, by decide, Nat.lt_trans (show Int.natAbs (10 ^ 30) < 2 ^ 140 by decide) (by decide), fun t H2 t0 t1 hD2 f2 => ?_⟩
      have t1 : t < 10 ^ 30 := t1
      walk_at "yy"
      walk_at "yi"
      walk_at "yy"
      walk_at "yi"
      walk_at "yy"
      refine ⟨d, _, rfl, hD2, by decide, Nat.lt_trans (show Int.natAbs (10 ^ 20) < 2 ^ 140 by decide) (by decide), fun c H3 c0 c1 hD3 f3 => ?_⟩
      have c1 : c < 10 ^ 20 := c1
      walk_at "yy"
      have x0 : 1 + c ≠ 0 := by omega
      refine ⟨_, _, rfl, x0, Nat.lt_trans (show (t - 10 ^ 29).natAbs < 2 ^ 140 by omega) (by decide), Nat.lt_trans (show (1 + c).natAbs < 2 ^ 140 by omega) (by decide), fun a G na ea s0 => ?_⟩
      have lp := low_low (t := t - 10 ^ 29) x0
      have ll := low_le (t := t - 10 ^ 29) x0
      have b1 : (low (t - 10 ^ 29) (1 + c)).1.natAbs < 10 ^ 40 := Nat.lt_of_le_of_lt ll.1 (by omega)
      have b2 : (low (t - 10 ^ 29) (1 + c)).2.natAbs < 10 ^ 40 := Nat.lt_of_le_of_lt ll.2 (by omega)
      have ea : G a = some (.tup [.int (low (t - 10 ^ 29) (1 + c)).1, .int (low (t - 10 ^ 29) (1 + c)).2]) := ea
      generalize low (t - 10 ^ 29) (1 + c) = p at lp b1 b2 ea ⊢
      have hD := hD3.same s0
      have ff := (f0.trans (f1.trans (f2.trans f3))).trans (Fr.of_same s0)
      have fp : Fine p := ⟨okI_iff.mpr (Nat.lt_of_lt_of_le b1 (by decide +kernel)), okI_iff.mpr (Nat.lt_of_lt_of_le b2 (by decide +kernel)), lp⟩
      have lt := len_txt b1 b2
      have at' : Asc (tl (txt p)) := by rw [tl_txt]; exact asc_txL p
      have rt : pread (tl (txt p)) = some p := by rw [tl_txt] at lt ⊢; exact pread_txL fp (by omega)
      walk_at "yy"
      refine ⟨rfl, ?_⟩
      walk_at "yy"
      refine ⟨a, p, rfl, ea, fp, fun x G1 nx rx s1 => ?_⟩
      refine ⟨x, _, _, rfl, rx.choose_spec, x, p, rfl, rx, fp, fun G2 s2 => ?_⟩
      have ea := (s1.trans s2) _ _ ea
      have hD := hD.same (s1.trans s2)
      have ff := ff.trans (Fr.of_same (s1.trans s2))
      walk_at "yy"
      refine ⟨a, p, rfl, sqt ea, fp, ?_⟩
      walk_at "yy"
      refine y_f (nsd rfl) ?_
      walk_at "yy"
      refine ⟨.str (txt p), some p, rfl, .inl ⟨txt p, rfl, at', by omega, rt.symm⟩, fun p' hp b G3 nb eb s3 => ?_, fun h => nomatch h⟩
      cases Option.some.inj hp
      have ea := s3 _ _ ea
      have hD := hD.same s3
      have ff := ff.trans (Fr.of_same s3)
      walk_at "yy"
      refine ⟨tq p, tq p, tp eb, tp ea, shT _, shT _, ?_⟩
      walk_at "yy"
      refine y_f (by rw [eqvT]; rfl) ?_
      walk_at "yy"
      refine ⟨12, rfl, by decide, by decide, y_forR (b := fun _ _ => False) (c := fun _ _ => False) (fun i σ H1 => ∃ u3 u4 u5, σ = [some (.ref d), some (.ref a), some (.str (txt p)), u3, u4, u5] ∧ DiceAt H1 d ∧ Fr d H H1) ⟨_, _, _, rfl, hD, ff⟩ ?_ ?_⟩
      · rintro i σ H1 hi ⟨u3, u4, u5, rfl, hD, ff⟩
        walk_at "yy"
        refine ⟨d, txt p, rfl, hD, at', lt, fun u H2 au lu hD f2 => ?_⟩
        have ff := ff.trans f2
        walk_at "yy"
        refine ⟨u, rfl, au, lu, fun q hq b2 H3 nb2 eb2 s4 => ?_, fun hn H3 s4 => ?_⟩
        · have hD := hD.same s4
          have ff := ff.trans (Fr.of_same s4)
          walk_at "yy"
          refine ⟨.str u, lread (tl u), rfl, .inl ⟨u, rfl, au, lu, (read_eq lu).symm⟩, fun q' hq' c H4 nc ec s5 => ?_, fun h => by rw [hq] at h; cases h⟩
          cases Option.some.inj (hq.symm.trans hq')
          walk_at "yy"
          refine ⟨rfl, ?_⟩
          walk_at "yy"
          refine y_f (decide_eq_false fun z => nomatch z) ?_
          walk_at "yy"
          refine ⟨tq q, tq q, tp ec, tp (s5 _ _ eb2), shT _, shT _, ?_⟩
          walk_at "yy"
          refine y_f (by rw [eqvT]; rfl) ?_
          walk_at "yy"
          exact ⟨_, _, _, rfl, hD.same s5, ff.trans (Fr.of_same s5)⟩
        · have hD := hD.same s4
          have ff := ff.trans (Fr.of_same s4)
          walk_at "yy"
          refine ⟨.str u, lread (tl u), rfl, .inl ⟨u, rfl, au, lu, (read_eq lu).symm⟩, fun q' hq' c H4 nc ec s5 => (by rw [hn] at hq'; cases hq'), fun h c H4 nc ec s5 => ?_⟩
          walk_at "yy"
          refine ⟨rfl, ?_⟩
          walk_at "yy"
          refine y_t (decide_eq_true rfl) ?_
          walk_at "yy"
          refine ⟨by show 1 ≤ sizeLine; decide, fun l nl => ?_⟩
          have s6 := same_new (o := .lst [.non]) nl
          refine ⟨.list [.none], .list [.none], .lst (sql (s6 _ _ ec)) (.cons .non .nil), .lst (sql upd_same) (.cons .non .nil), rfl, rfl, ?_⟩
          walk_at "yy"
          refine y_f (by rfl) ?_
          walk_at "yy"
          exact ⟨_, _, _, rfl, hD.same (s5.trans s6), ff.trans (Fr.of_same (s5.trans s6))⟩
      · rintro σ H1 ⟨u3, u4, u5, rfl, hD, ff⟩
        walk_at "yy"
        exact k _ hD ff
    · clear h
      walk_at "yy"
      have ea := f1 _ _ ea0 (dice_neT hD0 ea0)
      obtain ⟨lp, b1, b2⟩ := frac_small hp0
      have hD := hD1
      have ff := f0.trans f1
      generalize p0 = p at lp b1 b2 ea ⊢
      generalize a0 = a at ea ⊢
      have fp : Fine p := ⟨okI_iff.mpr (Nat.lt_of_lt_of_le b1 (by decide +kernel)), okI_iff.mpr (Nat.lt_of_lt_of_le b2 (by decide +kernel)), lp⟩
      have lt := len_txt b1 b2
      have at' : Asc (tl (txt p)) := by rw [tl_txt]; exact asc_txL p
      have rt : pread (tl (txt p)) = some p := by rw [tl_txt] at lt ⊢; exact pread_txL fp (by omega)
      walk_at "yy"
      refine ⟨rfl, ?_⟩
      walk_at "yy"
      refine ⟨a, p, rfl, ea, fp, fun x G1 nx rx s1 => ?_⟩
      refine ⟨x, _, _, rfl, rx.choose_spec, x, p, rfl, rx, fp, fun G2 s2 => ?_⟩
      have ea := (s1.trans s2) _ _ ea
      have hD := hD.same (s1.trans s2)
      have ff := ff.trans (Fr.of_same (s1.trans s2))
      walk_at "yy"
      refine ⟨a, p, rfl, sqt ea, fp, ?_⟩
      walk_at "yy"
      refine y_f (nsd rfl) ?_
      walk_at "yy"
      refine ⟨.str (txt p), some p, rfl, .inl ⟨txt p, rfl, at', by omega, rt.symm⟩, fun p' hp b G3 nb eb s3 => ?_, fun h => nomatch h⟩
      cases Option.some.inj hp
      have ea := s3 _ _ ea
      have hD := hD.same s3
      have ff := ff.trans (Fr.of_same s3)
      walk_at "yy"
      refine ⟨tq p, tq p, tp eb, tp ea, shT _, shT _, ?_⟩
      walk_at "yy"
      refine y_f (by rw [eqvT]; rfl) ?_
      walk_at "yy"
      refine ⟨12, rfl, by decide, by decide, y_forR (b := fun _ _ => False) (c := fun _ _ => False) (fun i σ H1 => ∃ u3 u4 u5, σ = [some (.ref d), some (.ref a), some (.str (txt p)), u3, u4, u5] ∧ DiceAt H1 d ∧ Fr d H H1) ⟨_, _, _, rfl, hD, ff⟩ ?_ ?_⟩
      · rintro i σ H1 hi ⟨u3, u4, u5, rfl, hD, ff⟩
        walk_at "yy"
        refine ⟨d, txt p, rfl, hD, at', lt, fun u H2 au lu hD f2 => ?_⟩
        have ff := ff.trans f2
        walk_at "yy"
        refine ⟨u, rfl, au, lu, fun q hq b2 H3 nb2 eb2 s4 => ?_, fun hn H3 s4 => ?_⟩
        · have hD := hD.same s4
          have ff := ff.trans (Fr.of_same s4)
          walk_at "yy"
          refine ⟨.str u, lread (tl u), rfl, .inl ⟨u, rfl, au, lu, (read_eq lu).symm⟩, fun q' hq' c H4 nc ec s5 => ?_, fun h => by rw [hq] at h; cases h⟩
          cases Option.some.inj (hq.symm.trans hq')
          walk_at "yy"
          refine ⟨rfl, ?_⟩
          walk_at "yy"
          refine y_f (decide_eq_false fun z => nomatch z) ?_
          walk_at "yy"
          refine ⟨tq q, tq q, tp ec, tp (s5 _ _ eb2), shT _, shT _, ?_⟩
          walk_at "yy"
          refine y_f (by rw [eqvT]; rfl) ?_
          walk_at "yy"
          exact ⟨_, _, _, rfl, hD.same s5, ff.trans (Fr.of_same s5)⟩
        · have hD := hD.same s4
          have ff := ff.trans (Fr.of_same s4)
          walk_at "yy"
          refine ⟨.str u, lread (tl u), rfl, .inl ⟨u, rfl, au, lu, (read_eq lu).symm⟩, fun q' hq' c H4 nc ec s5 => (by rw [hn] at hq'; cases hq'), fun h c H4 nc ec s5 => ?_⟩
          walk_at "yy"
          refine ⟨rfl, ?_⟩
          walk_at "yy"
          refine y_t (decide_eq_true rfl) ?_
          walk_at "yy"
          refine ⟨by show 1 ≤ sizeLine; decide, fun l nl => ?_⟩
          have s6 := same_new (o := .lst [.non]) nl
          refine ⟨.list [.none], .list [.none], .lst (sql (s6 _ _ ec)) (.cons .non .nil), .lst (sql upd_same) (.cons .non .nil), rfl, rfl, ?_⟩
          walk_at "yy"
          refine y_f (by rfl) ?_
          walk_at "yy"
          exact ⟨_, _, _, rfl, hD.same (s5.trans s6), ff.trans (Fr.of_same (s5.trans s6))⟩
      · rintro σ H1 ⟨u3, u4, u5, rfl, hD, ff⟩
        walk_at "yy"
        exact k _ hD ff
-- 0 value
theorem ok_is_integerG {f : Addr} {fd : FuncData} (F : FunD K "is_integer" "is_integer" (defArgs s_is_integer) (defBody s_is_integer) (defScope s_is_integer) [] [] f fd) (B : Blt mg) (Z : Con mg) {C : Addr} (T : RatioC K mg C) {CP fPI : Addr} (PE : PEC K mg "ParseError" "line" CP fPI) {CF : Addr} (IF : IFC K mg "InvalidFraction" CF) : FnOk P w K mg base CX0 1 f fd ["value"] spIsIntG := by
  refine F.ok sc_is_integer (fun vs H Q E h => ?_) (fun cdv A outer s H vs Q E hr h => ?_)
  · obtain ⟨v, rfl, _⟩ := h
    rfl
  · obtain ⟨v, rfl, hv⟩ := h
    refine ⟨_, PSs.nox (pss_cons (ps_if (PW.pt (pw_or (pt_not (pt_val (pe_callB (c_isi (K := K)) (by rfl) B.n_isinstance (by decide +kernel) (pa_cons (pv 0) (pa_cons (pe_bltn (v := .ty "int") (by rfl) B.n_int (by decide +kernel) rfl) pa_nil))))) (pw_or1 (pt_val (pe_callB (c_isi (K := K)) (by rfl) B.n_isinstance (by decide +kernel) (pa_cons (pv 0) (pa_cons (pe_bltn (v := .ty "bool") (by rfl) B.n_bool (by decide +kernel) rfl) pa_nil))))))) (pss_one (ps_ret pe_bl)) pss_nil) (pss_one (ps_ret (pe_chain op_lt op_lt (pe_un un_neg (pe_globI (by rfl) Z.g_LEAST_LONG)) (pv 0) (pe_globI (by rfl) Z.g_LEAST_LONG))))), ?_⟩
    rcases hv with ⟨i, rfl, k⟩ | ⟨b, rfl, k⟩
    · walk_at "yy"
      refine y_isi (k := true) (.base (.int i)) (kit_ty (by decide +kernel)) ?_
      walk_at "yy"
      walk_at "yf"
      walk_at "yy"
      refine y_isi (k := false) (.base (.int i)) (kit_ty (by decide +kernel)) ?_
      walk_at "yy"
      walk_at "yf"
      walk_at "yy"
      refine y_ite (fun h => ?_) (fun h => ?_)
      · walk_at "yy"
        have e : okI i = decide (i < 10 ^ 300) := by
          unfold okI
          rw [if_pos h]
        rw [← e]
        exact k
      · have e : okI i = false := by
          unfold okI
          rw [if_neg (by rw [h]; exact Bool.false_ne_true)]
        rw [← e]
        exact k
    · walk_at "yy"
      refine y_isi (k := true) (.base (.bl b)) (kit_ty (by decide +kernel)) ?_
      walk_at "yy"
      walk_at "yf"
      walk_at "yy"
      refine y_isi (k := true) (.base (.bl b)) (kit_ty (by decide +kernel)) ?_
      walk_at "yy"
      walk_at "yt"
      walk_at "yy"
      exact k
-- 0 value, 1 top, 2 bottom
theorem ok_is_fractionX {f : Addr} {fd : FuncData} (F : FunD K "is_fraction" "is_fraction" (defArgs s_is_fraction) (defBody s_is_fraction) (defScope s_is_fraction) [] [] f fd) (B : Blt mg) (Z : Con mg) {C : Addr} (T : RatioC K mg C) {CP fPI : Addr} (PE : PEC K mg "ParseError" "line" CP fPI) {CF : Addr} (IF : IFC K mg "InvalidFraction" CF) (C_is_integerG : Cal P w K mg base 1 "is_integer" ["value"] spIsIntG) : FnOk P w K mg base CX0 2 f fd ["value"] (spNoFr K) := by
  refine F.ok sc_is_fraction (fun vs H Q E h => ?_) (fun cdv A outer s H vs Q E hr h => ?_)
  · obtain ⟨v, rfl, _⟩ := h
    rfl
  · obtain ⟨v, rfl, hn, k⟩ := h
    refine ⟨_, PSs.nox (pss_cons (ps_if (PW.pt (pw_or (pt_not (pt_val (pe_callB (c_isi (K := K)) (by rfl) B.n_isinstance (by decide +kernel) (pa_cons (pv 0) (pa_cons (pe_bltn (v := .ty "tuple") (by rfl) B.n_tuple (by decide +kernel) rfl) pa_nil))))) (pw_or1 (pt_cmpR op_ne (pe_callB (c_lenQ (K := K)) (by rfl) B.n_len (by decide +kernel) (pa_cons (pv 0) pa_nil)) pe_int (nomark _))))) (pss_one (ps_ret pe_bl)) pss_nil) (pss_cons (ps_asg (pv 0) (g_tup (K := K) (n := 2) (by rfl) (pgs_cons (pg_name (i := 1) sc_is_fraction.nd rfl (Or.inl rfl)) (pgs_cons (pg_name (i := 2) sc_is_fraction.nd rfl (Or.inl rfl)) pgs_nil)))) (pss_cons (ps_if (PW.pt (pw_or (pt_not (pt_val (pe_fn C_is_integerG (hr.mono (by decide)) (by rfl) (pa_cons (pv 1) pa_nil)))) (pw_or1 (pt_not (pt_val (pe_fn C_is_integerG (hr.mono (by decide)) (by rfl) (pa_cons (pv 2) pa_nil))))))) (pss_one (ps_ret pe_bl)) pss_nil) (pss_one (ps_ret (pe_and (pe_cmpR op_ge (pv 2) pe_int (nomark _)) (pe_one (pe_cmpR op_eq (pe_callBfun cr_gcd (by rfl) T.gcd (pa_cons (pv 1) (pa_cons (pv 2) pa_nil))) pe_int (nomark _))))))))), ?_⟩
    rcases hn with ⟨ty, hty, kt⟩ | ⟨a, xs, rfl, ha, hx⟩ | ⟨a, b, y, rfl, ha⟩ | ⟨a, p, rfl, ha, hf⟩
    · walk_at "yy"
      refine y_isi (k := false) hty kt ?_
      walk_at "yy"
      walk_at "yt"
      walk_at "yy"
      exact k
    · walk_at "yy"
      refine y_isi (k := true) (.base (.tup ha)) (kit_ty (by decide +kernel)) ?_
      walk_at "yy"
      walk_at "yf"
      walk_at "yy"
      refine y_lenT (sqt ha) ?_
      walk_at "yy"
      refine y_t (by rw [decide_eq_false (by omega)]; rfl) ?_
      walk_at "yy"
      exact k
    · walk_at "yy"
      refine y_isi (k := true) (.base (.tup ha)) (kit_ty (by decide +kernel)) ?_
      walk_at "yy"
      walk_at "yf"
      walk_at "yy"
      refine y_lenT (sqt ha) ?_
      walk_at "yy"
      with_reducible refine y_f ?_ ?_
      · rfl
      walk_at "yy"
      refine y_gtup rfl (sqt ha) rfl ?_
      walk_at "yy"
      refine ⟨.bl b, rfl, .inr ⟨b, rfl, ?_⟩⟩
      walk_at "yy"
      walk_at "yt"
      walk_at "yy"
      exact k
    · have k : Q (.bl (fracB p)) H := by rw [hf]; exact k
      walk_at "yy"
      refine y_isi (k := true) (.base (.tup ha)) (kit_ty (by decide +kernel)) ?_
      walk_at "yy"
      walk_at "yf"
      walk_at "yy"
      refine y_lenT (sqt ha) ?_
      walk_at "yy"
      with_reducible refine y_f ?_ ?_
      · rfl
      walk_at "yy"
      refine y_gtup rfl (sqt ha) rfl ?_
      walk_at "yy"
      refine ⟨.int p.1, rfl, .inl ⟨p.1, rfl, ?_⟩⟩
      walk_at "yy"
      have fin : ∀ b, fracB p = b → Q (.bl b) H := fun b e => by
        rw [← e]
        exact k
      refine y_ite (fun h1 => ?_) (fun h1 => ?_)
      · walk_at "yy"
        refine fin _ ?_
        unfold fracB
        rw [(Bool.not_eq_true' _).mp h1, Bool.false_and, Bool.false_and, Bool.false_and]
      · walk_at "yy"
        refine ⟨.int p.2, rfl, .inl ⟨p.2, rfl, ?_⟩⟩
        walk_at "yy"
        refine y_ite (fun h2 => ?_) (fun h2 => ?_)
        · walk_at "yy"
          refine fin _ ?_
          unfold fracB
          rw [(Bool.not_eq_true' _).mp h2, Bool.and_false, Bool.false_and, Bool.false_and]
        · walk_at "yy"
          have h1 := (Bool.not_eq_false' _).mp h1
          have h2 := (Bool.not_eq_false' _).mp h2
          refine y_ite (fun h3 => ?_) (fun h3 => ?_)
          · walk_at "yy"
            refine fin _ ?_
            unfold fracB
            rw [h1, h2, h3, Bool.true_and, Bool.true_and, Bool.true_and, decide_eq_decide]
            omega
          · refine fin _ ?_
            unfold fracB
            rw [h3, Bool.and_false, Bool.false_and]
-- 0 cls, 1 pair
theorem ok_Ratio_ofX {f : Addr} {fd : FuncData} (F : FunD K "of" "Ratio.of" (defArgs s_Ratio_of) (defBody s_Ratio_of) (defScope s_Ratio_of) [] [] f fd) (B : Blt mg) (Z : Con mg) {C : Addr} (T : RatioC K mg C) {CP fPI : Addr} (PE : PEC K mg "ParseError" "line" CP fPI) {CF : Addr} (IF : IFC K mg "InvalidFraction" CF) (C_is_fractionX : Cal P w K mg base 2 "is_fraction" ["value"] (spNoFr K)) (C_Ratio_2 : Mkr P w K mg base 2 "Ratio" C (spInit C) []) : FnOk P w K mg base (L2.CX P w) 4 f fd ["cls", "pair"] (spOfX K CF) := by
  refine F.ok sc_Ratio_of (fun vs H Q E h => ?_) (fun cdv A outer s H vs Q E hr h => ?_)
  · obtain ⟨C', v, rfl, _⟩ := h
    rfl
  · obtain ⟨C', v, rfl, hn, k⟩ := h
    refine ⟨_, (pss_cons (ps_if (pt_not (pt_val (pe_fn C_is_fractionX (hr.mono (by decide)) (by rfl) (pa_cons (pv 1) pa_nil)))) (pss_one (ps_raise rfl (takes_of rfl rfl rfl rfl) (pmk_own PySem.F.excBase_ValueError IF.q IF.g IF.kC (raises_own IF.exC IF.tyC) (by rfl)))) pss_nil) (pss_one (ps_ret (e_mkl (i := 0) C_Ratio_2 (hr.mono (by decide)) rfl (by first | exact Or.inl rfl | exact Or.inr (Or.inl rfl)) (pa_cons (pe_ix (x_tup (K := K)) (pv 1) pe_int (fun _ _ => rfl)) (pa_cons (pe_ix (x_tup (K := K)) (pv 1) pe_int (fun _ _ => rfl)) pa_nil)))))), ?_⟩
    walk_at "yy"
    refine ⟨v, rfl, hn, ?_⟩
    walk_at "yy"
    walk_at "yt"
    exact k _ (Same.refl H)
theorem sc_law_is_refused : FnScope ["_law_pair"] ["_law_pair"] (defScope s_law_is_refused) := ⟨rfl, rfl, rfl, by decide +kernel, rfl, by decide +kernel, by decide +kernel⟩
-- 0 _law_pair
theorem ok_law_is_refused {f : Addr} {fd : FuncData} (F : FunD K "_law_is_refused" "_law_is_refused" (defArgs s_law_is_refused) (defBody s_law_is_refused) (defScope s_law_is_refused) [] [] f fd) (B : Blt mg) (Z : Con mg) {C : Addr} (T : RatioC K mg C) {CP fPI : Addr} (PE : PEC K mg "ParseError" "line" CP fPI) {CF : Addr} (IF : IFC K mg "InvalidFraction" CF) (C_Ratio_ofX : CmtX P w K mg base 4 C "of" (spOfX K CF)) (C_Ratio_pair : Prp P w K mg base 1 C "pair" (spPair C)) : FnOk P w K mg base CX0 7 f fd ["_law_pair"] (spRef K) := by
  refine F.ok sc_law_is_refused (fun vs H Q E h => ?_) (fun cdv A outer s H vs Q E hr h => ?_)
  · obtain ⟨v, rfl, _⟩ := h
    rfl
  · obtain ⟨v, rfl, hn, k⟩ := h
    refine ⟨_, (pss_one (ps_try_only (tb := fun W => tRet (tOp (rNeD K) (tPrp C (spPair C) (tCmtS C (spOfX K CF) W (tC (.ref C)) (tCons (tVar 0) tNil))) (tVar 0))) (ts := fun _ _ _ => tRet (tC (.bl true))) (Wout := fun _ _ _ _ => False) rfl rfl ⟨rfl, by decide, Or.inl IF.g⟩ takes0
          (fun W pn xe tk _ => pss_one (ps_ret (pe_cmpR (o_neD (K := K) hr.units) (e_prp C_Ratio_pair T.cls (hr.mono (by decide)) (e_cmtS C_Ratio_ofX (hr.mono (by decide)) tk (pe_glob (v := .ref C) (by rfl) T.g rfl) (pa_cons (pv 0) pa_nil))) (pv 0) (nomark _))))
          (fun a oe cls d pn hz hf => pss_one (ps_ret pe_bl)))), ?_⟩
    refine ⟨rfl, v, rfl, C, v, rfl, hn, fun H1 s1 => ?_⟩
    refine ⟨true, IF.te, fun _ a0 _ => ?_, fun q => Bool.noConfusion q⟩
    exact k _ s1
theorem sc_law : FnScope ["_law_script", "_law_spot", "_law_dice_here", "_law_turn", "_law_odd", "_law_value"] ["_law_script"] (defScope s_law) := ⟨rfl, rfl, rfl, by decide +kernel, rfl, by decide +kernel, by decide +kernel⟩
-- 0 _law_script, 1 _law_spot, 2 _law_dice_here, 3 _law_turn, 4 _law_odd, 5 _law_value
theorem ok_law {f : Addr} {fd : FuncData} (F : FunD K "law" "law" (defArgs s_law) (defBody s_law) (defScope s_law) [] [] f fd) (B : Blt mg) (Z : Con mg) {C : Addr} (T : RatioC K mg C) {CP fPI : Addr} (PE : PEC K mg "ParseError" "line" CP fPI) {CF : Addr} (IF : IFC K mg "InvalidFraction" CF) (C_law_dice : Cal P w K mg base 1 "_law_dice" ["_law_script", "_law_spot"] (spDice K)) (C_law_right : Cal P w K mg base 8 "_law_right" ["_law_dice_here"] spLRight) (C_law_got : Cal P w K mg base 7 "_law_got" ["_law_text_here"] (spGot K)) (C_law_is_refused : Cal P w K mg base 7 "_law_is_refused" ["_law_pair"] (spRef K)) : FnOk P w K mg base CX0 9 f fd ["_law_script"] (spLaw K) := by
  refine F.ok sc_law (fun vs H Q E h => ?_) (fun cdv A outer s H vs Q E hr h => ?_)
  · obtain ⟨a, ns, rfl, _⟩ := h
    rfl
  · obtain ⟨a, ns, rfl, hS, hlen, k⟩ := h
    refine ⟨_, PSs.nox (pss_cons (ps_for PassesOwn.never rfl (pi_range1 (by rfl) B.n_range (pa_cons (pe_callB (c_max2 rfl) (by rfl) B.n_max (by decide +kernel) (pa_cons pe_int (pa_cons (pe_callB (c_min2 rfl) (by rfl) B.n_min (by decide +kernel) (pa_cons pe_int (pa_cons (pe_callB (c_lenQ (K := K)) (by rfl) B.n_len (by decide +kernel) (pa_cons (pv 0) pa_nil)) pa_nil))) pa_nil))) pa_nil)) (pg_name (i := 1) sc_law.nd rfl (Or.inl rfl)) (pss_cons (ps_set (i := 2) sc_law.nd rfl (Or.inl rfl) (pe_fn C_law_dice (hr.mono (by decide)) (by rfl) (pa_cons (pv 0) (pa_cons (pv 1) pa_nil)))) (pss_one (ps_for PassesOwn.never rfl (pi_range1 (by rfl) B.n_range (pa_cons pe_int pa_nil)) (pg_name (i := 3) sc_law.nd rfl (Or.inl rfl)) (pss_one (ps_if (pt_not (pt_val (pe_fn C_law_right (hr.mono (by decide)) (by rfl) (pa_cons (pv 2) pa_nil)))) (pss_one (ps_ret pe_bl)) pss_nil)))))) (pss_cons (ps_set (i := 4) sc_law.nd rfl (Or.inl rfl) (pe_lst (pa_cons pe_non (pa_cons pe_int (pa_cons pe_str (pa_cons pe_str (pa_cons pe_str (pa_cons pe_str (pa_cons pe_str (pa_cons pe_str (pa_cons pe_str (pa_cons pe_str (pa_cons pe_str (pa_cons (pe_tup (pa_cons pe_int (pa_cons pe_int pa_nil))) (pa_cons (pe_lst (pa_cons pe_str pa_nil)) (pa_cons pe_str (pa_cons pe_str (pa_cons pe_str (pa_cons pe_bl pa_nil))))))))))))))))))) (pss_cons (ps_if (pt_cmpR (o_neD (K := K) hr.units) (pe_lc (own := [("_law_value", 5)]) (g := gName 5) (tt := _) rfl sc_law.nd (w_list (K := K) (pv 4)) (blkOk_by (own := [("_law_value", 5)]) (N := ["_law_script", "_law_spot", "_law_dice_here", "_law_turn", "_law_odd", "_law_value"]) (sc := defScope s_law) (by decide +kernel)) (fun _ _ _ _ _ => pg_name (i := 5) sc_law.nd rfl (Or.inl rfl)) (fun _ _ _ _ _ => (pts_one (pt_cmpR (o_neD (K := K) hr.units) (pe_fn C_law_got (hr.mono (by decide)) (by rfl) (pa_cons (pv 5) pa_nil)) (pe_lst (pa_cons pe_non pa_nil)) (nomark _)))) (fun _ _ _ _ _ => (pv 5))) (pe_lst pa_nil) (nomark _)) (pss_one (ps_ret pe_bl)) pss_nil) (pss_cons (ps_set (i := 4) sc_law.nd rfl (Or.inl rfl) (pe_lst (pa_cons pe_non (pa_cons pe_int (pa_cons (pe_tup (pa_cons pe_int (pa_cons pe_int pa_nil))) (pa_cons (pe_tup (pa_cons pe_int (pa_cons pe_int pa_nil))) (pa_cons (pe_lst (pa_cons pe_int (pa_cons pe_int pa_nil))) (pa_cons pe_str (pa_cons (pe_tup (pa_cons pe_int pa_nil)) (pa_cons (pe_tup (pa_cons pe_int (pa_cons pe_int (pa_cons pe_int pa_nil)))) (pa_cons (pe_tup (pa_cons pe_bl (pa_cons pe_int pa_nil))) (pa_cons (pe_tup (pa_cons pe_int (pa_cons pe_int pa_nil))) (pa_cons (pe_tup (pa_cons pe_int (pa_cons (pe_un un_neg pe_int) pa_nil))) pa_nil))))))))))))) (pss_one (ps_ret (pe_and (pe_cmpR (o_eqD (K := K) hr.units) (pe_lc (own := [("_law_value", 5)]) (g := gName 5) (tt := _) rfl sc_law.nd (w_list (K := K) (pv 4)) (blkOk_by (own := [("_law_value", 5)]) (N := ["_law_script", "_law_spot", "_law_dice_here", "_law_turn", "_law_odd", "_law_value"]) (sc := defScope s_law) (by decide +kernel)) (fun _ _ _ _ _ => pg_name (i := 5) sc_law.nd rfl (Or.inl rfl)) (fun _ _ _ _ _ => (pts_one (pt_not (pt_val (pe_fn C_law_is_refused (hr.mono (by decide)) (by rfl) (pa_cons (pv 5) pa_nil)))))) (fun _ _ _ _ _ => (pv 5))) (pe_lst pa_nil) (nomark _)) (pe_and (pe_cmpR (o_eqD (K := K) hr.units) (pe_fn C_law_got (hr.mono (by decide)) (by rfl) (pa_cons pe_str pa_nil)) (pe_tup (pa_cons (pe_un un_neg pe_int) (pa_cons pe_int pa_nil))) (nomark _)) (pe_one (pe_cmpR (o_eqD (K := K) hr.units) (pe_fn C_law_got (hr.mono (by decide)) (by rfl) (pa_cons pe_str pa_nil)) (pe_tup (pa_cons pe_int (pa_cons pe_int pa_nil))) (nomark _))))))))))), ?_⟩
    walk_at "yy"
    refine y_lenL hS ?_
    walk_at "yy"
    refine ⟨_, rfl, by omega, by omega, y_forR (b := fun _ _ => False) (c := fun _ _ => False) (fun i σ H1 => ∃ u1 u2 u3, σ = [some (.ref a), u1, u2, u3, none, none] ∧ Same H H1) ⟨_, _, _, rfl, Same.refl H⟩ ?_ ?_⟩
    · rintro i σ H1 hi ⟨u1, u2, u3, rfl, sm⟩
      walk_at "yy"
      refine ⟨a, 0 + i, ns, rfl, sm.seq hS, by omega, by omega, fun d H2 nd hD sm2 => ?_⟩
      have nd0 : H d = none := sm.free nd
      walk_at "yy"
      refine ⟨4, rfl, by decide, by decide, y_forR (b := fun _ _ => False) (c := fun _ _ => False) (fun j σ H3 => ∃ u3, σ = [some (.ref a), some (.int (0 + i)), some (.ref d), u3, none, none] ∧ Same H H3 ∧ DiceAt H3 d) ⟨_, rfl, sm.trans sm2, hD⟩ ?_ ?_⟩
      · rintro j σ H3 hj ⟨u3, rfl, sm3, hD3⟩
        walk_at "yy"
        refine ⟨d, rfl, hD3, fun H4 hD4 f4 => ?_⟩
        walk_at "yy"
        walk_at "yf"
        walk_at "yy"
        exact ⟨_, rfl, same_fr sm3 f4 nd0, hD4⟩
      · rintro σ H3 ⟨u3, rfl, sm3, hD3⟩
        exact ⟨_, _, _, rfl, sm3⟩
    · rintro σ H1 ⟨u1, u2, u3, rfl, sm⟩
      walk_at "yy"
      refine ⟨by show 2 ≤ sizeLine; decide, fun t0 m0 => ?_⟩
      have k0 : (upd H1 t0 (.tup [.int 1, .int 2])) t0 = some (.tup [.int 1, .int 2]) := upd_same
      have s0 : Same H1 (upd H1 t0 (.tup [.int 1, .int 2])) := same_new m0
      generalize upd H1 t0 (.tup [.int 1, .int 2]) = E1 at k0 s0 ⊢
      walk_at "yy"
      refine ⟨by show 1 ≤ sizeLine; decide, fun t1 m1 => ?_⟩
      have k1 : (upd E1 t1 (.lst [.str "1"])) t1 = some (.lst [.str "1"]) := upd_same
      have s1 : Same E1 (upd E1 t1 (.lst [.str "1"])) := same_new m1
      generalize upd E1 t1 (.lst [.str "1"]) = G1 at k1 s1 ⊢
      walk_at "yy"
      refine ⟨by show 17 ≤ sizeLine; decide, fun L nL => ?_⟩
      have eL : (upd G1 L (.lst [.non, .int 0, .str "", .str "1/1", .str "2/4", .str "1/0", .str "1/-2", .str "-0", .str "01", .str "+1", .str "1/2/3", .ref t0, .ref t1, .str "1 /2", .str "0/2", .str "-1/2 ", .bl true])) L = some (.lst [.non, .int 0, .str "", .str "1/1", .str "2/4", .str "1/0", .str "1/-2", .str "-0", .str "01", .str "+1", .str "1/2/3", .ref t0, .ref t1, .str "1 /2", .str "0/2", .str "-1/2 ", .bl true]) := upd_same
      have sL : Same G1 (upd G1 L (.lst [.non, .int 0, .str "", .str "1/1", .str "2/4", .str "1/0", .str "1/-2", .str "-0", .str "01", .str "+1", .str "1/2/3", .ref t0, .ref t1, .str "1 /2", .str "0/2", .str "-1/2 ", .bl true])) := same_new nL
      have odd : ∀ x ∈ ([.non, .int 0, .str "", .str "1/1", .str "2/4", .str "1/0", .str "1/-2", .str "-0", .str "01", .str "+1", .str "1/2/3", .ref t0, .ref t1, .str "1 /2", .str "0/2", .str "-1/2 ", .bl true] : List V), Odd G1 x := by
        intro x hx
        simp only [List.mem_cons, List.not_mem_nil, or_false] at hx
        rcases hx with rfl | rfl | rfl | rfl | rfl | rfl | rfl | rfl | rfl | rfl | rfl | rfl | rfl | rfl | rfl | rfl | rfl
        · exact .inr (.inl rfl)
        · exact .inr (.inr (.inl ⟨_, rfl⟩))
        · exact .inl ⟨_, rfl, by unfold Asc; decide +kernel, by decide +kernel, by decide +kernel⟩
        · exact .inl ⟨_, rfl, by unfold Asc; decide +kernel, by decide +kernel, by decide +kernel⟩
        · exact .inl ⟨_, rfl, by unfold Asc; decide +kernel, by decide +kernel, by decide +kernel⟩
        · exact .inl ⟨_, rfl, by unfold Asc; decide +kernel, by decide +kernel, by decide +kernel⟩
        · exact .inl ⟨_, rfl, by unfold Asc; decide +kernel, by decide +kernel, by decide +kernel⟩
        · exact .inl ⟨_, rfl, by unfold Asc; decide +kernel, by decide +kernel, by decide +kernel⟩
        · exact .inl ⟨_, rfl, by unfold Asc; decide +kernel, by decide +kernel, by decide +kernel⟩
        · exact .inl ⟨_, rfl, by unfold Asc; decide +kernel, by decide +kernel, by decide +kernel⟩
        · exact .inl ⟨_, rfl, by unfold Asc; decide +kernel, by decide +kernel, by decide +kernel⟩
        · exact .inr (.inr (.inr (.inr ⟨_, _, rfl, .inl (s1 _ _ k0)⟩)))
        · exact .inr (.inr (.inr (.inr ⟨_, _, rfl, .inr k1⟩)))
        · exact .inl ⟨_, rfl, by unfold Asc; decide +kernel, by decide +kernel, by decide +kernel⟩
        · exact .inl ⟨_, rfl, by unfold Asc; decide +kernel, by decide +kernel, by decide +kernel⟩
        · exact .inl ⟨_, rfl, by unfold Asc; decide +kernel, by decide +kernel, by decide +kernel⟩
        · exact .inr (.inr (.inr (.inl ⟨_, rfl⟩)))
      generalize ([.non, .int 0, .str "", .str "1/1", .str "2/4", .str "1/0", .str "1/-2", .str "-0", .str "01", .str "+1", .str "1/2/3", .ref t0, .ref t1, .str "1 /2", .str "0/2", .str "-1/2 ", .bl true] : List V) = xs at eL sL odd ⊢
      generalize upd G1 L (.lst xs) = F1 at eL sL ⊢
      walk_at "yy"
      refine ⟨L, rfl, ⟨_, sql eL⟩, fun D nD => lc_list (xs := xs) (fun (j : Nat) H3 => H3 D = some (.lst []) ∧ H3 L = some (.lst xs) ∧ Same F1 H3) ?_ (fun _ _ _ h => sql h.2.1) ?_ ?_⟩
      · exact ⟨upd_same, by rw [upd_ne (ne_of_none eL nD)]; exact eL, same_new nD⟩
      · rintro j x H3 hx ⟨eD, eL3, s3⟩
        have ox := odd x (List.mem_of_getElem? hx)
        walk_at "yy"
        refine ⟨rfl, ?_⟩
        walk_at "yy"
        refine ⟨x, none, rfl, ox.rd (sL.trans s3), (fun p hp => nomatch hp), fun _ r H4 nr er s4 => ?_⟩
        walk_at "yy"
        refine ⟨by show 1 ≤ sizeLine; decide, fun l nl => ?_⟩
        have s5 := same_new (o := .lst [.non]) nl
        refine ⟨.list [.none], .list [.none], .lst (sql (s5 _ _ er)) (.cons .non .nil), .lst (sql upd_same) (.cons .non .nil), rfl, rfl, ?_⟩
        walk_at "yy"
        refine y_f (by rfl) ?_
        exact ⟨s5 _ _ (s4 _ _ eD), s5 _ _ (s4 _ _ eL3), s3.trans (s4.trans s5)⟩
      · rintro H3 ⟨eD, eL3, s3⟩
        walk_at "yy"
        refine ⟨by show 0 ≤ sizeLine; decide, fun q nq => ?_⟩
        have s5 := same_new (o := .lst []) nq
        refine ⟨.list [], .list [], .lst (sql (s5 _ _ eD)) .nil, .lst (sql upd_same) .nil, rfl, rfl, ?_⟩
        generalize upd H3 q (.lst []) = E2 at s5 ⊢
        walk_at "yy"
        refine y_f (by rfl) ?_
        clear odd eL sL k0 k1 s0 s1 eD eL3 s3 s5
        walk_at "yy"
        refine ⟨by show 2 ≤ sizeLine; decide, fun t2 m2 => ?_⟩
        have k2 : (upd E2 t2 (.tup [.int 2, .int 4])) t2 = some (.tup [.int 2, .int 4]) := upd_same
        have s2 : Same E2 (upd E2 t2 (.tup [.int 2, .int 4])) := same_new m2
        generalize upd E2 t2 (.tup [.int 2, .int 4]) = E3 at k2 s2 ⊢
        walk_at "yy"
        refine ⟨by show 2 ≤ sizeLine; decide, fun t3 m3 => ?_⟩
        have k3 : (upd E3 t3 (.tup [.int 1, .int 0])) t3 = some (.tup [.int 1, .int 0]) := upd_same
        have s3 : Same E3 (upd E3 t3 (.tup [.int 1, .int 0])) := same_new m3
        generalize upd E3 t3 (.tup [.int 1, .int 0]) = E4 at k3 s3 ⊢
        walk_at "yy"
        refine ⟨by show 2 ≤ sizeLine; decide, fun t4 m4 => ?_⟩
        have k4 : (upd E4 t4 (.lst [.int 1, .int 2])) t4 = some (.lst [.int 1, .int 2]) := upd_same
        have s4 : Same E4 (upd E4 t4 (.lst [.int 1, .int 2])) := same_new m4
        generalize upd E4 t4 (.lst [.int 1, .int 2]) = E5 at k4 s4 ⊢
        walk_at "yy"
        refine ⟨by show 1 ≤ sizeLine; decide, fun t5 m5 => ?_⟩
        have k5 : (upd E5 t5 (.tup [.int 1])) t5 = some (.tup [.int 1]) := upd_same
        have s5 : Same E5 (upd E5 t5 (.tup [.int 1])) := same_new m5
        generalize upd E5 t5 (.tup [.int 1]) = E6 at k5 s5 ⊢
        walk_at "yy"
        refine ⟨by show 3 ≤ sizeLine; decide, fun t6 m6 => ?_⟩
        have k6 : (upd E6 t6 (.tup [.int 1, .int 2, .int 3])) t6 = some (.tup [.int 1, .int 2, .int 3]) := upd_same
        have s6 : Same E6 (upd E6 t6 (.tup [.int 1, .int 2, .int 3])) := same_new m6
        generalize upd E6 t6 (.tup [.int 1, .int 2, .int 3]) = E7 at k6 s6 ⊢
        walk_at "yy"
        refine ⟨by show 2 ≤ sizeLine; decide, fun t7 m7 => ?_⟩
        have k7 : (upd E7 t7 (.tup [.bl true, .int 2])) t7 = some (.tup [.bl true, .int 2]) := upd_same
        have s7 : Same E7 (upd E7 t7 (.tup [.bl true, .int 2])) := same_new m7
        generalize upd E7 t7 (.tup [.bl true, .int 2]) = E8 at k7 s7 ⊢
        walk_at "yy"
        refine ⟨by show 2 ≤ sizeLine; decide, fun t8 m8 => ?_⟩
        have k8 : (upd E8 t8 (.tup [.int 0, .int 2])) t8 = some (.tup [.int 0, .int 2]) := upd_same
        have s8 : Same E8 (upd E8 t8 (.tup [.int 0, .int 2])) := same_new m8
        generalize upd E8 t8 (.tup [.int 0, .int 2]) = E9 at k8 s8 ⊢
        walk_at "yy"
        refine ⟨by show 2 ≤ sizeLine; decide, fun t9 m9 => ?_⟩
        have k9 : (upd E9 t9 (.tup [.int 1, .int (-2)])) t9 = some (.tup [.int 1, .int (-2)]) := upd_same
        have s9 : Same E9 (upd E9 t9 (.tup [.int 1, .int (-2)])) := same_new m9
        generalize upd E9 t9 (.tup [.int 1, .int (-2)]) = G2 at k9 s9 ⊢
        walk_at "yy"
        have c9 : Same G2 G2 := Same.refl G2
        have c8 : Same E9 G2 := s9.trans c9
        have c7 : Same E8 G2 := s8.trans c8
        have c6 : Same E7 G2 := s7.trans c7
        have c5 : Same E6 G2 := s6.trans c6
        have c4 : Same E5 G2 := s5.trans c5
        have c3 : Same E4 G2 := s4.trans c4
        have c2 : Same E3 G2 := s3.trans c3
        refine ⟨by show 11 ≤ sizeLine; decide, fun L2 nL2 => ?_⟩
        have eL2 : (upd G2 L2 (.lst [.non, .int 0, .ref t2, .ref t3, .ref t4, .str "1/2", .ref t5, .ref t6, .ref t7, .ref t8, .ref t9])) L2 = some (.lst [.non, .int 0, .ref t2, .ref t3, .ref t4, .str "1/2", .ref t5, .ref t6, .ref t7, .ref t8, .ref t9]) := upd_same
        have sL2 : Same G2 (upd G2 L2 (.lst [.non, .int 0, .ref t2, .ref t3, .ref t4, .str "1/2", .ref t5, .ref t6, .ref t7, .ref t8, .ref t9])) := same_new nL2
        have odd2 : ∀ x ∈ ([.non, .int 0, .ref t2, .ref t3, .ref t4, .str "1/2", .ref t5, .ref t6, .ref t7, .ref t8, .ref t9] : List V), ∀ H', Same G2 H' → NF K H' x := by
          intro x hx H' c
          have c2 := c2.trans c
          have c3 := c3.trans c
          have c4 := c4.trans c
          have c5 := c5.trans c
          have c6 := c6.trans c
          have c7 := c7.trans c
          have c8 := c8.trans c
          have c9 := c9.trans c
          simp only [List.mem_cons, List.not_mem_nil, or_false] at hx
          rcases hx with rfl | rfl | rfl | rfl | rfl | rfl | rfl | rfl | rfl | rfl | rfl
          · exact .inl ⟨_, .base .non, kit_ty (by decide +kernel)⟩
          · exact .inl ⟨_, .base (.int 0), kit_ty (by decide +kernel)⟩
          · exact .inr (.inr (.inr ⟨_, (2, 4), rfl, c2 _ _ k2, by decide +kernel⟩))
          · exact .inr (.inr (.inr ⟨_, (1, 0), rfl, c3 _ _ k3, by decide +kernel⟩))
          · exact .inl ⟨_, .base (.lst (c4 _ _ k4)), kit_ty (by decide +kernel)⟩
          · exact .inl ⟨_, .base (.str _), kit_ty (by decide +kernel)⟩
          · exact .inr (.inl ⟨_, _, rfl, c5 _ _ k5, by decide⟩)
          · exact .inr (.inl ⟨_, _, rfl, c6 _ _ k6, by decide⟩)
          · exact .inr (.inr (.inl ⟨_, _, _, rfl, c7 _ _ k7⟩))
          · exact .inr (.inr (.inr ⟨_, (0, 2), rfl, c8 _ _ k8, by decide +kernel⟩))
          · exact .inr (.inr (.inr ⟨_, (1, -2), rfl, c9 _ _ k9, by decide +kernel⟩))
        generalize ([.non, .int 0, .ref t2, .ref t3, .ref t4, .str "1/2", .ref t5, .ref t6, .ref t7, .ref t8, .ref t9] : List V) = ys at eL2 sL2 odd2 ⊢
        generalize upd G2 L2 (.lst ys) = F2 at eL2 sL2 ⊢
        walk_at "yy"
        refine ⟨L2, rfl, ⟨_, sql eL2⟩, fun D nD => lc_list (xs := ys) (fun (j : Nat) H3 => H3 D = some (.lst []) ∧ H3 L2 = some (.lst ys) ∧ Same F2 H3) ?_ (fun _ _ _ h => sql h.2.1) ?_ ?_⟩
        · exact ⟨upd_same, by rw [upd_ne (ne_of_none eL2 nD)]; exact eL2, same_new nD⟩
        · rintro j x H3 hx ⟨eD, eL3, s3⟩
          walk_at "yy"
          refine ⟨rfl, ?_⟩
          walk_at "yy"
          refine ⟨x, rfl, odd2 x (List.mem_of_getElem? hx) _ (sL2.trans s3), fun H4 s4 => ?_⟩
          walk_at "yy"
          walk_at "yf"
          exact ⟨s4 _ _ eD, s4 _ _ eL3, s3.trans s4⟩
        · rintro H3 ⟨eD, eL3, s3⟩
          walk_at "yy"
          refine ⟨by show 0 ≤ sizeLine; decide, fun q nq => ?_⟩
          have s5 := same_new (o := .lst []) nq
          refine ⟨.list [], .list [], .lst (sql (s5 _ _ eD)) .nil, .lst (sql upd_same) .nil, rfl, rfl, ?_⟩
          walk_at "yy"
          refine y_t (by rfl) ?_
          walk_at "yy"
          refine ⟨.str "-3/7", some (-3, 7), rfl, .inl ⟨_, rfl, by unfold Asc; decide +kernel, by decide +kernel, by decide +kernel⟩, fun p hp r H4 nr er s4 => ?_, fun h => nomatch h⟩
          cases Option.some.inj hp
          walk_at "yy"
          refine ⟨by show 2 ≤ sizeLine; decide, fun u nu => ?_⟩
          refine ⟨tq (-3, 7), tq (-3, 7), tp (same_new nu _ _ er), tp upd_same, shT _, shT _, ?_⟩
          rw [eqvT]
          walk_at "yy"
          walk_at "yt"
          walk_at "yy"
          refine ⟨.str "0", some (0, 1), rfl, .inl ⟨_, rfl, by unfold Asc; decide +kernel, by decide +kernel, by decide +kernel⟩, fun p hp r H4 nr er s4 => ?_, fun h => nomatch h⟩
          cases Option.some.inj hp
          walk_at "yy"
          refine ⟨by show 2 ≤ sizeLine; decide, fun u nu => ?_⟩
          refine ⟨tq (0, 1), tq (0, 1), tp (same_new nu _ _ er), tp upd_same, shT _, shT _, ?_⟩
          rw [eqvT]
          exact k _
end
abbrev cC (K : PySem.W.Frag) : Addr := He.ga K "Ratio"
def d_is_integer : He5.DefA := ⟨fun K => He.ga K "is_integer", "is_integer", "is_integer", defArgs s_is_integer, defBody s_is_integer, defScope s_is_integer, [], []⟩
def d_is_fraction : He5.DefA := ⟨fun K => He.ga K "is_fraction", "is_fraction", "is_fraction", defArgs s_is_fraction, defBody s_is_fraction, defScope s_is_fraction, [], []⟩
def d_lowest : He5.DefA := ⟨fun K => He.ga K "lowest", "lowest", "lowest", defArgs s_lowest, defBody s_lowest, defScope s_lowest, [], []⟩
def d_Ratio___init__ : He5.DefA := ⟨fun K => He.ma K (cC K) "__init__", "__init__", "Ratio.__init__", defArgs s_Ratio___init__, defBody s_Ratio___init__, defScope s_Ratio___init__, [.int 1], []⟩
def d_Ratio_pair : He5.DefA := ⟨fun K => He5.wf K (cC K) "property" "pair", "pair", "Ratio.pair", defArgs s_Ratio_pair, defBody s_Ratio_pair, defScope s_Ratio_pair, [], []⟩
def d_Ratio_of : He5.DefA := ⟨fun K => He5.wf K (cC K) "classmethod" "of", "of", "Ratio.of", defArgs s_Ratio_of, defBody s_Ratio_of, defScope s_Ratio_of, [], []⟩
def d_text_of : He5.DefA := ⟨fun K => He.ga K "text_of", "text_of", "text_of", defArgs s_text_of, defBody s_text_of, defScope s_text_of, [], []⟩
def d_Ratio_text : He5.DefA := ⟨fun K => He5.wf K (cC K) "property" "text", "text", "Ratio.text", defArgs s_Ratio_text, defBody s_Ratio_text, defScope s_Ratio_text, [], []⟩
def d_are_digits : He5.DefA := ⟨fun K => He.ga K "_are_digits", "_are_digits", "_are_digits", defArgs s_are_digits, defBody s_are_digits, defScope s_are_digits, [], []⟩
def d_pair_read : He5.DefA := ⟨fun K => He.ga K "pair_read", "pair_read", "pair_read", defArgs s_pair_read, defBody s_pair_read, defScope s_pair_read, [], []⟩
def d_ParseError___init__ : He5.DefA := ⟨fun K => He.ma K (He.ga K "ParseError") "__init__", "__init__", "ParseError.__init__", defArgs s_ParseError___init__, defBody s_ParseError___init__, defScope s_ParseError___init__, [], []⟩
def d_Ratio_read : He5.DefA := ⟨fun K => He5.wf K (cC K) "classmethod" "read", "read", "Ratio.read", defArgs s_Ratio_read, defBody s_Ratio_read, defScope s_Ratio_read, [], []⟩
def d_law_got : He5.DefA := ⟨fun K => He.ga K "_law_got", "_law_got", "_law_got", defArgs s_law_got, defBody s_law_got, defScope s_law_got, [], []⟩
def d_law_dice : He5.DefA := ⟨fun K => He.ga K "_law_dice", "_law_dice", "_law_dice", defArgs s_law_dice, defBody s_law_dice, defScope s_law_dice, [], []⟩
def d_law_roll : He5.DefA := ⟨fun K => He.ga K "_law_roll", "_law_roll", "_law_roll", defArgs s_law_roll, defBody s_law_roll, defScope s_law_roll, [], []⟩
def d_law_pick : He5.DefA := ⟨fun K => He.ga K "_law_pick", "_law_pick", "_law_pick", defArgs s_law_pick, defBody s_law_pick, defScope s_law_pick, [], []⟩
def d_law_ratio : He5.DefA := ⟨fun K => He.ga K "_law_ratio", "_law_ratio", "_law_ratio", defArgs s_law_ratio, defBody s_law_ratio, defScope s_law_ratio, [], []⟩
def d_law_fraction : He5.DefA := ⟨fun K => He.ga K "_law_fraction", "_law_fraction", "_law_fraction", defArgs s_law_fraction, defBody s_law_fraction, defScope s_law_fraction, [], []⟩
def d_law_text : He5.DefA := ⟨fun K => He.ga K "_law_text", "_law_text", "_law_text", defArgs s_law_text, defBody s_law_text, defScope s_law_text, [], []⟩
def d_law_digits : He5.DefA := ⟨fun K => He.ga K "_law_digits", "_law_digits", "_law_digits", defArgs s_law_digits, defBody s_law_digits, defScope s_law_digits, [], []⟩
def d_law_bent : He5.DefA := ⟨fun K => He.ga K "_law_bent", "_law_bent", "_law_bent", defArgs s_law_bent, defBody s_law_bent, defScope s_law_bent, [], []⟩
def d_law_due : He5.DefA := ⟨fun K => He.ga K "_law_due", "_law_due", "_law_due", defArgs s_law_due, defBody s_law_due, defScope s_law_due, [], []⟩
def d_law_right : He5.DefA := ⟨fun K => He.ga K "_law_right", "_law_right", "_law_right", defArgs s_law_right, defBody s_law_right, defScope s_law_right, [], []⟩
def d_law_is_refused : He5.DefA := ⟨fun K => He.ga K "_law_is_refused", "_law_is_refused", "_law_is_refused", defArgs s_law_is_refused, defBody s_law_is_refused, defScope s_law_is_refused, [], []⟩
def d_law : He5.DefA := ⟨fun K => He.ga K "law", "law", "law", defArgs s_law, defBody s_law, defScope s_law, [], []⟩
def fn : List He5.DefA := [d_is_integer, d_is_fraction, d_lowest, d_Ratio___init__, d_Ratio_pair, d_Ratio_of, d_text_of, d_Ratio_text, d_are_digits, d_pair_read, d_ParseError___init__, d_Ratio_read, d_law_got, d_law_dice, d_law_roll, d_law_pick, d_law_ratio, d_law_fraction, d_law_text, d_law_digits, d_law_bent, d_law_due, d_law_right, d_law_is_refused, d_law]
def fa : List He.Fa := [.glo "Ratio", .cls "Ratio", .mkr "Ratio", .noat "Ratio" "_top", .noat "Ratio" "_bottom", .glo "is_integer", .glo "is_fraction", .glo "lowest", .glo "text_of", .glo "_are_digits", .glo "pair_read", .glo "_law_got", .glo "_law_dice", .glo "_law_roll", .glo "_law_pick", .glo "_law_ratio", .glo "_law_fraction", .glo "_law_text", .glo "_law_digits", .glo "_law_bent", .glo "_law_due", .glo "_law_right", .glo "_law_is_refused", .glo "law", .free "abs", .free "all", .free "bool", .free "int", .free "isinstance", .free "len", .free "max", .free "min", .free "range", .free "str", .free "tuple", .int "MAX_DIGITS" 300, .int "LEAST_LONG" (10 ^ 300), .glo "ParseError", .exm "ParseError" "ParseError" true, .glo "InvalidFraction", .exm "InvalidFraction" "InvalidFraction" true, .exc "InvalidFraction"]
def ex (K : PySem.W.Frag) : List Bool := [PySem.W.selfFirst K (cC K),
  decide (PySem.W.findIn K (.ref (cC K)) "__ne__" = some (some (.builtin "object.__ne__"))),
  decide (PySem.W.mroIn K (cC K) (.type "object") = some true),
  PySem.W.readsIn K (cC K) (.type "type"),
  decide (PySem.W.specialIn K (.ref (cC K)) "__getattribute__" = some (some (.builtin "type.__getattribute__"))),
  decide (PySem.W.findIn K (.ref (cC K)) "__class__" = some (some (.builtin "object.__class__"))),
  decide (PySem.W.specialIn K (.builtin "object.__class__") "__get__" = some (some (.builtin "getset_descriptor.__get__"))),
  decide (PySem.W.takesIn K (.builtin "object.__class__") = some true),
  decide (PySem.W.kitOne K (.type "int") (.ref (cC K)) = some false),
  decide (PySem.W.kitOne K (.type "tuple") (.ref (cC K)) = some false),
  decide (PySem.W.nsIn K mainGlobals "gcd" = some (some (.builtin "math.gcd"))),
  decide (PySem.W.subIn K (.type "int") (.ref (cC K)) = some false),
  oexB K (He.ga K "ParseError"),
  decide (PySem.W.findIn K (.ref (He.ga K "ParseError")) "__setattr__" = some (some (.builtin "object.__setattr__"))),
  decide (PySem.W.subIn K (.ref (He.ga K "ParseError")) (.type "BaseException") = some true),
  decide (PySem.W.typeIn K (.ref (He.ga K "ParseError")) = some (.type "type")),
  PySem.W.keepIn K (.ref (He.ga K "ParseError")),
  decide (PySem.W.findIn K (.ref (He.ga K "ParseError")) "__init__" = some (some (.ref (He.ma K (He.ga K "ParseError") "__init__")))),
  decide (PySem.W.typeIn K (.ref (He.ma K (He.ga K "ParseError") "__init__")) = some (.type "function")),
  decide (PySem.W.findIn K (.ref (He.ga K "ParseError")) "line" = some none),
  xfB K (He.ga K "ParseError"),
  propB K (cC K) "pair",
  He5.wrapB K (cC K) "classmethod" "classmethod.__get__" "of",
  PySem.W.fnIn K (He5.wf K (cC K) "classmethod" "of"),
  propB K (cC K) "text",
  He5.wrapB K (cC K) "classmethod" "classmethod.__get__" "read",
  PySem.W.fnIn K (He5.wf K (cC K) "classmethod" "read")]
abbrev R : PySem.W.OpenRow := PySem.W.OpenLaw.row PySem.Challenge.rw_wonbyturns_k06_whole_texts_of_fractions
def hk : PySem.W.Hook where
  α := He.AlD × List Bool
  obs := fun s => (He5.obsAG 5 fa fn s.heap.get?, ex (He.frG s.heap.get? (He5.asA s.heap.get? 5)))
  val := fun _ => (He5.valA fn, List.replicate 27 true)
  says := fun _ h => ∃ K : PySem.W.Frag, K.In h ∧ He5.SaysA fa fn K ∧ ex K = List.replicate 27 true
  of := fun _ _ e => ⟨_, He.frG_in, congrArg Prod.fst e, congrArg Prod.snd e⟩
  keeps := fun _ _ _ ⟨K, hK, c⟩ k => ⟨K, PySem.W.Frag.In.keeps hK k, c⟩
def ob (s : PySem.W.SharedT) : He.AlD × List Bool := (He5.obsAG 5 fa fn (HandSHeadRun.getT s), ex (He.frG (HandSHeadRun.getT s) (He5.asA (HandSHeadRun.getT s) 5)))
theorem ob_eq (s : PySem.W.SharedT) : ob s = hk.obs s.abs := by
  have e : HandSHeadRun.getT s = s.abs.heap.get? := funext fun a => HandSHeadRun.getT_eq s a
  unfold ob
  rw [e]
  rfl
def loose : List Str := [("_wall" : Str), ("__name__" : Str), ("GameError" : Str), ("InvalidFraction" : Str), ("InvalidOperation" : Str), ("ParseError" : Str), ("TooMany" : Str), ("MAX_DIGITS" : Str), ("LEAST_LONG" : Str), ("is_integer" : Str), ("is_fraction" : Str), ("lowest" : Str), ("short" : Str), ("text_of" : Str), ("pair_read" : Str), ("_are_digits" : Str), ("Ratio" : Str), ("_ratio" : Str), ("_operand" : Str), ("_law_dice" : Str), ("_law_roll" : Str), ("_law_pick" : Str), ("_law_ratio" : Str), ("_law_fraction" : Str), ("_law_text" : Str), ("_law_got" : Str), ("_law_bent" : Str), ("_law_digits" : Str), ("_law_due" : Str), ("_law_right" : Str), ("_law_is_refused" : Str)]
theorem run (w : World) : HandSHeadRun.RunEqI R (PySem.W.view R.prog [0, 36]) hk ob 20000 loose w := by
  unfold HandSHeadRun.RunEqI
  kernel_rfl
theorem facts {P : Program} {w : World} {K : PySem.W.Frag} {h : Heap} {mg : Str → Option Value} {f : Addr} (X : K.In h) (G : h.Ns mainGlobals mg) (hfa : mg ("law" : Str) = some (.ref f)) (c : He5.SaysA fa fn K) (cx : ex K = List.replicate 27 true) :
    ∃ fd : FuncData, (∀ (s : Shared) (v : Value), BindsTo s fd ⟨[v], []⟩ [("_law_script", v)]) ∧ ∀ base : Heap, K.In base → base.Ns mainGlobals mg → FnOk P w K mg base CX0 9 f fd ["_law_script"] (spLaw K) := by
  obtain ⟨fd_0, F_0⟩ := c.def_ 0 (d := d_is_integer) rfl
  obtain ⟨fd_1, F_1⟩ := c.def_ 1 (d := d_is_fraction) rfl
  obtain ⟨fd_2, F_2⟩ := c.def_ 2 (d := d_lowest) rfl
  obtain ⟨fd_3, F_3⟩ := c.def_ 3 (d := d_Ratio___init__) rfl
  obtain ⟨fd_4, F_4⟩ := c.def_ 4 (d := d_Ratio_pair) rfl
  obtain ⟨fd_5, F_5⟩ := c.def_ 5 (d := d_Ratio_of) rfl
  obtain ⟨fd_6, F_6⟩ := c.def_ 6 (d := d_text_of) rfl
  obtain ⟨fd_7, F_7⟩ := c.def_ 7 (d := d_Ratio_text) rfl
  obtain ⟨fd_8, F_8⟩ := c.def_ 8 (d := d_are_digits) rfl
  obtain ⟨fd_9, F_9⟩ := c.def_ 9 (d := d_pair_read) rfl
  obtain ⟨fd_10, F_10⟩ := c.def_ 10 (d := d_ParseError___init__) rfl
  obtain ⟨fd_11, F_11⟩ := c.def_ 11 (d := d_Ratio_read) rfl
  obtain ⟨fd_12, F_12⟩ := c.def_ 12 (d := d_law_got) rfl
  obtain ⟨fd_13, F_13⟩ := c.def_ 13 (d := d_law_dice) rfl
  obtain ⟨fd_14, F_14⟩ := c.def_ 14 (d := d_law_roll) rfl
  obtain ⟨fd_15, F_15⟩ := c.def_ 15 (d := d_law_pick) rfl
  obtain ⟨fd_16, F_16⟩ := c.def_ 16 (d := d_law_ratio) rfl
  obtain ⟨fd_17, F_17⟩ := c.def_ 17 (d := d_law_fraction) rfl
  obtain ⟨fd_18, F_18⟩ := c.def_ 18 (d := d_law_text) rfl
  obtain ⟨fd_19, F_19⟩ := c.def_ 19 (d := d_law_digits) rfl
  obtain ⟨fd_20, F_20⟩ := c.def_ 20 (d := d_law_bent) rfl
  obtain ⟨fd_21, F_21⟩ := c.def_ 21 (d := d_law_due) rfl
  obtain ⟨fd_22, F_22⟩ := c.def_ 22 (d := d_law_right) rfl
  obtain ⟨fd_23, F_23⟩ := c.def_ 23 (d := d_law_is_refused) rfl
  obtain ⟨fd_24, F_24⟩ := c.def_ 24 (d := d_law) rfl
  have x_first : (PySem.W.selfFirst K (cC K)) = true := ex_at cx 0 rfl
  have x_ne : decide (PySem.W.findIn K (.ref (cC K)) "__ne__" = some (some (.builtin "object.__ne__"))) = true := ex_at cx 1 rfl
  have x_obj : decide (PySem.W.mroIn K (cC K) (.type "object") = some true) = true := ex_at cx 2 rfl
  have x_rd : (PySem.W.readsIn K (cC K) (.type "type")) = true := ex_at cx 3 rfl
  have x_ga : decide (PySem.W.specialIn K (.ref (cC K)) "__getattribute__" = some (some (.builtin "type.__getattribute__"))) = true := ex_at cx 4 rfl
  have x_cl : decide (PySem.W.findIn K (.ref (cC K)) "__class__" = some (some (.builtin "object.__class__"))) = true := ex_at cx 5 rfl
  have x_cg : decide (PySem.W.specialIn K (.builtin "object.__class__") "__get__" = some (some (.builtin "getset_descriptor.__get__"))) = true := ex_at cx 6 rfl
  have x_ct : decide (PySem.W.takesIn K (.builtin "object.__class__") = some true) = true := ex_at cx 7 rfl
  have x_ki : decide (PySem.W.kitOne K (.type "int") (.ref (cC K)) = some false) = true := ex_at cx 8 rfl
  have x_kt : decide (PySem.W.kitOne K (.type "tuple") (.ref (cC K)) = some false) = true := ex_at cx 9 rfl
  have x_gcd : decide (PySem.W.nsIn K mainGlobals "gcd" = some (some (.builtin "math.gcd"))) = true := ex_at cx 10 rfl
  have x_sub : decide (PySem.W.subIn K (.type "int") (.ref (cC K)) = some false) = true := ex_at cx 11 rfl
  have x_oex_ParseError : (oexB K (He.ga K "ParseError")) = true := ex_at cx 12 rfl
  have x_sa_ParseError : decide (PySem.W.findIn K (.ref (He.ga K "ParseError")) "__setattr__" = some (some (.builtin "object.__setattr__"))) = true := ex_at cx 13 rfl
  have x_eb_ParseError : decide (PySem.W.subIn K (.ref (He.ga K "ParseError")) (.type "BaseException") = some true) = true := ex_at cx 14 rfl
  have x_et_ParseError : decide (PySem.W.typeIn K (.ref (He.ga K "ParseError")) = some (.type "type")) = true := ex_at cx 15 rfl
  have x_ek_ParseError : (PySem.W.keepIn K (.ref (He.ga K "ParseError"))) = true := ex_at cx 16 rfl
  have x_ei_ParseError : decide (PySem.W.findIn K (.ref (He.ga K "ParseError")) "__init__" = some (some (.ref (He.ma K (He.ga K "ParseError") "__init__")))) = true := ex_at cx 17 rfl
  have x_ej_ParseError : decide (PySem.W.typeIn K (.ref (He.ma K (He.ga K "ParseError") "__init__")) = some (.type "function")) = true := ex_at cx 18 rfl
  have x_en_ParseError : decide (PySem.W.findIn K (.ref (He.ga K "ParseError")) "line" = some none) = true := ex_at cx 19 rfl
  have x_ex_ParseError : (xfB K (He.ga K "ParseError")) = true := ex_at cx 20 rfl
  have x_p_pair : (propB K (cC K) "pair") = true := ex_at cx 21 rfl
  have x_w_of : (He5.wrapB K (cC K) "classmethod" "classmethod.__get__" "of") = true := ex_at cx 22 rfl
  have x_f_of : (PySem.W.fnIn K (He5.wf K (cC K) "classmethod" "of")) = true := ex_at cx 23 rfl
  have x_p_text : (propB K (cC K) "text") = true := ex_at cx 24 rfl
  have x_w_read : (He5.wrapB K (cC K) "classmethod" "classmethod.__get__" "read") = true := ex_at cx 25 rfl
  have x_f_read : (PySem.W.fnIn K (He5.wf K (cC K) "classmethod" "read")) = true := ex_at cx 26 rfl
  have B : Blt mg := ⟨He.free_ok X G (c.fact 24 (f := .free "abs") rfl), He.free_ok X G (c.fact 25 (f := .free "all") rfl), He.free_ok X G (c.fact 26 (f := .free "bool") rfl), He.free_ok X G (c.fact 27 (f := .free "int") rfl), He.free_ok X G (c.fact 28 (f := .free "isinstance") rfl), He.free_ok X G (c.fact 29 (f := .free "len") rfl), He.free_ok X G (c.fact 30 (f := .free "max") rfl), He.free_ok X G (c.fact 31 (f := .free "min") rfl), He.free_ok X G (c.fact 32 (f := .free "range") rfl), He.free_ok X G (c.fact 33 (f := .free "str") rfl), He.free_ok X G (c.fact 34 (f := .free "tuple") rfl)⟩
  have Z : Con mg := ⟨He.int_ok X G (c.fact 35 (f := .int "MAX_DIGITS" 300) rfl), He.int_ok X G (c.fact 36 (f := .int "LEAST_LONG" (10 ^ 300)) rfl)⟩
  have T : RatioC K mg (cC K) := ⟨He.cls_ok (c.fact 1 (f := .cls "Ratio") rfl), He.noat_ok (c.fact 3 (f := .noat "Ratio" "_top") rfl), He.noat_ok (c.fact 4 (f := .noat "Ratio" "_bottom") rfl), He.glo_ok X G (c.fact 0 (f := .glo "Ratio") rfl), x_first, of_decide_eq_true x_ne, of_decide_eq_true x_obj, ⟨x_rd, of_decide_eq_true x_ga⟩, of_decide_eq_true x_cl, of_decide_eq_true x_cg, of_decide_eq_true x_ct, of_decide_eq_true x_ki, of_decide_eq_true x_kt, PySem.W.mg_of X G (of_decide_eq_true x_gcd)⟩
  have PE : PEC K mg "ParseError" "line" (He.ga K "ParseError") (He.ma K (He.ga K "ParseError") "__init__") := ⟨⟨oexB_ok x_oex_ParseError, of_decide_eq_true x_sa_ParseError, of_decide_eq_true x_eb_ParseError, of_decide_eq_true x_et_ParseError, x_ek_ParseError⟩, He.glo_ok X G (c.fact 37 (f := .glo "ParseError") rfl), of_decide_eq_true x_ei_ParseError, of_decide_eq_true x_ej_ParseError, of_decide_eq_true x_en_ParseError, xfB_ok x_ex_ParseError, He.exm_ok (c.fact 38 (f := .exm "ParseError" "ParseError" true) rfl)⟩
  obtain ⟨eq_InvalidFraction, ek_InvalidFraction, eb_InvalidFraction, et_InvalidFraction⟩ := He.exc_ok (c.fact 41 (f := .exc "InvalidFraction") rfl)
  have IF : IFC K mg "InvalidFraction" (He.ga K "InvalidFraction") := ⟨eq_InvalidFraction, He.glo_ok X G (c.fact 39 (f := .glo "InvalidFraction") rfl), ek_InvalidFraction, eb_InvalidFraction, et_InvalidFraction, He.exm_ok (c.fact 40 (f := .exm "InvalidFraction" "InvalidFraction" true) rfl)⟩
  have e := hfa.symm.trans (He.glo_ok X G (c.fact 23 (f := .glo "law") rfl))
  cases e
  have b := FunD.bindsA (ps := ["_law_script"]) F_24 fun _ _ _ _ _ _ us hl => match us, hl with | [_], _ => rfl
  refine ⟨fd_24, fun s v => b s [v] rfl, fun base _ _ => ?_⟩
  have C_is_integer : Cal P w K mg base 1 "is_integer" ["value"] spIsInt := ⟨_, _, (ok_is_integer F_0 B Z T PE IF), He.glo_ok X G (c.fact 5 (f := .glo "is_integer") rfl), F_0.kp, (F_0.bindsN (ps := ["value"]) fun _ _ _ _ _ _ us hl => match us, hl with | [_], _ => rfl)⟩
  have C_is_fraction : Cal P w K mg base 2 "is_fraction" ["value"] (spIsFrac K) := ⟨_, _, (ok_is_fraction F_1 B Z T PE IF C_is_integer), He.glo_ok X G (c.fact 6 (f := .glo "is_fraction") rfl), F_1.kp, (F_1.bindsN (ps := ["value"]) fun _ _ _ _ _ _ us hl => match us, hl with | [_], _ => rfl)⟩
  have C_lowest : Cal P w K mg base 1 "lowest" ["top", "bottom"] spLowest := ⟨_, _, (ok_lowest F_2 B Z T PE IF), He.glo_ok X G (c.fact 7 (f := .glo "lowest") rfl), F_2.kp, (F_2.bindsN (ps := ["top", "bottom"]) fun _ _ _ _ _ _ us hl => match us, hl with | [_, _], _ => rfl)⟩
  obtain ⟨ds_3, v_3, b_3⟩ := F_3.binds1 (ps := ["self", "top", "bottom"]) 3 1 (by simp [He5.DefA.dvs, d_Ratio___init__]) rfl fun _ _ _ _ _ _ _ us its hu hi => match us, its, hu, hi with | [_, _, _], [_], _, _ => ⟨_, rfl, rfl⟩
  have C_Ratio_2 : Mkr P w K mg base 2 "Ratio" (cC K) (spInit (cC K)) [] := ⟨_, _, _, _, (ok_Ratio___init__ F_3 B Z T PE IF C_is_integer C_lowest), He.mkr_ok (c.fact 2 (f := .mkr "Ratio") rfl), He.glo_ok X G (c.fact 0 (f := .glo "Ratio") rfl), b_3, v_3⟩
  obtain ⟨ds_2, v_2, b_2⟩ := F_3.binds1 (ps := ["self", "top", "bottom"]) 2 0 (by simp [He5.DefA.dvs, d_Ratio___init__]) rfl fun _ _ _ _ _ _ _ us its hu hi => match us, its, hu, hi with | [_, _], [_], _, _ => ⟨_, rfl, rfl⟩
  have C_Ratio_1 : Mkr P w K mg base 2 "Ratio" (cC K) (spInit (cC K)) [.int 1] := ⟨_, _, _, _, (ok_Ratio___init__ F_3 B Z T PE IF C_is_integer C_lowest), He.mkr_ok (c.fact 2 (f := .mkr "Ratio") rfl), He.glo_ok X G (c.fact 0 (f := .glo "Ratio") rfl), b_2, v_2⟩
  have C_Ratio_pair : Prp P w K mg base 1 (cC K) "pair" (spPair (cC K)) := ⟨_, _, _, (ok_Ratio_pair F_4 B Z T PE IF), propB_ok x_p_pair, (F_4.bindsN (ps := ["self"]) fun _ _ _ _ _ _ us hl => match us, hl with | [_], _ => rfl)⟩
  have C_Ratio_of : Cmt P w K mg base 4 (cC K) "of" (spOf (cC K)) := cmt_of (ok_Ratio_of F_5 B Z T PE IF C_is_fraction C_Ratio_2) (F_5.bindsN (ps := ["cls", "pair"]) fun _ _ _ _ _ _ us hl => match us, hl with | [_, _], _ => rfl) (He5.cmet_of x_w_of x_f_of) T.rd
  have C_text_of : Cal P w K mg base 1 "text_of" ["pair"] spTextOf := ⟨_, _, (ok_text_of F_6 B Z T PE IF), He.glo_ok X G (c.fact 8 (f := .glo "text_of") rfl), F_6.kp, (F_6.bindsN (ps := ["pair"]) fun _ _ _ _ _ _ us hl => match us, hl with | [_], _ => rfl)⟩
  have C_Ratio_text : Prp P w K mg base 3 (cC K) "text" (spText (cC K)) := ⟨_, _, _, (ok_Ratio_text F_7 B Z T PE IF C_Ratio_pair C_text_of), propB_ok x_p_text, (F_7.bindsN (ps := ["self"]) fun _ _ _ _ _ _ us hl => match us, hl with | [_], _ => rfl)⟩
  have C_are_digits : Cal P w K mg base 1 "_are_digits" ["text"] spAreDig := ⟨_, _, (ok_are_digits F_8 B Z T PE IF), He.glo_ok X G (c.fact 9 (f := .glo "_are_digits") rfl), F_8.kp, (F_8.bindsN (ps := ["text"]) fun _ _ _ _ _ _ us hl => match us, hl with | [_], _ => rfl)⟩
  have C_pair_read : Cal P w K mg base 3 "pair_read" ["text"] (spPairRead K) := ⟨_, _, (ok_pair_read F_9 B Z T PE IF C_are_digits C_is_fraction C_text_of), He.glo_ok X G (c.fact 10 (f := .glo "pair_read") rfl), F_9.kp, (F_9.bindsN (ps := ["text"]) fun _ _ _ _ _ _ us hl => match us, hl with | [_], _ => rfl)⟩
  have C_ParseError___init__ : ∃ (fdP : FuncData) (psP : List Str), FnOk P w K mg base CX0 1 (He.ma K (He.ga K "ParseError") "__init__") fdP psP (spPE (He.ga K "ParseError") "line") ∧ Binds K fdP psP [] := ⟨_, _, (ok_ParseError___init__ F_10 B Z T PE IF), (F_10.bindsN (ps := ["self", "line"]) fun _ _ _ _ _ _ us hl => match us, hl with | [_, _], _ => rfl)⟩
  have C_Ratio_read : CmtX P w K mg base 5 (cC K) "read" (spReadX K (cC K) (He.ga K "ParseError")) := cmtX_of (ok_Ratio_read F_11 B Z T PE IF C_pair_read C_ParseError___init__ C_Ratio_2) (F_11.bindsN (ps := ["cls", "text"]) fun _ _ _ _ _ _ us hl => match us, hl with | [_, _], _ => rfl) (He5.cmet_of x_w_read x_f_read) T.rd
  have C_law_got : Cal P w K mg base 7 "_law_got" ["_law_text_here"] (spGot K) := ⟨_, _, (ok_law_got F_12 B Z T PE IF C_Ratio_read C_Ratio_pair), He.glo_ok X G (c.fact 11 (f := .glo "_law_got") rfl), F_12.kp, (F_12.bindsN (ps := ["_law_text_here"]) fun _ _ _ _ _ _ us hl => match us, hl with | [_], _ => rfl)⟩
  have C_law_dice : Cal P w K mg base 1 "_law_dice" ["_law_script", "_law_spot"] (spDice K) := ⟨_, _, (ok_law_dice F_13 B Z T PE IF), He.glo_ok X G (c.fact 12 (f := .glo "_law_dice") rfl), F_13.kp, (F_13.bindsN (ps := ["_law_script", "_law_spot"]) fun _ _ _ _ _ _ us hl => match us, hl with | [_, _], _ => rfl)⟩
  have C_law_roll : Cal P w K mg base 1 "_law_roll" ["_law_dice_here", "_law_total"] spRoll := ⟨_, _, (ok_law_roll F_14 B Z T PE IF), He.glo_ok X G (c.fact 13 (f := .glo "_law_roll") rfl), F_14.kp, (F_14.bindsN (ps := ["_law_dice_here", "_law_total"]) fun _ _ _ _ _ _ us hl => match us, hl with | [_, _], _ => rfl)⟩
  have C_law_pick : Cal P w K mg base 2 "_law_pick" ["_law_dice_here", "_law_items"] (spPick K) := ⟨_, _, (ok_law_pick F_15 B Z T PE IF C_law_roll), He.glo_ok X G (c.fact 14 (f := .glo "_law_pick") rfl), F_15.kp, (F_15.bindsN (ps := ["_law_dice_here", "_law_items"]) fun _ _ _ _ _ _ us hl => match us, hl with | [_, _], _ => rfl)⟩
  have C_law_ratio : Cal P w K mg base 1 "_law_ratio" ["_law_top", "_law_bottom"] spLRatio := ⟨_, _, (ok_law_ratio F_16 B Z T PE IF), He.glo_ok X G (c.fact 15 (f := .glo "_law_ratio") rfl), F_16.kp, (F_16.bindsN (ps := ["_law_top", "_law_bottom"]) fun _ _ _ _ _ _ us hl => match us, hl with | [_, _], _ => rfl)⟩
  have C_law_fraction : Cal P w K mg base 3 "_law_fraction" ["_law_dice_here"] spLFrac := ⟨_, _, (ok_law_fraction F_17 B Z T PE IF C_law_roll C_law_pick C_law_ratio), He.glo_ok X G (c.fact 16 (f := .glo "_law_fraction") rfl), F_17.kp, (F_17.bindsN (ps := ["_law_dice_here"]) fun _ _ _ _ _ _ us hl => match us, hl with | [_], _ => rfl)⟩
  have C_law_text : Cal P w K mg base 1 "_law_text" ["_law_pair"] (spLText K) := ⟨_, _, (ok_law_text F_18 B Z T PE IF), He.glo_ok X G (c.fact 17 (f := .glo "_law_text") rfl), F_18.kp, (F_18.bindsN (ps := ["_law_pair"]) fun _ _ _ _ _ _ us hl => match us, hl with | [_], _ => rfl)⟩
  have C_law_digits : Cal P w K mg base 1 "_law_digits" ["_law_text_here"] spLDig := ⟨_, _, (ok_law_digits F_19 B Z T PE IF), He.glo_ok X G (c.fact 18 (f := .glo "_law_digits") rfl), F_19.kp, (F_19.bindsN (ps := ["_law_text_here"]) fun _ _ _ _ _ _ us hl => match us, hl with | [_], _ => rfl)⟩
  have C_law_bent : Cal P w K mg base 3 "_law_bent" ["_law_dice_here", "_law_text_here"] (spBent K) := ⟨_, _, (ok_law_bent F_20 B Z T PE IF C_law_roll C_law_pick), He.glo_ok X G (c.fact 19 (f := .glo "_law_bent") rfl), F_20.kp, (F_20.bindsN (ps := ["_law_dice_here", "_law_text_here"]) fun _ _ _ _ _ _ us hl => match us, hl with | [_, _], _ => rfl)⟩
  have C_law_due : Cal P w K mg base 3 "_law_due" ["_law_text_here"] (spLDue K) := ⟨_, _, (ok_law_due F_21 B Z T PE IF C_law_digits C_law_ratio), He.glo_ok X G (c.fact 20 (f := .glo "_law_due") rfl), F_21.kp, (F_21.bindsN (ps := ["_law_text_here"]) fun _ _ _ _ _ _ us hl => match us, hl with | [_], _ => rfl)⟩
  have C_law_right : Cal P w K mg base 8 "_law_right" ["_law_dice_here"] spLRight := ⟨_, _, (ok_law_right F_22 B Z T PE IF C_law_fraction C_law_roll C_law_ratio C_Ratio_of C_Ratio_text C_law_text C_law_got C_law_bent C_law_due), He.glo_ok X G (c.fact 21 (f := .glo "_law_right") rfl), F_22.kp, (F_22.bindsN (ps := ["_law_dice_here"]) fun _ _ _ _ _ _ us hl => match us, hl with | [_], _ => rfl)⟩
  have C_is_integerG : Cal P w K mg base 1 "is_integer" ["value"] spIsIntG := ⟨_, _, (ok_is_integerG F_0 B Z T PE IF), He.glo_ok X G (c.fact 5 (f := .glo "is_integer") rfl), F_0.kp, (F_0.bindsN (ps := ["value"]) fun _ _ _ _ _ _ us hl => match us, hl with | [_], _ => rfl)⟩
  have C_is_fractionX : Cal P w K mg base 2 "is_fraction" ["value"] (spNoFr K) := ⟨_, _, (ok_is_fractionX F_1 B Z T PE IF C_is_integerG), He.glo_ok X G (c.fact 6 (f := .glo "is_fraction") rfl), F_1.kp, (F_1.bindsN (ps := ["value"]) fun _ _ _ _ _ _ us hl => match us, hl with | [_], _ => rfl)⟩
  have C_Ratio_ofX : CmtX P w K mg base 4 (cC K) "of" (spOfX K (He.ga K "InvalidFraction")) := cmtX_of (ok_Ratio_ofX F_5 B Z T PE IF C_is_fractionX C_Ratio_2) (F_5.bindsN (ps := ["cls", "pair"]) fun _ _ _ _ _ _ us hl => match us, hl with | [_, _], _ => rfl) (He5.cmet_of x_w_of x_f_of) T.rd
  have C_law_is_refused : Cal P w K mg base 7 "_law_is_refused" ["_law_pair"] (spRef K) := ⟨_, _, (ok_law_is_refused F_23 B Z T PE IF C_Ratio_ofX C_Ratio_pair), He.glo_ok X G (c.fact 22 (f := .glo "_law_is_refused") rfl), F_23.kp, (F_23.bindsN (ps := ["_law_pair"]) fun _ _ _ _ _ _ us hl => match us, hl with | [_], _ => rfl)⟩
  exact (ok_law F_24 B Z T PE IF C_law_dice C_law_right C_law_got C_law_is_refused)
end K06
open PySem PySem.W PySem.Calls PyProof.Rows
set_option maxHeartbeats 0 in
theorem PySem.Challenge.cw_wonbyturns_k06_whole_texts_of_fractions_holds : PySem.Challenge.rw_wonbyturns_k06_whole_texts_of_fractions.Holds := by
  w_on; o_law
  refine HandSHeadRun.head_imp (r := OpenLaw.row PySem.Challenge.rw_wonbyturns_k06_whole_texts_of_fractions) (q := view (OpenLaw.row PySem.Challenge.rw_wonbyturns_k06_whole_texts_of_fractions).prog [0, 36]) (H := K06.hk) (ob := K06.ob) (M := 20000) (loose := K06.loose) (d := HandSHeadRun.topDef (OpenLaw.row PySem.Challenge.rw_wonbyturns_k06_whole_texts_of_fractions).prog 36) (kwd := []) K06.ob_eq K06.run
    (by kernel_rfl) (by kernel_rfl) (by kernel_rfl) (by rfl) (by first | assumption | decide +kernel) (by decide +kernel) ⟨rfl, rfl, rfl, rfl, rfl, by decide +kernel⟩ ?hw ?hc
  case hw => w_witness2
  case hc =>
    refine L2.walk_ofE (l := PySem.Challenge.rw_wonbyturns_k06_whole_texts_of_fractions) (n := 63) (k := 9) (x := "_law_script") (CX := L2.CX0) rfl (by decide) (by kernel_rfl) ⟨rfl, by decide, by decide⟩ ?F (fun _ _ _ _ z => z)
    intro w mg fa h Y G hmg0
    obtain ⟨K, KX, c, cx⟩ := Y
    have hmg : mg ("law" : PySem.Str) = some (.ref fa) := by
      have e : (HandSHeadRun.topDef (OpenLaw.row PySem.Challenge.rw_wonbyturns_k06_whole_texts_of_fractions).prog 36).name = ("law" : PySem.Str) := by kernel_rfl
      rw [← e]
      exact hmg0
    obtain ⟨fd, hb, hF⟩ := K06.facts (P := (PySem.Challenge.rw_wonbyturns_k06_whole_texts_of_fractions).prog) (w := w) KX G hmg c cx
    exact ⟨K, fd, _, KX, hb, fun H a ns hl _ hS => ⟨a, ns, rfl, hS, hl, fun _ => rfl⟩, hF⟩
