import PyProof.Rows.All
import Wide.All
import OpenK.AllK
import Wide.FinOn
import KE.Datum
import KE.IntBitsLaws
import HandS.ForMost
import HandS.Exc
import HandS.TryOnly
import HandS.ExcOwn
import HandS.WordsExc
import HandS.Evl
import HandS.IsInst
import HandS.Wide
import HandS.Flow
import HandS.DictComp
import HandS.Codes
import HandS.ExcIs
import HandS.ExcCtx
import HandS.HotCalls
import HandS.SetFor
import HandS.EndBits
import HandS.TupAny
import HandS.WideBits
import HandS.TupLe
import HandS.NoneIn
import HandS.CallSlots
import HandS.TryMany
import PySem.Challenge.RW_movehouse_k03_a_caller
set_option Elab.async false
set_option linter.all false
set_option maxRecDepth 100000
set_option maxHeartbeats 4000000

/-! Readings over data: what an expression's reading gives, as plain data; what a body's reading hands back. -/
namespace Fx
open PySem L2
open Evl (Ex)

/-! ### data in the heap -/
section
variable {K : PySem.W.Frag} {H H' : Hp}
mutual
theorem Dp.mono (e : Ex H H') : ∀ (d : PyData) (v : V), Dp K H v d → Dp K H' v d
  | .none, _, h => by cases h; exact .non
  | .bool b, _, h => by cases h; exact .bl b
  | .int i, _, h => by cases h; exact .int i
  | .str x, _, h => by cases h; exact .str x
  | .list ds, _, h => by
    cases h with
    | lst s a => exact .lst (Evl.ex_l e s) (DpAll.mono e ds _ a)
  | .tuple ds, _, h => by
    cases h with
    | tup s a => exact .tup (Evl.ex_t e s) (DpAll.mono e ds _ a)
  | .dict _, _, h => nomatch h
theorem DpAll.mono (e : Ex H H') : ∀ (ds : List PyData) (vs : List V), DpAll K H vs ds → DpAll K H' vs ds
  | [], _, h => by cases h; exact .nil
  | d :: ds, _, h => by
    cases h with
    | cons a b => exact .cons (Dp.mono e d _ a) (DpAll.mono e ds _ b)
end
theorem DpAll.length : ∀ {vs : List V} {ds : List PyData}, DpAll K H vs ds → vs.length = ds.length
  | _, _, .nil => rfl
  | _, _, .cons _ b => congrArg (· + 1) (DpAll.length b)
theorem DpAll.get : ∀ {vs : List V} {ds : List PyData}, DpAll K H vs ds → ∀ {i : Nat} {d : PyData}, ds[i]? = some d → ∃ v, vs[i]? = some v ∧ Dp K H v d
  | _, _, .nil, i, d, h => by simp at h
  | _, _, .cons a b, 0, d, h => by
    simp at h; subst h
    exact ⟨_, rfl, a⟩
  | _, _, .cons a b, i + 1, d, h => by
    obtain ⟨v, h1, h2⟩ := DpAll.get b (i := i) (d := d) (by simpa using h)
    exact ⟨v, by simpa using h1, h2⟩
theorem DpAll.atI {vs : List V} {ds : List PyData} (a : DpAll K H vs ds) {i : Int} {d : PyData} (h : L2.atI ds i = some d) : ∃ v, L2.atI vs i = some v ∧ Dp K H v d := by
  unfold L2.atI at h ⊢
  rw [DpAll.length a]
  cases e : ixN ds.length i with
  | none => rw [e] at h; cases h
  | some j =>
    rw [e] at h
    exact DpAll.get a h
theorem DpAll.append : ∀ {vs us : List V} {ds es : List PyData}, DpAll K H vs ds → DpAll K H us es → DpAll K H (vs ++ us) (ds ++ es)
  | _, _, _, _, .nil, b => b
  | _, _, _, _, .cons a r, b => .cons a (DpAll.append r b)
theorem DpAll.one {v : V} {d : PyData} (h : Dp K H v d) : DpAll K H [v] [d] := .cons h .nil
theorem DpAll.snoc_of {vs : List V} {ds : List PyData} {v : V} {d : PyData} (a : DpAll K H vs ds) (h : Dp K H v d) : DpAll K H (vs ++ [v]) (ds ++ [d]) := DpAll.append a (DpAll.one h)
theorem DpAll.take : ∀ {vs : List V} {ds : List PyData} (n : Nat), DpAll K H vs ds → DpAll K H (vs.take n) (ds.take n)
  | _, _, 0, _ => .nil
  | _, _, _ + 1, .nil => .nil
  | _, _, n + 1, .cons a r => .cons a (DpAll.take n r)
theorem DpAll.drop : ∀ {vs : List V} {ds : List PyData} (n : Nat), DpAll K H vs ds → DpAll K H (vs.drop n) (ds.drop n)
  | _, _, 0, r => r
  | _, _, _ + 1, .nil => .nil
  | _, _, n + 1, .cons a r => DpAll.drop n r
theorem DpAll.ints : ∀ (ns : List Int), DpAll K H (ns.map V.int) (ns.map PyData.int)
  | [] => .nil
  | n :: r => .cons (.int n) (DpAll.ints r)
theorem DpAll.strs : ∀ (ns : List Str), DpAll K H (ns.map V.str) (ns.map PyData.str)
  | [] => .nil
  | n :: r => .cons (.str n) (DpAll.strs r)
theorem DpAll.bls : ∀ (ns : List Bool), DpAll K H (ns.map V.bl) (ns.map PyData.bool)
  | [] => .nil
  | n :: r => .cons (.bl n) (DpAll.bls r)
theorem DpAll.strs_inv : ∀ {ns : List Str} {vs : List V}, DpAll K H vs (ns.map PyData.str) → vs = ns.map V.str
  | [], _, .nil => rfl
  | n :: r, _, .cons a b => by cases a; rw [DpAll.strs_inv b]; rfl
theorem DpAll.bls_inv : ∀ {ns : List Bool} {vs : List V}, DpAll K H vs (ns.map PyData.bool) → vs = ns.map V.bl
  | [], _, .nil => rfl
  | n :: r, _, .cons a b => by cases a; rw [DpAll.bls_inv b]; rfl
theorem DpAll.ints_inv : ∀ {ns : List Int} {vs : List V}, DpAll K H vs (ns.map PyData.int) → vs = ns.map V.int
  | [], _, .nil => rfl
  | n :: r, _, .cons a b => by cases a; rw [DpAll.ints_inv b]; rfl
end

/-! ### data without lists: it stays whatever happens to lists, dicts, instances -/
mutual
def noList : PyData → Bool
  | .none => true
  | .bool _ => true
  | .int _ => true
  | .str _ => true
  | .tuple ds => noLists ds
  | .list _ => false
  | .dict _ => false
def noLists : List PyData → Bool
  | [] => true
  | d :: ds => noList d && noLists ds
end
/-- tuples are kept -/
def KeepT (K : PySem.W.Frag) (H H' : Hp) : Prop := ∀ a xs, SqT K H a xs → SqT K H' a xs
section
variable {K : PySem.W.Frag} {H H' : Hp}
mutual
theorem Dp.keepT (k : KeepT K H H') : ∀ (d : PyData) (v : V), noList d = true → Dp K H v d → Dp K H' v d
  | .none, _, _, h => by cases h; exact .non
  | .bool b, _, _, h => by cases h; exact .bl b
  | .int i, _, _, h => by cases h; exact .int i
  | .str x, _, _, h => by cases h; exact .str x
  | .list ds, _, n, _ => by simp [noList] at n
  | .tuple ds, _, n, h => by
    cases h with
    | tup s a => exact .tup (k _ _ s) (DpAll.keepT k ds _ (by simpa [noList] using n) a)
  | .dict _, _, _, h => nomatch h
theorem DpAll.keepT (k : KeepT K H H') : ∀ (ds : List PyData) (vs : List V), noLists ds = true → DpAll K H vs ds → DpAll K H' vs ds
  | [], _, _, h => by cases h; exact .nil
  | d :: ds, _, n, h => by
    simp only [noLists, Bool.and_eq_true] at n
    cases h with
    | cons a b => exact .cons (Dp.keepT k d _ n.1 a) (DpAll.keepT k ds _ n.2 b)
end
theorem noLists_append : ∀ (a b : List PyData), noLists (a ++ b) = (noLists a && noLists b)
  | [], b => by simp [noLists]
  | x :: a, b => by simp [noLists, noLists_append a b, Bool.and_assoc]
theorem noLists_map {α : Type} {f : α → PyData} (h : ∀ a, noList (f a) = true) : ∀ l : List α, noLists (l.map f) = true
  | [] => rfl
  | a :: l => by simp [noLists, h a, noLists_map h l]
theorem noLists_of {l : List PyData} (h : ∀ d ∈ l, noList d = true) : noLists l = true := by
  induction l with
  | nil => rfl
  | cons a l ih => simp [noLists, h a (by simp), ih fun d hd => h d (by simp [hd])]
theorem noLists_mem : ∀ {l : List PyData} {d : PyData}, noLists l = true → d ∈ l → noList d = true
  | a :: l, d, h, m => by
    simp only [noLists, Bool.and_eq_true] at h
    rcases List.mem_cons.mp m with e | m
    · rw [e]; exact h.1
    · exact noLists_mem h.2 m
theorem Ex.keepT (e : Ex H H') : KeepT K H H' := fun _ _ h => Evl.ex_t e h
theorem KeepT.trans {H2 : Hp} (a : KeepT K H H') (b : KeepT K H' H2) : KeepT K H H2 := fun x xs h => b x xs (a x xs h)
/-- what may be written: no tuple, nothing locked -/
theorem keepT_upd {p : Addr} {o u : HO} (h : H p = some o) (hm : L2.Mut (some o)) : KeepT K H (upd H p u) := fun a xs hs => by
  rcases hs with (h1 | ⟨ob, h1⟩) | h1
  · have : a ≠ p := fun z => by subst z; rw [h] at h1; cases h1; exact hm
    exact .inl (.inl (by rw [upd_ne this]; exact h1))
  · have : a ≠ p := fun z => by subst z; rw [h] at h1; cases h1; exact hm
    exact .inl (.inr ⟨ob, by rw [upd_ne this]; exact h1⟩)
  · exact .inr h1
end


end Fx

/-! Operations, comparisons, places, calls of built-ins over data; what readings give. -/
namespace Fx
open PySem L2
open Evl (Ex)

theorem Ex.upd {H : Hp} {p : Addr} {o : HO} (h : H p = none) : Ex H (upd H p o) := Evl.Ex.new h

/-! ### two operands -/
inductive Bin : Operator → PyData → PyData → PyData → Prop where
  | add (i j : Int) : Bin .Add (.int i) (.int j) (.int (i + j))
  | sub (i j : Int) : Bin .Sub (.int i) (.int j) (.int (i - j))
  | mul (i j : Int) (h : CMul i j ∨ CMulX i j) : Bin .Mult (.int i) (.int j) (.int (i * j))
  | fdiv (i j : Int) (h : 0 < j ∧ j < 1073741824) : Bin .FloorDiv (.int i) (.int j) (.int (i / j))
  | mod (i j : Int) (h : 0 < j) : Bin .Mod (.int i) (.int j) (.int (i % j))
  | pow (i j : Int) (h : CPow i j) : Bin .Pow (.int i) (.int j) (.int (i ^ j.toNat))
  | cat (x y : Str) (h : x.length + y.length ≤ sizeLine) : Bin .Add (.str x) (.str y) (.str (x ++ y))
  | catT (xs ys : List PyData) (h : xs.length + ys.length ≤ sizeLine) : Bin .Add (.tuple xs) (.tuple ys) (.tuple (xs ++ ys))
def rBin (K : PySem.W.Frag) (op : Operator) : R2 := fun x y H Q => ∃ d e r, Dp K H x d ∧ Dp K H y e ∧ Bin op d e r ∧ ∀ v H', Ex H H' → Dp K H' v r → Q v H'
section
variable {X : Cx}
theorem op_bin (op : Operator) : OpR X (binaryOp op) (rBin X.K op) := by
  intro pins s σ H x y v u Q I rx ry h
  obtain ⟨d, e, r, hd, he, b, q⟩ := h
  cases b with
  | add i j => cases hd; cases he; exact op_add pins s σ H _ _ v u Q I rx ry ⟨i, j, rfl, rfl, q _ _ (Evl.Ex.refl H) (.int _)⟩
  | sub i j => cases hd; cases he; exact op_sub pins s σ H _ _ v u Q I rx ry ⟨i, j, rfl, rfl, q _ _ (Evl.Ex.refl H) (.int _)⟩
  | mul i j hc => cases hd; cases he; rcases hc with hc | hc; exact op_mul pins s σ H _ _ v u Q I rx ry ⟨i, j, rfl, rfl, hc, q _ _ (Evl.Ex.refl H) (.int _)⟩; exact op_mulX pins s σ H _ _ v u Q I rx ry ⟨i, j, rfl, rfl, hc, q _ _ (Evl.Ex.refl H) (.int _)⟩
  | fdiv i j hc => cases hd; cases he; exact op_fdiv pins s σ H _ _ v u Q I rx ry ⟨i, j, rfl, rfl, hc, q _ _ (Evl.Ex.refl H) (.int _)⟩
  | mod i j hc => cases hd; cases he; exact op_mod pins s σ H _ _ v u Q I rx ry ⟨i, j, rfl, rfl, hc, q _ _ (Evl.Ex.refl H) (.int _)⟩
  | pow i j hc => cases hd; cases he; exact op_pow pins s σ H _ _ v u Q I rx ry ⟨i, j, rfl, rfl, hc, q _ _ (Evl.Ex.refl H) (.int _)⟩
  | cat a b hc => cases hd; cases he; exact op_add_str pins s σ H _ _ v u Q I rx ry ⟨a, b, rfl, rfl, hc, q _ _ (Evl.Ex.refl H) (.str _)⟩
  | catT xs ys hc =>
    cases hd with
    | tup s1 a1 =>
      cases he with
      | tup s2 a2 =>
        have n1 := DpAll.length a1
        have n2 := DpAll.length a2
        refine op_catA pins s σ H _ _ v u Q I rx ry ⟨_, _, _, _, rfl, rfl, s1, s2, by omega, fun z => ?_, fun _ z => ?_, fun _ _ p hp => ?_⟩
        · subst z
          cases xs with
          | cons => cases n1
          | nil => exact q _ _ (Evl.Ex.refl H) (.tup s2 (by simpa using a2))
        · subst z
          cases ys with
          | cons => cases n2
          | nil => exact q _ _ (Evl.Ex.refl H) (.tup s1 (by simpa using a1))
        · exact q _ _ (Ex.upd hp) (.tup (SqT.of upd_same) (DpAll.mono (Ex.upd hp) _ _ (DpAll.append a1 a2)))
end

/-! ### comparisons -/
inductive Cmp : CmpOp → PyData → PyData → Bool → Prop where
  | lt (i j : Int) : Cmp .Lt (.int i) (.int j) (decide (i < j))
  | le (i j : Int) : Cmp .LtE (.int i) (.int j) (decide (i ≤ j))
  | gt (i j : Int) : Cmp .Gt (.int i) (.int j) (decide (j < i))
  | ge (i j : Int) : Cmp .GtE (.int i) (.int j) (decide (j ≤ i))
  | eqI (i j : Int) : Cmp .Eq (.int i) (.int j) (decide (i = j))
  | neI (i j : Int) : Cmp .NotEq (.int i) (.int j) (!decide (i = j))
  | eqS (i j : Str) : Cmp .Eq (.str i) (.str j) (decide (i = j))
  | neS (i j : Str) : Cmp .NotEq (.str i) (.str j) (!decide (i = j))
  | eqB (i j : Bool) : Cmp .Eq (.bool i) (.bool j) (decide (i = j))
  | neB (i j : Bool) : Cmp .NotEq (.bool i) (.bool j) (!decide (i = j))
  | eq (d e : PyData) (h : SeqAt.shaped d = true ∧ SeqAt.shaped e = true) : Cmp .Eq d e (PyData.eqv d e)
  | ne (d e : PyData) (h : SeqAt.shaped d = true ∧ SeqAt.shaped e = true) : Cmp .NotEq d e (!PyData.eqv d e)
  | isN (d : PyData) (b : Bool) (h : b = true ↔ d = .none) : Cmp .Is d .none b
  | notN (d : PyData) (b : Bool) (h : b = true ↔ d ≠ .none) : Cmp .IsNot d .none b
  | isB (a b : Bool) : Cmp .Is (.bool a) (.bool b) (decide (a = b))
  | notB (a b : Bool) : Cmp .IsNot (.bool a) (.bool b) (!decide (a = b))
  | ltS (i j : Str) : Cmp .Lt (.str i) (.str j) (decide (i.cps.toList < j.cps.toList))
  | leS (i j : Str) : Cmp .LtE (.str i) (.str j) (!decide (j.cps.toList < i.cps.toList))
def rCmp (K : PySem.W.Frag) (op : CmpOp) : R2 := fun x y H Q => ∃ d e b, Dp K H x d ∧ Dp K H y e ∧ Cmp op d e b ∧ Q (.bl b) H
theorem Dp.non_iff {K : PySem.W.Frag} {H : Hp} {x : V} {d : PyData} (h : Dp K H x d) : x = .non ↔ d = .none := by
  cases h <;> simp
section
variable {X : Cx}
theorem op_cmp (op : CmpOp) (hu : X.A.units + 64 < cLine) : OpR X (compareOp op) (rCmp X.K op) := by
  intro pins s σ H x y v u Q I rx ry h
  obtain ⟨d, e, b, hd, he, c, q⟩ := h
  cases c with
  | lt i j => cases hd; cases he; exact op_lt pins s σ H _ _ v u Q I rx ry ⟨i, j, rfl, rfl, q⟩
  | le i j => cases hd; cases he; exact op_le pins s σ H _ _ v u Q I rx ry ⟨i, j, rfl, rfl, q⟩
  | gt i j => cases hd; cases he; exact op_gt pins s σ H _ _ v u Q I rx ry ⟨i, j, rfl, rfl, q⟩
  | ge i j => cases hd; cases he; exact op_ge pins s σ H _ _ v u Q I rx ry ⟨i, j, rfl, rfl, q⟩
  | eqI i j => cases hd; cases he; exact op_eq pins s σ H _ _ v u Q I rx ry ⟨rfl, by simpa using q⟩
  | neI i j => cases hd; cases he; exact op_ne pins s σ H _ _ v u Q I rx ry ⟨rfl, by simpa using q⟩
  | eqS i j => cases hd; cases he; exact op_eq pins s σ H _ _ v u Q I rx ry ⟨rfl, by simpa using q⟩
  | neS i j => cases hd; cases he; exact op_ne pins s σ H _ _ v u Q I rx ry ⟨rfl, by simpa using q⟩
  | eqB i j => cases hd; cases he; exact op_eq pins s σ H _ _ v u Q I rx ry ⟨rfl, by simpa using q⟩
  | neB i j => cases hd; cases he; exact op_ne pins s σ H _ _ v u Q I rx ry ⟨rfl, by simpa using q⟩
  | eq _ _ hc => exact op_eqD hu pins s σ H _ _ v u Q I rx ry ⟨d, e, hd, he, hc.1, hc.2, q⟩
  | ne _ _ hc => exact op_neD hu pins s σ H _ _ v u Q I rx ry ⟨d, e, hd, he, hc.1, hc.2, q⟩
  | isN _ _ hb =>
    cases he
    refine op_isN pins s σ H _ _ v u Q I rx ry ⟨rfl, ?_⟩
    have : decide (x = V.non) = b := by
      rw [Bool.eq_iff_iff, decide_eq_true_iff, Dp.non_iff hd, hb]
    rw [this]; exact q
  | notN _ _ hb =>
    cases he
    refine op_notN pins s σ H _ _ v u Q I rx ry ⟨rfl, ?_⟩
    have : (!decide (x = V.non)) = b := by
      rw [Bool.eq_iff_iff, Bool.not_eq_true', decide_eq_false_iff_not, Dp.non_iff hd, hb]
    rw [this]; exact q
  | isB a b => cases hd; cases he; exact op_is_bl pins s σ H _ _ v u Q I rx ry ⟨a, b, rfl, rfl, q⟩
  | notB a b => cases hd; cases he; exact op_isnot_bl pins s σ H _ _ v u Q I rx ry ⟨a, b, rfl, rfl, q⟩
  | ltS i j => cases hd; cases he; exact op_lt_str pins s σ H _ _ v u Q I rx ry ⟨i, j, rfl, rfl, q⟩
  | leS i j => cases hd; cases he; exact op_le_str pins s σ H _ _ v u Q I rx ry ⟨i, j, rfl, rfl, q⟩
end

/-! ### a place: xs[i], t[i], z[i] -/
inductive Idx : PyData → PyData → PyData → Prop where
  | lst (ds : List PyData) (i : Int) (r : PyData) (h : atI ds i = some r) : Idx (.list ds) (.int i) r
  | tup (ds : List PyData) (i : Int) (r : PyData) (h : atI ds i = some r) : Idx (.tuple ds) (.int i) r
  | str (z : Str) (i : Int) (c : Nat) (h : z.length ≤ sizeLine ∧ atI z.cps.toList i = some c) : Idx (.str z) (.int i) (.str ⟨#[c]⟩)
def rIdx (K : PySem.W.Frag) : R2 := fun x y H Q => ∃ d e r, Dp K H x d ∧ Dp K H y e ∧ Idx d e r ∧ ∀ v, Dp K H v r → (∀ B, Evl.Ex B H → Dp K B x d → Dp K B v r) → Q v H
theorem ix_idx {X : Cx} : IxR X (rIdx X.K) := by
  intro value slice pins s σ H x y v u Q I rx ry h hs
  obtain ⟨d, e, r, hd, he, b, q⟩ := h
  cases b with
  | lst ds i r ha =>
    cases hd with
    | @lst a xs _ s1 a1 =>
      cases he
      obtain ⟨w, h1, h2⟩ := DpAll.atI a1 ha
      refine ix_list value slice pins s σ H _ _ v u Q I rx ry ⟨_, _, i, w, rfl, rfl, s1, h1, q w h2 fun B t hB => ?_⟩ hs
      cases hB with
      | @lst _ ys _ s2 a2 =>
        have : xs = ys := I.list_inj s1 (Evl.ex_l t s2)
        subst this
        obtain ⟨w', h3, h4⟩ := DpAll.atI a2 ha
        rw [h1] at h3; cases h3
        exact h4
  | tup ds i r ha =>
    cases hd with
    | @tup a xs _ s1 a1 =>
      cases he
      obtain ⟨w, h1, h2⟩ := DpAll.atI a1 ha
      refine ix_tup value slice pins s σ H _ _ v u Q I rx ry ⟨_, _, i, w, rfl, rfl, s1, h1, q w h2 fun B t hB => ?_⟩ hs
      cases hB with
      | @tup _ ys _ s2 a2 =>
        have : xs = ys := I.tuple_inj s1 (Evl.ex_t t s2)
        subst this
        obtain ⟨w', h3, h4⟩ := DpAll.atI a2 ha
        rw [h1] at h3; cases h3
        exact h4
  | str z i c hc =>
    cases hd
    cases he
    exact ix_str value slice pins s σ H _ _ v u Q I rx ry ⟨z, i, c, rfl, rfl, hc.1, hc.2, q _ (.str _) fun _ _ _ => .str _⟩ hs

/-! ### a slice: z[lo:hi], xs[lo:hi], t[lo:hi] -/
def rSlc (K : PySem.W.Frag) : V → Option Int → Option Int → Hp → VK → Prop := fun x lo hi H Q => rSlS x lo hi H Q ∨ rSlL K x lo hi H Q ∨ rSlA K x lo hi H Q
theorem sl_slc {X : Cx} : SlR X (rSlc X.K) := by
  intro pins s σ H x v vl vu lo hi sl Q I rx hs pl pu h
  rcases h with h | h | h
  · exact sl_str pins s σ H x v vl vu lo hi sl Q I rx hs pl pu h
  · exact sl_list pins s σ H x v vl vu lo hi sl Q I rx hs pl pu h
  · exact sl_tupA pins s σ H x v vl vu lo hi sl Q I rx hs pl pu h

/-! ### built-ins by values -/
inductive Len : PyData → Int → Prop where
  | lst (ds : List PyData) : Len (.list ds) ds.length
  | tup (ds : List PyData) : Len (.tuple ds) ds.length
  | str (z : Str) (h : z.length ≤ sizeLine) : Len (.str z) z.length
def rLen (K : PySem.W.Frag) : List V → Hp → VK → Prop := fun xs H Q => ∃ x d n, xs = [x] ∧ Dp K H x d ∧ Len d n ∧ Q (.int n) H
theorem call_lenU {X : Cx} : CallR X (.builtin "len") (rLen X.K) := by
  intro pins s σ H xs us Q I r h
  obtain ⟨x, d, n, rfl, hd, l, q⟩ := h
  cases l with
  | lst ds =>
    cases hd with
    | @lst a ys _ s1 a1 => exact call_len_seq pins s σ H _ us Q I r ⟨a, ys, rfl, .inl s1, by rw [DpAll.length a1]; exact q⟩
  | tup ds =>
    cases hd with
    | @tup a ys _ s1 a1 => exact call_len_seq pins s σ H _ us Q I r ⟨a, ys, rfl, .inr s1, by rw [DpAll.length a1]; exact q⟩
  | str z hz =>
    cases hd
    exact call_len_str pins s σ H _ us Q I r ⟨z, rfl, hz, q⟩
/-- the built-in class of a value -/
inductive Kind : PyData → String → Prop where
  | non : Kind .none "NoneType"
  | bl (b : Bool) : Kind (.bool b) "bool"
  | int (i : Int) : Kind (.int i) "int"
  | str (x : Str) : Kind (.str x) "str"
  | lst (ds : List PyData) : Kind (.list ds) "list"
  | tup (ds : List PyData) : Kind (.tuple ds) "tuple"
theorem Kind.ty {K : PySem.W.Frag} {H : Hp} {x : V} {d : PyData} {n : String} (hd : Dp K H x d) (k : Kind d n) : TyX K H x (.type n) := by
  cases k with
  | non => cases hd; exact .base .non
  | bl b => cases hd; exact .base (.bl b)
  | int i => cases hd; exact .base (.int i)
  | str x => cases hd; exact .base (.str x)
  | lst ds =>
    cases hd with
    | lst s1 a1 =>
      rcases s1 with (h | ⟨o, h⟩) | ⟨o, its, n, h, c, _⟩
      · exact .base (.lst h)
      · exact .base (.frz h)
      · exact .kList h c
  | tup ds =>
    cases hd with
    | tup s1 a1 =>
      rcases s1 with (h | ⟨o, h⟩) | ⟨o, its, n, h, c, _⟩
      · exact .base (.tup h)
      · exact .fTuple h
      · exact .kTuple h c
/-- isinstance(x, T), T a built-in class -/
def rIsiB (K : PySem.W.Frag) : List V → Hp → VK → Prop := fun xs H Q => ∃ x d n m b, xs = [x, .ty m] ∧ Dp K H x d ∧ Kind d n ∧ kitB n m = some b ∧ Q (.bl b) H
theorem call_isiB {X : Cx} : CallR X (.builtin "isinstance") (rIsiB X.K) := by
  intro pins s σ H xs us Q I r h
  obtain ⟨x, d, n, m, b, rfl, hd, k, e, q⟩ := h
  exact call_isi pins s σ H _ us Q I r ⟨x, _, _, _, b, rfl, .ty m, k.ty hd, kit_ty e, q⟩
/-- isinstance(x, (T1, T2)) -/
def rIsi2 (K : PySem.W.Frag) : List V → Hp → VK → Prop := fun xs H Q => ∃ x d n tp m1 m2 b1 b2, xs = [x, .ref tp] ∧ H tp = some (.tup [.ty m1, .ty m2]) ∧ Dp K H x d ∧ Kind d n ∧ kitB n m1 = some b1 ∧ kitB n m2 = some b2 ∧ Q (.bl (b1 || b2)) H
theorem call_isi2 {X : Cx} : CallR X (.builtin "isinstance") (rIsi2 X.K) := by
  intro pins s σ H xs us Q I r h
  obtain ⟨x, d, n, tp, m1, m2, b1, b2, rfl, ht, hd, k, e1, e2, q⟩ := h
  refine call_isiT pins s σ H _ us Q I r ⟨x, tp, _, _, _, b1 || b2, rfl, ht, .cons (.ty m1) (.cons (.ty m2) .nil), k.ty hd, ?_, q⟩
  refine kitAny_cons (b := b1) (kit_ty e1) (fun h1 => ?_) (fun h1 => by rw [h1]; rfl)
  refine kitAny_cons (b := b2) (kit_ty e2) (fun h2 => ?_) (fun h2 => by rw [h2, h1]; rfl)
  rw [h1, h2]
  rfl

/-! ### the same with K told: within a comprehension -/
section
variable {X : Cx}
theorem bin_ (K : PySem.W.Frag) (op : Operator) (h : X.K = K := by rfl) : OpR X (binaryOp op) (rBin K op) := h ▸ op_bin op
theorem cmp_ (K : PySem.W.Frag) (op : CmpOp) (hu : X.A.units + 64 < cLine) (h : X.K = K := by rfl) : OpR X (compareOp op) (rCmp K op) := h ▸ op_cmp op hu
theorem idx_ (K : PySem.W.Frag) (h : X.K = K := by rfl) : IxR X (rIdx K) := h ▸ ix_idx
theorem slc_ (K : PySem.W.Frag) (h : X.K = K := by rfl) : SlR X (rSlc K) := h ▸ sl_slc
theorem len_ (K : PySem.W.Frag) (h : X.K = K := by rfl) : CallR X (.builtin "len") (rLen K) := h ▸ call_lenU
theorem isi_ (K : PySem.W.Frag) (h : X.K = K := by rfl) : CallR X (.builtin "isinstance") (rIsiB K) := h ▸ call_isiB
theorem isi2_ (K : PySem.W.Frag) (h : X.K = K := by rfl) : CallR X (.builtin "isinstance") (rIsi2 K) := h ▸ call_isi2
end

/-! ### the built-in classes among each other -/
theorem kit_NoneType_list : kitB "NoneType" "list" = some false := by decide +kernel
theorem kit_NoneType_tuple : kitB "NoneType" "tuple" = some false := by decide +kernel
theorem kit_NoneType_str : kitB "NoneType" "str" = some false := by decide +kernel
theorem kit_NoneType_int : kitB "NoneType" "int" = some false := by decide +kernel
theorem kit_NoneType_bool : kitB "NoneType" "bool" = some false := by decide +kernel
theorem kit_NoneType_dict : kitB "NoneType" "dict" = some false := by decide +kernel
theorem kit_bool_list : kitB "bool" "list" = some false := by decide +kernel
theorem kit_bool_tuple : kitB "bool" "tuple" = some false := by decide +kernel
theorem kit_bool_str : kitB "bool" "str" = some false := by decide +kernel
theorem kit_bool_int : kitB "bool" "int" = some true := by decide +kernel
theorem kit_bool_bool : kitB "bool" "bool" = some true := by decide +kernel
theorem kit_bool_dict : kitB "bool" "dict" = some false := by decide +kernel
theorem kit_int_list : kitB "int" "list" = some false := by decide +kernel
theorem kit_int_tuple : kitB "int" "tuple" = some false := by decide +kernel
theorem kit_int_str : kitB "int" "str" = some false := by decide +kernel
theorem kit_int_int : kitB "int" "int" = some true := by decide +kernel
theorem kit_int_bool : kitB "int" "bool" = some false := by decide +kernel
theorem kit_int_dict : kitB "int" "dict" = some false := by decide +kernel
theorem kit_str_list : kitB "str" "list" = some false := by decide +kernel
theorem kit_str_tuple : kitB "str" "tuple" = some false := by decide +kernel
theorem kit_str_str : kitB "str" "str" = some true := by decide +kernel
theorem kit_str_int : kitB "str" "int" = some false := by decide +kernel
theorem kit_str_bool : kitB "str" "bool" = some false := by decide +kernel
theorem kit_str_dict : kitB "str" "dict" = some false := by decide +kernel
theorem kit_list_list : kitB "list" "list" = some true := by decide +kernel
theorem kit_list_tuple : kitB "list" "tuple" = some false := by decide +kernel
theorem kit_list_str : kitB "list" "str" = some false := by decide +kernel
theorem kit_list_int : kitB "list" "int" = some false := by decide +kernel
theorem kit_list_bool : kitB "list" "bool" = some false := by decide +kernel
theorem kit_list_dict : kitB "list" "dict" = some false := by decide +kernel
theorem kit_tuple_list : kitB "tuple" "list" = some false := by decide +kernel
theorem kit_tuple_tuple : kitB "tuple" "tuple" = some true := by decide +kernel
theorem kit_tuple_str : kitB "tuple" "str" = some false := by decide +kernel
theorem kit_tuple_int : kitB "tuple" "int" = some false := by decide +kernel
theorem kit_tuple_bool : kitB "tuple" "bool" = some false := by decide +kernel
theorem kit_tuple_dict : kitB "tuple" "dict" = some false := by decide +kernel
theorem kit_dict_list : kitB "dict" "list" = some false := by decide +kernel
theorem kit_dict_tuple : kitB "dict" "tuple" = some false := by decide +kernel
theorem kit_dict_str : kitB "dict" "str" = some false := by decide +kernel
theorem kit_dict_int : kitB "dict" "int" = some false := by decide +kernel
theorem kit_dict_bool : kitB "dict" "bool" = some false := by decide +kernel
theorem kit_dict_dict : kitB "dict" "dict" = some true := by decide +kernel
end Fx

/-! Trees: what a body's lists, dicts, instances hold; where they stand in the heap. -/
namespace Fx
open PySem L2
open Evl (Ex)
variable {cl : String → Addr}
inductive Hd where
  | lst
  | dct (ks : List Key)
  | ddt (ks : List (List Key))
  | lok (ks : List Key)
  | ins (C : String) (fs : List Str)
  | tup
def Hd.own : Hd → Bool
  | .tup => false
  | _ => true
/-- a tree: not known, data, a node; α, β: what is told of nodes, of what is not known -/
inductive TL (α β : Type) where
  | un (b : β)
  | py (d : PyData)
  | nd (a : α) (h : Hd) (cs : List (TL α β))
abbrev T := TL Unit Unit
abbrev LT := TL Addr V
section
variable {α β : Type}
mutual
def TL.er : TL α β → T
  | .un _ => .un ()
  | .py d => .py d
  | .nd _ h cs => .nd () h (erAll cs)
def erAll : List (TL α β) → List T
  | [] => []
  | c :: cs => c.er :: erAll cs
end
theorem erAll_map : ∀ cs : List (TL α β), erAll cs = cs.map TL.er
  | [] => rfl
  | c :: cs => by simp [erAll, erAll_map cs]
def TL.get : TL α β → List Nat → Option (TL α β)
  | c, [] => some c
  | .nd _ _ cs, i :: r => match cs[i]? with
    | some c => c.get r
    | none => none
  | .un _, _ :: _ => none
  | .py _, _ :: _ => none
def TL.put : TL α β → List Nat → TL α β → TL α β
  | _, [], n => n
  | .nd p h cs, i :: r, n => .nd p h (match cs[i]? with
    | some c => cs.set i (c.put r n)
    | none => cs)
  | .un b, _ :: _, _ => .un b
  | .py d, _ :: _, _ => .py d
def gget (g : List (TL α β)) : List Nat → Option (TL α β)
  | [] => none
  | i :: r => match g[i]? with
    | some c => c.get r
    | none => none
def gput (g : List (TL α β)) : List Nat → TL α β → List (TL α β)
  | [], _ => g
  | i :: r, n => match g[i]? with
    | some c => g.set i (c.put r n)
    | none => g
theorem get_er : ∀ (π : List Nat) (c : TL α β), c.er.get π = (c.get π).map TL.er
  | [], c => by cases c <;> simp [TL.get]
  | i :: r, .un b => by simp [TL.er, TL.get]
  | i :: r, .py d => by simp [TL.er, TL.get]
  | i :: r, .nd p h cs => by
    simp only [TL.er, TL.get, erAll_map, List.getElem?_map]
    cases e : cs[i]? with
    | none => simp
    | some c => simp [get_er r c]
theorem put_er : ∀ (π : List Nat) (c n : TL α β), (c.put π n).er = c.er.put π n.er
  | [], c, n => by cases c <;> simp [TL.put]
  | i :: r, .un b, n => by simp [TL.er, TL.put]
  | i :: r, .py d, n => by simp [TL.er, TL.put]
  | i :: r, .nd p h cs, n => by
    simp only [TL.er, TL.put, erAll_map, List.getElem?_map]
    cases e : cs[i]? with
    | none => simp
    | some c => simp [put_er r c n, List.map_set]
theorem gget_er (g : List (TL α β)) (π : List Nat) : gget (g.map TL.er) π = (gget g π).map TL.er := by
  cases π with
  | nil => rfl
  | cons i r =>
    simp only [gget, List.getElem?_map]
    cases e : g[i]? with
    | none => simp
    | some c => simp [get_er r c]
theorem gput_er (g : List (TL α β)) (π : List Nat) (n : TL α β) : (gput g π n).map TL.er = gput (g.map TL.er) π n.er := by
  cases π with
  | nil => rfl
  | cons i r =>
    simp only [gput, List.getElem?_map]
    cases e : g[i]? with
    | none => simp
    | some c => simp [put_er r c n, List.map_set]
theorem gput_len (g : List (TL α β)) (π : List Nat) (n : TL α β) : (gput g π n).length = g.length := by
  cases π with
  | nil => rfl
  | cons i r =>
    simp only [gput]
    cases e : g[i]? <;> simp
end
mutual
def TL.addrs : LT → List Addr
  | .un _ => []
  | .py _ => []
  | .nd p h cs => (if h.own then [p] else []) ++ addrsAll cs
def addrsAll : List LT → List Addr
  | [] => []
  | c :: cs => c.addrs ++ addrsAll cs
end
theorem addrsAll_append : ∀ a b : List LT, addrsAll (a ++ b) = addrsAll a ++ addrsAll b
  | [], b => by simp [addrsAll]
  | x :: a, b => by simp [addrsAll, addrsAll_append a b]
theorem addrsAll_py : ∀ ds : List PyData, addrsAll (ds.map TL.py) = []
  | [] => rfl
  | d :: ds => by simp [addrsAll, TL.addrs, addrsAll_py ds]
/-- an object of a body's own: neither a tuple nor anything that stays -/
def OwnO (o : HO) : Prop := (∃ xs, o = .lst xs) ∨ (∃ kvs, o = .dK kvs) ∨ (∃ kvs, o = .dT kvs) ∨ (∃ C dx fs, o = .ins C dx fs) ∨ ∃ ob kvs, o = .frz ob (.dK kvs)
/-- what stands at p -/
def Node (K : PySem.W.Frag) (cl : String → Addr) (B H : Hp) (p : Addr) : Hd → List V → Prop
  | .lst, vs => B p = none ∧ H p = some (.lst vs)
  | .dct ks, vs => B p = none ∧ ks.length = vs.length ∧ ks.Nodup ∧ H p = some (.dK (ks.zip vs))
  | .ddt ks, vs => B p = none ∧ ks.length = vs.length ∧ ks.Nodup ∧ H p = some (.dT (ks.zip vs))
  | .lok ks, vs => B p = none ∧ ks.length = vs.length ∧ ks.Nodup ∧ ∃ od, H p = some (.frz od (.dK (ks.zip vs)))
  | .ins C fs, vs => B p = none ∧ fs.length = vs.length ∧ ∃ dx, H p = some (.ins (cl C) dx (fs.zip vs))
  | .tup, vs => SqT K B p vs
theorem Node.own {K : PySem.W.Frag} {B H : Hp} {p : Addr} {vs : List V} : ∀ {h : Hd}, h.own = true → Node K cl B H p h vs → B p = none ∧ ∃ o, H p = some o ∧ OwnO o
  | .lst, _, ⟨a, b⟩ => ⟨a, _, b, .inl ⟨_, rfl⟩⟩
  | .dct ks, _, ⟨a, _, _, b⟩ => ⟨a, _, b, .inr (.inl ⟨_, rfl⟩)⟩
  | .ddt ks, _, ⟨a, _, _, b⟩ => ⟨a, _, b, .inr (.inr (.inl ⟨_, rfl⟩))⟩
  | .lok ks, _, ⟨a, _, _, _, b⟩ => ⟨a, _, b, .inr (.inr (.inr (.inr ⟨_, _, rfl⟩)))⟩
  | .ins C fs, _, ⟨a, _, _, b⟩ => ⟨a, _, b, .inr (.inr (.inr (.inl ⟨_, _, _, rfl⟩)))⟩
  | .tup, z, _ => by cases z
theorem Node.keep {K : PySem.W.Frag} {B H B' H' : Hp} {p : Addr} {vs : List V} (e : Ex B B') : ∀ {h : Hd}, (h.own = true → B' p = none ∧ H' p = H p) → Node K cl B H p h vs → Node K cl B' H' p h vs
  | .lst, k, ⟨a, b⟩ => ⟨(k rfl).1, by rw [(k rfl).2]; exact b⟩
  | .dct ks, k, ⟨a, l, n, b⟩ => ⟨(k rfl).1, l, n, by rw [(k rfl).2]; exact b⟩
  | .ddt ks, k, ⟨a, l, n, b⟩ => ⟨(k rfl).1, l, n, by rw [(k rfl).2]; exact b⟩
  | .lok ks, k, ⟨a, l, n, o, b⟩ => ⟨(k rfl).1, l, n, o, by rw [(k rfl).2]; exact b⟩
  | .ins C fs, k, ⟨a, l, o, b⟩ => ⟨(k rfl).1, l, o, by rw [(k rfl).2]; exact b⟩
  | .tup, _, s => Evl.ex_t e s
mutual
inductive LtAt (K : PySem.W.Frag) (cl : String → Addr) (B H : Hp) : V → LT → Prop where
  | un {v : V} : LtAt K cl B H v (.un v)
  | py {v : V} {d : PyData} (h : Dp K B v d) : LtAt K cl B H v (.py d)
  | nd {p : Addr} {h : Hd} {cs : List LT} {vs : List V} (hh : Node K cl B H p h vs) (hc : LtAll K cl B H vs cs) : LtAt K cl B H (.ref p) (.nd p h cs)
inductive LtAll (K : PySem.W.Frag) (cl : String → Addr) (B H : Hp) : List V → List LT → Prop where
  | nil : LtAll K cl B H [] []
  | cons {v : V} {vs : List V} {c : LT} {cs : List LT} (h : LtAt K cl B H v c) (hs : LtAll K cl B H vs cs) : LtAll K cl B H (v :: vs) (c :: cs)
end
section
variable {K : PySem.W.Frag} {B H B' H' : Hp}
mutual
theorem LtAt.keep (e : Ex B B') : ∀ (c : LT) (v : V), (∀ q ∈ c.addrs, B' q = none ∧ H' q = H q) → LtAt K cl B H v c → LtAt K cl B' H' v c
  | .un u, v, _, h => by cases h; exact .un
  | .py d, v, _, h => by cases h with | py h => exact .py (Dp.mono e d v h)
  | .nd p hd cs, v, k, h => by
    cases h with
    | nd hh hc => exact .nd (hh.keep e fun z => k p (by simp [TL.addrs, z])) (LtAll.keep e cs _ (fun q hq => k q (by simp [TL.addrs, hq])) hc)
theorem LtAll.keep (e : Ex B B') : ∀ (cs : List LT) (vs : List V), (∀ q ∈ addrsAll cs, B' q = none ∧ H' q = H q) → LtAll K cl B H vs cs → LtAll K cl B' H' vs cs
  | [], _, _, h => by cases h; exact .nil
  | c :: cs, _, k, h => by
    cases h with
    | cons h1 h2 => exact .cons (LtAt.keep e c _ (fun q hq => k q (by simp [addrsAll, hq])) h1) (LtAll.keep e cs _ (fun q hq => k q (by simp [addrsAll, hq])) h2)
end
mutual
theorem LtAt.there : ∀ (c : LT) (v : V), LtAt K cl B H v c → ∀ q ∈ c.addrs, B q = none ∧ ∃ o, H q = some o ∧ OwnO o
  | .un _, _, _, q, hq => by simp [TL.addrs] at hq
  | .py _, _, _, q, hq => by simp [TL.addrs] at hq
  | .nd p hd cs, v, h, q, hq => by
    cases h with
    | nd hh hc =>
      simp only [TL.addrs, List.mem_append] at hq
      rcases hq with hq | hq
      · cases e : hd.own with
        | false => rw [e] at hq; simp at hq
        | true => rw [e] at hq; simp at hq; subst hq; exact hh.own e
      · exact LtAll.there cs _ hc q hq
theorem LtAll.there : ∀ (cs : List LT) (vs : List V), LtAll K cl B H vs cs → ∀ q ∈ addrsAll cs, B q = none ∧ ∃ o, H q = some o ∧ OwnO o
  | [], _, _, q, hq => by simp [addrsAll] at hq
  | c :: cs, _, h, q, hq => by
    cases h with
    | cons h1 h2 =>
      simp only [addrsAll, List.mem_append] at hq
      rcases hq with hq | hq
      · exact LtAt.there c _ h1 q hq
      · exact LtAll.there cs _ h2 q hq
end
theorem LtAll.length : ∀ {vs : List V} {cs : List LT}, LtAll K cl B H vs cs → vs.length = cs.length
  | _, [], h => by cases h; rfl
  | _, c :: cs, h => by cases h with | cons _ h2 => simp [LtAll.length h2]
theorem LtAll.append : ∀ {vs us : List V} {cs es : List LT}, LtAll K cl B H vs cs → LtAll K cl B H us es → LtAll K cl B H (vs ++ us) (cs ++ es)
  | _, _, [], _, h, h' => by cases h; exact h'
  | _, _, c :: cs, _, h, h' => by cases h with | cons h1 h2 => exact .cons h1 (LtAll.append h2 h')
theorem LtAll.split : ∀ {vs : List V} {cs es : List LT}, LtAll K cl B H vs (cs ++ es) → ∃ us ws, vs = us ++ ws ∧ LtAll K cl B H us cs ∧ LtAll K cl B H ws es
  | vs, [], es, h => ⟨[], vs, rfl, .nil, h⟩
  | _, c :: cs, es, h => by
    cases h with
    | cons h1 h2 =>
      obtain ⟨us, ws, rfl, a, b⟩ := LtAll.split (cs := cs) h2
      exact ⟨_ :: us, ws, rfl, .cons h1 a, b⟩
theorem LtAll.py : ∀ {vs : List V} {ds : List PyData}, LtAll K cl B H vs (ds.map TL.py) → DpAll K B vs ds
  | _, [], h => by cases h; exact .nil
  | _, d :: ds, h => by
    cases h with
    | cons h1 h2 =>
      cases h1 with
      | py h1 => exact .cons h1 (LtAll.py h2)
theorem LtAll.of_py : ∀ {vs : List V} {ds : List PyData}, DpAll K B vs ds → LtAll K cl B H vs (ds.map TL.py)
  | _, [], h => by cases h; exact .nil
  | _, d :: ds, h => by cases h with | cons h1 h2 => exact .cons (.py h1) (LtAll.of_py h2)
theorem LtAll.get : ∀ {vs : List V} {cs : List LT} {i : Nat} {c : LT}, LtAll K cl B H vs cs → cs[i]? = some c → ∃ v, vs[i]? = some v ∧ LtAt K cl B H v c
  | _, [], i, c, _, e => by simp at e
  | _, c :: cs, 0, d, h, e => by
    cases h with
    | cons h1 h2 => simp at e; subst e; exact ⟨_, rfl, h1⟩
  | _, c :: cs, i + 1, d, h, e => by
    cases h with
    | cons h1 h2 =>
      obtain ⟨v, a, b⟩ := LtAll.get h2 (i := i) (by simpa using e)
      exact ⟨v, by simpa using a, b⟩
theorem LtAll.setAt : ∀ {vs : List V} {cs : List LT} {i : Nat} {v : V} {c : LT}, LtAll K cl B H vs cs → LtAt K cl B H v c → LtAll K cl B H (vs.set i v) (cs.set i c)
  | _, [], i, _, _, h, _ => by cases h; simp; exact .nil
  | _, c :: cs, 0, v, d, h, e => by cases h with | cons h1 h2 => exact .cons e h2
  | _, c :: cs, i + 1, v, d, h, e => by cases h with | cons h1 h2 => exact .cons h1 (LtAll.setAt h2 e)
theorem LtAll.erase : ∀ {vs : List V} {cs : List LT} (i : Nat), LtAll K cl B H vs cs → LtAll K cl B H (vs.eraseIdx i) (cs.eraseIdx i)
  | _, [], i, h => by cases h; exact .nil
  | _, c :: cs, 0, h => by cases h with | cons h1 h2 => exact h2
  | _, c :: cs, i + 1, h => by cases h with | cons h1 h2 => exact .cons h1 (LtAll.erase i h2)
theorem LtAll.insert : ∀ {vs : List V} {cs : List LT} {v : V} {c : LT} (i : Nat), LtAll K cl B H vs cs → LtAt K cl B H v c → LtAll K cl B H (vs.take i ++ v :: vs.drop i) (cs.take i ++ c :: cs.drop i)
  | _, [], v, c, i, h, e => by cases h; simp; exact .cons e .nil
  | _, x :: cs, v, c, 0, h, e => .cons e h
  | _, x :: cs, v, c, i + 1, h, e => by cases h with | cons h1 h2 => exact .cons h1 (LtAll.insert i h2 e)
end
/-- what a list of trees says of one of them, and of another one that is put in its place -/
theorem at_list : ∀ (g : List LT) (i : Nat) (c : LT), g[i]? = some c → ∃ A1 A2, addrsAll g = A1 ++ c.addrs ++ A2 ∧ (∀ c', addrsAll (g.set i c') = A1 ++ c'.addrs ++ A2) ∧
    ∀ (K : PySem.W.Frag) (B H : Hp) (vs : List V), LtAll K cl B H vs g → ∃ w, vs[i]? = some w ∧ LtAt K cl B H w c ∧ ∀ (c' : LT) (B' H' : Hp), Ex B B' → (∀ q ∈ A1 ++ A2, B' q = none ∧ H' q = H q) → LtAt K cl B' H' w c' → LtAll K cl B' H' vs (g.set i c')
  | [], i, c, e => by simp at e
  | x :: g, 0, c, e => by
    simp at e
    subst e
    refine ⟨[], addrsAll g, by simp [addrsAll], fun c' => by simp [addrsAll], fun K B H vs h => ?_⟩
    cases h with
    | cons h1 h2 => exact ⟨_, rfl, h1, fun c' B' H' e k h' => .cons h' (LtAll.keep e g _ (fun q hq => k q (by simpa using hq)) h2)⟩
  | x :: g, i + 1, c, e => by
    obtain ⟨A1, A2, e1, e2, e3⟩ := at_list g i c (by simpa using e)
    refine ⟨x.addrs ++ A1, A2, by simp [addrsAll, e1], fun c' => by simp [addrsAll, e2], fun K B H vs h => ?_⟩
    cases h with
    | cons h1 h2 =>
      obtain ⟨w, h0, h3, h4⟩ := e3 K B H _ h2
      exact ⟨w, by simpa using h0, h3, fun c' B' H' e k h' => .cons (LtAt.keep e x _ (fun q hq => k q (by simp [hq])) h1) (h4 c' B' H' e (fun q hq => k q (by simp only [List.mem_append] at hq ⊢; rcases hq with hq | hq <;> simp [hq])) h')⟩
theorem at_place : ∀ (π : List Nat) (c u : LT), c.get π = some u → ∃ A1 A2, c.addrs = A1 ++ u.addrs ++ A2 ∧ (∀ u', (c.put π u').addrs = A1 ++ u'.addrs ++ A2) ∧
    ∀ (K : PySem.W.Frag) (B H : Hp) (v : V), LtAt K cl B H v c → ∃ w, LtAt K cl B H w u ∧ ∀ (u' : LT) (B' H' : Hp), Ex B B' → (∀ q ∈ A1 ++ A2, B' q = none ∧ H' q = H q) → LtAt K cl B' H' w u' → LtAt K cl B' H' v (c.put π u')
  | [], c, u, e => by
    have e : some c = some u := by cases c <;> exact e
    cases e
    refine ⟨[], [], by simp, fun u' => by cases c <;> simp [TL.put], fun K B H v h => ⟨v, h, fun u' B' H' _ _ h' => by cases c <;> exact h'⟩⟩
  | i :: r, .un d, u, e => by simp [TL.get] at e
  | i :: r, .py d, u, e => by simp [TL.get] at e
  | i :: r, .nd p h cs, u, e => by
    simp only [TL.get] at e
    cases ei : cs[i]? with
    | none => rw [ei] at e; simp at e
    | some c0 =>
      rw [ei] at e
      obtain ⟨A1, A2, e1, e2, e3⟩ := at_place r c0 u e
      obtain ⟨A3, A4, f1, f2, f3⟩ := at_list cs i c0 ei
      refine ⟨(if h.own then [p] else []) ++ (A3 ++ A1), A2 ++ A4, by simp [TL.addrs, f1, e1], fun u' => by simp [TL.put, ei, TL.addrs, f2, e2], fun K B H v hv => ?_⟩
      cases hv with
      | nd hh hc =>
        obtain ⟨w0, g0, g1, g2⟩ := f3 K B H _ hc
        obtain ⟨w, g3, g4⟩ := e3 K B H w0 g1
        refine ⟨w, g3, fun u' B' H' e k h' => ?_⟩
        simp only [TL.put, ei]
        refine .nd (hh.keep e fun z => k p (by simp [z])) (g2 _ B' H' e (fun q hq => k q ?_) (g4 u' B' H' e (fun q hq => k q ?_) h'))
        · simp only [List.mem_append] at hq
          rcases hq with hq | hq <;> simp [hq]
        · simp only [List.mem_append] at hq
          rcases hq with hq | hq <;> simp [hq]
theorem at_root (g : List LT) (π : List Nat) (u : LT) (e : gget g π = some u) : ∃ A1 A2, addrsAll g = A1 ++ u.addrs ++ A2 ∧ (∀ u', addrsAll (gput g π u') = A1 ++ u'.addrs ++ A2) ∧
    ∀ (K : PySem.W.Frag) (B H : Hp) (vs : List V), LtAll K cl B H vs g → ∃ w, LtAt K cl B H w u ∧ ∀ (u' : LT) (B' H' : Hp), Ex B B' → (∀ q ∈ A1 ++ A2, B' q = none ∧ H' q = H q) → LtAt K cl B' H' w u' → LtAll K cl B' H' vs (gput g π u') := by
  cases π with
  | nil => simp [gget] at e
  | cons i r =>
    simp only [gget] at e
    cases ei : g[i]? with
    | none => rw [ei] at e; simp at e
    | some c0 =>
      rw [ei] at e
      obtain ⟨A1, A2, e1, e2, e3⟩ := at_place r c0 u e
      obtain ⟨A3, A4, f1, f2, f3⟩ := at_list g i c0 ei
      refine ⟨A3 ++ A1, A2 ++ A4, by simp [f1, e1], fun u' => by simp [gput, ei, f2, e2], fun K B H vs hv => ?_⟩
      obtain ⟨w0, g0, g1, g2⟩ := f3 K B H _ hv
      obtain ⟨w, g3, g4⟩ := e3 K B H w0 g1
      refine ⟨w, g3, fun u' B' H' e k h' => ?_⟩
      simp only [gput, ei]
      refine g2 _ B' H' e (fun q hq => k q ?_) (g4 u' B' H' e (fun q hq => k q ?_) h')
      · simp only [List.mem_append] at hq
        rcases hq with hq | hq <;> simp [hq]
      · simp only [List.mem_append] at hq
        rcases hq with hq | hq <;> simp [hq]
end Fx

/-! A body's state: slots, trees; how it stands to the heap; what changes it. -/
namespace Fx
open PySem L2
open Evl (Ex)
variable {cl : String → Addr}
/-! ### trees as data -/
section
variable {α β : Type}
mutual
def TL.data : TL α β → Option PyData
  | .un _ => none
  | .py d => some d
  | .nd _ .lst cs => match dataAll cs with
    | some ds => some (.list ds)
    | none => none
  | .nd _ .tup cs => match dataAll cs with
    | some ds => some (.tuple ds)
    | none => none
  | .nd _ (.dct _) _ => none
  | .nd _ (.ddt _) _ => none
  | .nd _ (.lok _) _ => none
  | .nd _ (.ins _ _) _ => none
def dataAll : List (TL α β) → Option (List PyData)
  | [] => some []
  | c :: cs => match c.data with
    | some d => match dataAll cs with
      | some ds => some (d :: ds)
      | none => none
    | none => none
end
mutual
theorem data_er : ∀ t : TL α β, t.er.data = t.data
  | .un _ => rfl
  | .py d => rfl
  | .nd _ .lst cs => by simp only [TL.er, TL.data, dataAll_er cs]
  | .nd _ .tup cs => by simp only [TL.er, TL.data, dataAll_er cs]
  | .nd _ (.dct _) _ => rfl
  | .nd _ (.ddt _) _ => rfl
  | .nd _ (.lok _) _ => rfl
  | .nd _ (.ins _ _) _ => rfl
theorem dataAll_er : ∀ cs : List (TL α β), dataAll (erAll cs) = dataAll cs
  | [] => rfl
  | c :: cs => by simp only [erAll, dataAll, data_er c, dataAll_er cs]
end
theorem dataAll_py : ∀ ds : List PyData, dataAll (ds.map (TL.py (α := α) (β := β))) = some ds
  | [] => rfl
  | d :: ds => by simp [dataAll, TL.data, dataAll_py ds]
end
section
variable {K : PySem.W.Frag} {B H : Hp}
mutual
/-- read as data, where B' has what stands there -/
theorem LtAt.data {B' : Hp} (e : Ex B B') : ∀ (u : LT) (v : V) (d : PyData), LtAt K cl B H v u → u.data = some d → (∀ q ∈ u.addrs, B' q = H q) → Dp K B' v d
  | .un _, v, d, _, h, _ => by simp [TL.data] at h
  | .py x, v, d, h, z, _ => by
    simp only [TL.data, Option.some.injEq] at z
    subst z
    cases h with | py h => exact Dp.mono e _ _ h
  | .nd p .lst cs, v, d, h, z, k => by
    cases h with
    | nd hh hc =>
      simp only [TL.data] at z
      cases ec : dataAll cs with
      | none => rw [ec] at z; cases z
      | some ds =>
        rw [ec] at z
        cases z
        refine .lst (SqL.of ?_) (LtAll.data e cs _ ds hc ec fun q hq => k q (by simp [TL.addrs, hq]))
        rw [k p (by simp [TL.addrs, Hd.own])]
        exact hh.2
  | .nd p .tup cs, v, d, h, z, k => by
    cases h with
    | nd hh hc =>
      simp only [TL.data] at z
      cases ec : dataAll cs with
      | none => rw [ec] at z; cases z
      | some ds =>
        rw [ec] at z
        cases z
        exact .tup (Evl.ex_t e hh) (LtAll.data e cs _ ds hc ec fun q hq => k q (by simp [TL.addrs, hq]))
  | .nd p (.dct _) cs, v, d, h, z, k => by simp [TL.data] at z
  | .nd p (.ddt _) cs, v, d, h, z, k => by simp [TL.data] at z
  | .nd p (.lok _) cs, v, d, h, z, k => by simp [TL.data] at z
  | .nd p (.ins _ _) cs, v, d, h, z, k => by simp [TL.data] at z
theorem LtAll.data {B' : Hp} (e : Ex B B') : ∀ (cs : List LT) (vs : List V) (ds : List PyData), LtAll K cl B H vs cs → dataAll cs = some ds → (∀ q ∈ addrsAll cs, B' q = H q) → DpAll K B' vs ds
  | [], _, ds, h, z, _ => by
    cases h
    simp only [dataAll, Option.some.injEq] at z
    subst z
    exact .nil
  | c :: cs, _, ds, h, z, k => by
    cases h with
    | cons h1 h2 =>
      simp only [dataAll] at z
      cases e1 : c.data with
      | none => rw [e1] at z; cases z
      | some d =>
        cases e2 : dataAll cs with
        | none => rw [e1, e2] at z; cases z
        | some es =>
          rw [e1, e2] at z
          cases z
          exact .cons (LtAt.data e c _ d h1 e1 fun q hq => k q (by simp [addrsAll, hq])) (LtAll.data e cs _ es h2 e2 fun q hq => k q (by simp [addrsAll, hq]))
end
end
/-! ### places -/
def lref : LT → Option V
  | .nd p _ _ => some (.ref p)
  | _ => none
def pv (G : List LT) (π : List Nat) : Option V := (gget G π).bind lref
theorem get_put_ne : ∀ (π π2 : List Nat) (c u : LT), ¬ π <+: π2 → ((c.put π u).get π2).bind lref = (c.get π2).bind lref
  | [], π2, c, u, h => absurd List.nil_prefix h
  | i :: r, π2, .un b, u, h => rfl
  | i :: r, π2, .py b, u, h => rfl
  | i :: r, [], .nd p hd cs, u, h => rfl
  | i :: r, j :: r2, .nd p hd cs, u, h => by
    simp only [TL.put, TL.get]
    cases e : cs[i]? with
    | none => simp
    | some c =>
      by_cases ej : i = j
      · subst ej
        have hi : i < cs.length := (List.getElem?_eq_some_iff.mp e).1
        simp only [List.getElem?_set_self hi, e]
        exact get_put_ne r r2 c u (fun z => h ((List.prefix_cons_inj i).mpr z))
      · simp only [List.getElem?_set_ne ej]
theorem get_put_ext : ∀ (π r : List Nat) (c u u0 : LT), c.get π = some u0 → (c.put π u).get (π ++ r) = u.get r
  | [], r, c, u, u0, e => by cases c <;> rfl
  | i :: s, r, .un b, u, u0, e => by simp [TL.get] at e
  | i :: s, r, .py b, u, u0, e => by simp [TL.get] at e
  | i :: s, r, .nd p hd cs, u, u0, e => by
    simp only [TL.get] at e
    cases ec : cs[i]? with
    | none => rw [ec] at e; cases e
    | some c =>
      rw [ec] at e
      have hi : i < cs.length := (List.getElem?_eq_some_iff.mp ec).1
      simp only [TL.put, ec, List.cons_append, TL.get, List.getElem?_set_self hi]
      exact get_put_ext s r c u u0 e
theorem get_app : ∀ (π r : List Nat) (c u0 : LT), c.get π = some u0 → c.get (π ++ r) = u0.get r
  | [], r, c, u0, e => by
    have e : some c = some u0 := by cases c <;> exact e
    cases e
    rfl
  | i :: s, r, .un b, u0, e => by simp [TL.get] at e
  | i :: s, r, .py b, u0, e => by simp [TL.get] at e
  | i :: s, r, .nd p hd cs, u0, e => by
    simp only [TL.get] at e
    simp only [List.cons_append, TL.get]
    cases ec : cs[i]? with
    | none => rw [ec] at e; cases e
    | some c =>
      rw [ec] at e
      exact get_app s r c u0 e
theorem pv_put_ne {G : List LT} {π π2 : List Nat} {u : LT} (h : ¬ π <+: π2) : pv (gput G π u) π2 = pv G π2 := by
  unfold pv
  cases π with
  | nil => exact absurd List.nil_prefix h
  | cons i r =>
    cases π2 with
    | nil => rfl
    | cons j r2 =>
      simp only [gput, gget]
      cases e : G[i]? with
      | none => simp
      | some c =>
        by_cases ej : i = j
        · subst ej
          have hi : i < G.length := (List.getElem?_eq_some_iff.mp e).1
          simp only [List.getElem?_set_self hi, e]
          exact get_put_ne r r2 c u (fun z => h ((List.prefix_cons_inj i).mpr z))
        · simp only [List.getElem?_set_ne ej]
theorem gget_put_ext {G : List LT} {π r : List Nat} {u u0 : LT} (e : gget G π = some u0) : gget (gput G π u) (π ++ r) = u.get r := by
  cases π with
  | nil => simp [gget] at e
  | cons i s =>
    simp only [gget] at e
    cases ec : G[i]? with
    | none => rw [ec] at e; cases e
    | some c =>
      rw [ec] at e
      have hi : i < G.length := (List.getElem?_eq_some_iff.mp ec).1
      simp only [gput, ec, List.cons_append, gget, List.getElem?_set_self hi]
      exact get_put_ext s r c u u0 e
theorem gget_app {G : List LT} {π r : List Nat} {u0 : LT} (e : gget G π = some u0) : gget G (π ++ r) = u0.get r := by
  cases π with
  | nil => simp [gget] at e
  | cons i s =>
    simp only [gget] at e
    simp only [List.cons_append, gget]
    cases ec : G[i]? with
    | none => rw [ec] at e; cases e
    | some c =>
      rw [ec] at e
      exact get_app s r c u0 e
theorem gget_append {G X : List LT} {π : List Nat} {u : LT} (e : gget G π = some u) : gget (G ++ X) π = some u := by
  cases π with
  | nil => simp [gget] at e
  | cons i s =>
    simp only [gget] at e ⊢
    cases ec : G[i]? with
    | none => rw [ec] at e; cases e
    | some c =>
      rw [ec] at e
      rw [List.getElem?_append_left (List.getElem?_eq_some_iff.mp ec).1, ec]
      exact e
theorem gput_append {G X : List LT} {π : List Nat} {u u0 : LT} (e : gget G π = some u0) : gput (G ++ X) π u = gput G π u ++ X := by
  cases π with
  | nil => simp [gget] at e
  | cons i s =>
    simp only [gget] at e
    cases ec : G[i]? with
    | none => rw [ec] at e; cases e
    | some c =>
      have hi := (List.getElem?_eq_some_iff.mp ec).1
      simp only [gput, List.getElem?_append_left hi, ec]
      rw [List.set_append_left _ _ hi]
theorem pv_append {G X : List LT} {π : List Nat} {v : V} (e : pv G π = some v) : pv (G ++ X) π = some v := by
  unfold pv at e ⊢
  cases h : gget G π with
  | none => rw [h] at e; cases e
  | some u => rw [gget_append h]; rw [h] at e; exact e
theorem pv_set {G : List LT} {i : Nat} {u : LT} {π : List Nat} (h : ¬ [i] <+: π) : pv (G.set i u) π = pv G π := by
  unfold pv
  cases π with
  | nil => rfl
  | cons j r =>
    have ne : i ≠ j := fun z => h (by subst z; exact ⟨r, rfl⟩)
    simp only [gget, List.getElem?_set_ne ne]
/-! ### the relation -/
structure Rl (K : PySem.W.Frag) (cl : String → Addr) (B F H : Hp) (G : List LT) (us : List V) : Prop where
  exB : Ex B H
  exF : Ex F H
  out : ∀ q o, H q = some o → B q = none → OwnO o
  at_ : LtAll K cl B H us G
  nod : (addrsAll G).Nodup
  off : ∀ q ∈ addrsAll G, F q = none
/-- growth alone -/
structure Gw (B H B' H' : Hp) : Prop where
  b : Ex B B'
  h : Ex H H'
  exB : Ex B' H'
  new : ∀ q, H q ≠ none → B q = none → B' q = none
  out : ∀ q o, H' q = some o → B' q = none → H q = some o ∨ OwnO o
/-- what a frame knows of it -/
structure Kp (F B B' : Hp) : Prop where
  b : Ex B B'
  new : ∀ q, F q ≠ none → B q = none → B' q = none
theorem Kp.refl (F B : Hp) : Kp F B B := ⟨Evl.Ex.refl B, fun _ _ h => h⟩
theorem Kp.trans {F B B' B2 : Hp} (a : Kp F B B') (b : Kp F B' B2) : Kp F B B2 := ⟨a.b.trans b.b, fun q h1 h2 => b.new q h1 (a.new q h1 h2)⟩
section
variable {K : PySem.W.Frag} {B F H B' H' B2 H2 : Hp} {G : List LT} {us : List V}
theorem Gw.refl (e : Ex B H) : Gw B H B H := ⟨Evl.Ex.refl B, Evl.Ex.refl H, e, fun _ _ h => h, fun _ _ h _ => .inl h⟩
theorem Gw.trans (a : Gw B H B' H') (b : Gw B' H' B2 H2) : Gw B H B2 H2 := ⟨a.b.trans b.b, a.h.trans b.h, b.exB, fun q h1 h2 => b.new q (by
    cases e : H q with
    | none => exact absurd e h1
    | some o => rw [a.h q o e]; simp) (a.new q h1 h2), fun q o h1 h2 => by
    rcases b.out q o h1 h2 with h | h
    · have h3 : B' q = none := by
        cases e : B' q with
        | none => rfl
        | some u => rw [b.b q u e] at h2; cases h2
      exact a.out q o h h3
    · exact .inr h⟩
theorem Gw.kp (g : Gw B H B' H') (e : Ex F H) : Kp F B B' := ⟨g.b, fun q h1 h2 => g.new q (by
  cases z : F q with
  | none => exact absurd z h1
  | some o => rw [e q o z]; simp) h2⟩
theorem Gw.nw {p : Addr} {o : HO} (e : Ex B H) (h : H p = none) : Gw B H (upd B p o) (upd H p o) := by
  have hb : B p = none := by
    cases z : B p with
    | none => rfl
    | some u => rw [e p u z] at h; cases h
  refine ⟨Evl.Ex.new hb, Evl.Ex.new h, fun q u z => ?_, fun q h1 h2 => ?_, fun q u h1 h2 => ?_⟩
  · by_cases y : q = p
    · subst y; rw [upd_same] at z ⊢; exact z
    · rw [upd_ne y] at z ⊢; exact e q u z
  · have y : q ≠ p := fun y => by subst y; exact h1 h
    rw [upd_ne y]; exact h2
  · by_cases y : q = p
    · subst y; rw [upd_same] at h2; cases h2
    · rw [upd_ne y] at h1; exact .inl h1
theorem Gw.ow {p : Addr} {o : HO} (e : Ex B H) (h : H p = none) (ho : OwnO o) : Gw B H B (upd H p o) := by
  refine ⟨Evl.Ex.refl B, Evl.Ex.new h, e.trans (Evl.Ex.new h), fun q _ h2 => h2, fun q u h1 h2 => ?_⟩
  by_cases y : q = p
  · subst y; rw [upd_same] at h1; cases h1; exact .inr ho
  · rw [upd_ne y] at h1; exact .inl h1
theorem Rl.there (r : Rl K cl B F H G us) : ∀ q ∈ addrsAll G, B q = none ∧ ∃ o, H q = some o ∧ OwnO o := LtAll.there G us r.at_
theorem Rl.keep (r : Rl K cl B F H G us) (e : Ex B' H') (f : Ex F H') (o : ∀ q o, H' q = some o → B' q = none → OwnO o) (b : Ex B B') (k : ∀ q ∈ addrsAll G, B' q = none ∧ H' q = H q) : Rl K cl B' F H' G us :=
  ⟨e, f, o, LtAll.keep b G us k r.at_, r.nod, r.off⟩
theorem Rl.grow (r : Rl K cl B F H G us) (g : Gw B H B' H') : Rl K cl B' F H' G us :=
  r.keep g.exB (r.exF.trans g.h) (fun q o h1 h2 => by
    rcases g.out q o h1 h2 with h | h
    · exact r.out q o h (by
        cases z : B q with
        | none => rfl
        | some u => rw [g.b q u z] at h2; cases h2)
    · exact h) g.b fun q hq => by
    obtain ⟨h1, o, h2, _⟩ := r.there q hq
    exact ⟨g.new q (by rw [h2]; simp) h1, by rw [h2]; exact g.h q o h2⟩
theorem Rl.keepT (r : Rl K cl B F H G us) : KeepT K H B := fun a xs h => by
  have own : ∀ o, OwnO o → (∀ ys, o ≠ .tup ys) ∧ ∀ ob ys, o ≠ .frz ob (.tup ys) := by
    intro o ho
    refine ⟨fun ys z => ?_, fun ob ys z => ?_⟩ <;> subst z <;> rcases ho with ⟨_, z⟩ | ⟨_, z⟩ | ⟨_, z⟩ | ⟨_, _, _, z⟩ | ⟨_, _, z⟩ <;> cases z
  rcases h with (h | ⟨o, h⟩) | h
  · refine .inl (.inl ?_)
    cases e : B a with
    | none => exact absurd rfl ((own _ (r.out a _ h e)).1 xs)
    | some u => rw [r.exB a u e] at h; exact h
  · refine .inl (.inr ⟨o, ?_⟩)
    cases e : B a with
    | none => exact absurd rfl ((own _ (r.out a _ h e)).2 o xs)
    | some u => rw [r.exB a u e] at h; exact h
  · exact .inr h
/-- data without lists stays -/
theorem Rl.down (r : Rl K cl B F H G us) {v : V} {d : PyData} (n : noList d = true) (h : Dp K H v d) : Dp K B v d := Dp.keepT r.keepT d v n h
theorem Rl.up (r : Rl K cl B F H G us) {v : V} {d : PyData} (h : Dp K B v d) : Dp K H v d := Dp.mono r.exB d v h
/-- the node at a place -/
theorem Rl.node (r : Rl K cl B F H G us) {π : List Nat} {p : Addr} {h : Hd} {cs : List LT} (e : gget G π = some (.nd p h cs)) : ∃ vs, Node K cl B H p h vs ∧ LtAll K cl B H vs cs := by
  obtain ⟨A1, A2, e1, e2, e3⟩ := at_root G π _ e
  obtain ⟨w, hw, _⟩ := e3 K B H us r.at_
  cases hw with
  | nd hh hc => exact ⟨_, hh, hc⟩
theorem Rl.at (r : Rl K cl B F H G us) {π : List Nat} {u : LT} (e : gget G π = some u) : ∃ v, LtAt K cl B H v u := by
  obtain ⟨A1, A2, e1, e2, e3⟩ := at_root G π _ e
  obtain ⟨w, hw, _⟩ := e3 K B H us r.at_
  exact ⟨w, hw⟩
theorem in_root {π : List Nat} {u : LT} (e : gget G π = some u) : ∀ a ∈ u.addrs, a ∈ addrsAll G := fun a ha => by
  obtain ⟨A1, A2, e1, _, _⟩ := at_root (cl := fun _ => 0) G π _ e
  rw [e1]; simp [ha]
/-- a tree is read as data, for the moment -/
theorem Rl.data (r : Rl K cl B F H G us) {π : List Nat} {u : LT} {v : V} {d : PyData} (e : gget G π = some u) (hv : lref u = some v) (hd : u.data = some d) : Dp K H v d := by
  obtain ⟨w, hw⟩ := r.at e
  have := LtAt.data (B' := H) r.exB u w d hw hd fun q _ => rfl
  cases u with
  | un _ => cases hv
  | py _ => cases hv
  | nd p h cs => cases hv; cases hw; exact this
/-! ### a node takes other values -/
theorem Rl.mut (r : Rl K cl B F H G us) {π : List Nat} {p : Addr} {h h' : Hd} {cs cs' : List LT} {vs' : List V} {o : HO} (e : gget G π = some (.nd p h cs)) (ho : h.own = true) (ho' : h'.own = true) (own : OwnO o)
    (hn : Node K cl B (upd H p o) p h' vs') (hc : LtAll K cl B H vs' cs') (nd : (addrsAll cs').Nodup) (hq : ∀ q ∈ addrsAll cs', q ∈ addrsAll cs ∨ (q ∉ addrsAll G ∧ F q = none)) :
    Rl K cl B F (upd H p o) (gput G π (.nd p h' cs')) us := by
  obtain ⟨A1, A2, e1, e2, e3⟩ := at_root G π _ e
  obtain ⟨w, hw, hp⟩ := e3 K B H us r.at_
  have nod := r.nod
  rw [e1] at nod
  simp only [TL.addrs, ho, ho', if_true] at nod e1 e2
  have hb : B p = none := (r.there p (by rw [e1]; simp)).1
  have pg : p ∈ addrsAll G := by rw [e1]; simp
  have n1 := List.nodup_append.mp nod
  have n2 := List.nodup_append.mp n1.1
  have pc : ∀ q ∈ addrsAll cs, q ≠ p := fun q h z => by
    subst z
    exact (List.nodup_append.mp n2.2.1).2.2 q (by simp) q h rfl
  have pA : ∀ q ∈ A1 ++ A2, q ≠ p := fun q h z => by
    subst z
    rcases List.mem_append.mp h with h | h
    · exact n2.2.2 q h q (by simp) rfl
    · exact n1.2.2 q (by simp) q h rfl
  have pc' : ∀ q ∈ addrsAll cs', q ≠ p := fun q h => by
    rcases hq q h with h | ⟨h, _⟩
    · exact pc q h
    · exact fun z => h (z ▸ pg)
  have inA : ∀ q, q ∈ A1 ++ A2 → q ∈ addrsAll G := fun q h => by
    rw [e1]
    rcases List.mem_append.mp h with h | h <;> simp [h]
  have cross : ∀ q ∈ A1 ++ A2, q ∉ addrsAll cs' := fun q h1 h2 => by
    rcases hq q h2 with h3 | ⟨h3, _⟩
    · rcases List.mem_append.mp h1 with h1 | h1
      · exact n2.2.2 q h1 q (by simp [h3]) rfl
      · exact n1.2.2 q (by simp [h3]) q h1 rfl
    · exact h3 (inA q h1)
  have keepA : ∀ q ∈ A1 ++ A2, B q = none ∧ upd H p o q = H q := fun q h => ⟨(r.there q (inA q h)).1, upd_ne (pA q h)⟩
  have hc1 : LtAll K cl B (upd H p o) vs' cs' := LtAll.keep (Evl.Ex.refl B) cs' vs' (fun q h => ⟨(LtAll.there cs' vs' hc q h).1, upd_ne (pc' q h)⟩) hc
  have ew : w = .ref p := by cases hw; rfl
  subst ew
  have hall := hp (.nd p h' cs') B (upd H p o) (Evl.Ex.refl B) keepA (.nd hn hc1)
  refine ⟨fun q u h => ?_, fun q u h => ?_, fun q u h1 h2 => ?_, hall, ?_, fun q h => ?_⟩
  · rw [upd_ne (fun z => by subst z; rw [hb] at h; cases h)]; exact r.exB q u h
  · rw [upd_ne (fun z => by subst z; rw [r.off _ pg] at h; cases h)]; exact r.exF q u h
  · by_cases z : q = p
    · subst z; rw [upd_same] at h1; cases h1; exact own
    · rw [upd_ne z] at h1; exact r.out q u h1 h2
  · rw [e2]
    simp only [TL.addrs, ho', if_true]
    refine List.nodup_append.mpr ⟨List.nodup_append.mpr ⟨n2.1, List.nodup_append.mpr ⟨by simp, nd, fun a ha b hb' z => ?_⟩, fun a ha b hb' z => ?_⟩, n1.2.1, fun a ha b hb' z => ?_⟩
    · subst z
      simp at ha
      exact pc' a hb' ha
    · subst z
      rcases List.mem_append.mp hb' with h | h
      · simp at h
        exact pA a (by simp [ha]) h
      · exact cross a (by simp [ha]) h
    · subst z
      rcases List.mem_append.mp ha with h | h
      · exact n1.2.2 a (by simp [h]) a hb' rfl
      · rcases List.mem_append.mp h with h | h
        · simp at h
          exact pA a (by simp [hb']) h
        · exact cross a (by simp [hb']) h
  · rw [e2] at h
    simp only [TL.addrs, ho', if_true, List.mem_append] at h
    rcases h with (h | h | h) | h
    · exact r.off q (inA q (by simp [h]))
    · simp at h; subst h; exact r.off q pg
    · rcases hq q h with h1 | ⟨_, h1⟩
      · exact r.off q (by rw [e1]; simp [h1])
      · exact h1
    · exact r.off q (inA q (by simp [h]))
/-! ### roots -/
end
end Fx

/-! Roots that come, go and are lent; slots. -/
namespace Fx
open PySem L2
open Evl (Ex)
variable {cl : String → Addr}
theorem free_of {B H : Hp} (e : Ex B H) {p : Addr} (h : H p = none) : B p = none := by
  cases z : B p with
  | none => rfl
  | some u => rw [e p u z] at h; cases h
section
variable {K : PySem.W.Frag} {B F H B' F' H' : Hp} {G G' X M M' : List LT} {us us' ws ms ms' vs : List V} {u : LT} {v w : V} {p : Addr} {o : HO}
theorem Rl.re (r : Rl K cl B F H G us) (a : LtAll K cl B H us' G') (n : (addrsAll G').Nodup) (s : ∀ q ∈ addrsAll G', q ∈ addrsAll G) : Rl K cl B F H G' us' :=
  ⟨r.exB, r.exF, r.out, a, n, fun q hq => r.off q (s q hq)⟩
theorem Rl.left (r : Rl K cl B F H (G ++ X) (us ++ ws)) (h : us.length = G.length) : Rl K cl B F H G us := by
  obtain ⟨us', ws', e, a, b⟩ := LtAll.split r.at_
  have : us' = us := (List.append_inj_left e (by rw [h, a.length])).symm
  subst this
  have n := r.nod
  rw [addrsAll_append] at n
  exact r.re a (List.nodup_append.mp n).1 fun q hq => by rw [addrsAll_append]; simp [hq]
theorem Rl.addpy (r : Rl K cl B F H G us) {ds : List PyData} (h : DpAll K B vs ds) : Rl K cl B F H (G ++ ds.map TL.py) (us ++ vs) :=
  r.re (r.at_.append (LtAll.of_py h)) (by rw [addrsAll_append, addrsAll_py, List.append_nil]; exact r.nod) fun q hq => by rw [addrsAll_append, addrsAll_py, List.append_nil] at hq; exact hq
theorem Rl.free (r : Rl K cl B F H G us) (h : H p = none) : p ∉ addrsAll G := fun z => by
  obtain ⟨_, o, e, _⟩ := r.there p z
  rw [h] at e; cases e
/-- the last roots become the children of a new node -/
theorem Rl.pack {h : Hd} (r : Rl K cl B F H (G ++ X) (us ++ ws)) (hl : us.length = G.length) (hp : H p = none) (ho : h.own = true) (own : OwnO o) (hn : Node K cl B (upd H p o) p h ws) :
    Rl K cl B F (upd H p o) (G ++ [.nd p h X]) (us ++ [.ref p]) := by
  have g := Gw.ow r.exB hp own
  have r2 := r.grow g
  have fr := r.free hp
  have n := r.nod
  rw [addrsAll_append] at n fr
  obtain ⟨us', ws', e, a, b⟩ := LtAll.split r2.at_
  have e1 : us' = us := (List.append_inj_left e (by rw [hl, a.length])).symm
  subst e1
  have e2 : ws' = ws := (List.append_cancel_left e).symm
  subst e2
  refine ⟨r2.exB, r2.exF, r2.out, a.append (.cons (.nd hn b) .nil), ?_, fun q hq => ?_⟩
  · rw [addrsAll_append]
    simp only [addrsAll, TL.addrs, ho, if_true, List.append_nil]
    have m := List.nodup_append.mp n
    refine List.nodup_append.mpr ⟨m.1, List.nodup_append.mpr ⟨by simp, m.2.1, fun a ha b hb z => ?_⟩, fun a ha b hb z => ?_⟩
    · subst z; simp at ha; subst ha; exact fr (by simp [hb])
    · subst z
      rcases List.mem_append.mp hb with h | h
      · simp at h; subst h; exact fr (by simp [ha])
      · exact m.2.2 a ha a h rfl
  · rw [addrsAll_append] at hq
    simp only [addrsAll, TL.addrs, ho, if_true, List.append_nil, List.mem_append] at hq
    rcases hq with h | h | h
    · exact r.off q (by rw [addrsAll_append]; simp [h])
    · simp at h; subst h; exact free_of r.exF hp
    · exact r.off q (by rw [addrsAll_append]; simp [h])
theorem Rl.packT (r : Rl K cl B F H (G ++ X) (us ++ ws)) (hl : us.length = G.length) (hp : H p = none) :
    Rl K cl (upd B p (.tup ws)) F (upd H p (.tup ws)) (G ++ [.nd p .tup X]) (us ++ [.ref p]) := by
  have g := Gw.nw (o := .tup ws) r.exB hp
  have r2 := r.grow g
  obtain ⟨us', ws', e, a, b⟩ := LtAll.split r2.at_
  have e1 : us' = us := (List.append_inj_left e (by rw [hl, a.length])).symm
  subst e1
  have e2 : ws' = ws := (List.append_cancel_left e).symm
  subst e2
  refine r2.re (a.append (.cons (.nd (SqT.of upd_same) b) .nil)) ?_ fun q hq => ?_
  · have := r2.nod
    rw [addrsAll_append] at this ⊢
    simpa [addrsAll, TL.addrs, Hd.own] using this
  · rw [addrsAll_append] at hq ⊢
    simpa [addrsAll, TL.addrs, Hd.own] using hq
theorem mem_set : ∀ (cs : List LT) (i : Nat) (c : LT) (q : Addr), q ∈ addrsAll (cs.set i c) → q ∈ addrsAll cs ∨ q ∈ c.addrs
  | [], i, c, q, h => by simp [addrsAll] at h
  | x :: cs, 0, c, q, h => by
    simp only [List.set_cons_zero, addrsAll, List.mem_append] at h ⊢
    rcases h with h | h
    · exact .inr h
    · exact .inl (.inr h)
  | x :: cs, i + 1, c, q, h => by
    simp only [List.set_cons_succ, addrsAll, List.mem_append] at h ⊢
    rcases h with h | h
    · exact .inl (.inl h)
    · rcases mem_set cs i c q h with h | h
      · exact .inl (.inr h)
      · exact .inr h
theorem nod_set : ∀ (cs : List LT) (i : Nat) (c : LT), (addrsAll cs).Nodup → c.addrs.Nodup → (∀ q ∈ c.addrs, q ∉ addrsAll cs) → (addrsAll (cs.set i c)).Nodup
  | [], i, c, h, _, _ => by simpa using h
  | x :: cs, 0, c, h, hc, hd => by
    simp only [List.set_cons_zero, addrsAll] at h hd ⊢
    have m := List.nodup_append.mp h
    exact List.nodup_append.mpr ⟨hc, m.2.1, fun a ha b hb z => hd a ha (by simp [z, hb])⟩
  | x :: cs, i + 1, c, h, hc, hd => by
    simp only [List.set_cons_succ, addrsAll] at h hd ⊢
    have m := List.nodup_append.mp h
    refine List.nodup_append.mpr ⟨m.1, nod_set cs i c m.2.1 hc (fun q hq z => hd q hq (by simp [z])), fun a ha b hb z => ?_⟩
    subst z
    rcases mem_set cs i c a hb with h1 | h1
    · exact m.2.2 a ha a h1 rfl
    · exact hd a h1 (by simp [ha])
theorem mem_erase : ∀ (cs : List LT) (i : Nat), (addrsAll (cs.eraseIdx i)).Sublist (addrsAll cs)
  | [], i => by simp
  | x :: cs, 0 => by simp [addrsAll]
  | x :: cs, i + 1 => by simp only [List.eraseIdx_cons_succ, addrsAll]; exact List.Sublist.append (List.Sublist.refl _) (mem_erase cs i)
theorem Rl.last (r : Rl K cl B F H (G ++ [u]) (us ++ [v])) : Rl K cl B F H G us ∧ LtAt K cl B H v u ∧ u.addrs.Nodup ∧ (∀ q ∈ u.addrs, q ∉ addrsAll G ∧ F q = none) ∧ us.length = G.length := by
  obtain ⟨us', ws', e, a, b⟩ := LtAll.split r.at_
  cases b with
  | cons b1 b2 =>
    cases b2
    obtain ⟨rfl, e2⟩ := List.append_inj' e rfl
    cases e2
    have n := r.nod
    rw [addrsAll_append] at n
    simp only [addrsAll, List.append_nil] at n
    have m := List.nodup_append.mp n
    exact ⟨r.left a.length, b1, m.2.1, fun q hq => ⟨fun z => m.2.2 q z q hq rfl, r.off q (by rw [addrsAll_append]; simp [addrsAll, hq])⟩, a.length⟩
/-- the last root is put in another one's place -/
theorem Rl.setLast (r : Rl K cl B F H (G ++ [u]) (us ++ [v])) (i : Nat) : Rl K cl B F H (G.set i u) (us.set i v) := by
  obtain ⟨r1, h1, h2, h3, _⟩ := r.last
  refine r.re (r1.at_.setAt h1) (nod_set G i u r1.nod h2 fun q hq => (h3 q hq).1) fun q hq => ?_
  rw [addrsAll_append]
  rcases mem_set G i u q hq with h | h
  · simp [h]
  · simp [addrsAll, h]
/-- what stands at a place goes out, to be a root of its own -/
theorem Rl.out1 (r : Rl K cl B F H G us) {π : List Nat} (e : gget G π = some u) : ∃ w, LtAt K cl B H w u ∧ Rl K cl B F H (gput G π (.un w) ++ [u]) (us ++ [w]) := by
  obtain ⟨A1, A2, e1, e2, e3⟩ := at_root G π _ e
  obtain ⟨w, hw, hp⟩ := e3 K B H us r.at_
  refine ⟨w, hw, r.re ((hp (.un w) B H (Evl.Ex.refl B) (fun q hq => ⟨(r.there q (by rw [e1]; rcases List.mem_append.mp hq with h | h <;> simp [h])).1, rfl⟩) .un).append (.cons hw .nil)) ?_ fun q hq => ?_⟩
  · have n := r.nod
    rw [e1] at n
    rw [addrsAll_append, e2]
    simp only [TL.addrs, addrsAll, List.append_nil]
    have n1 := List.nodup_append.mp n
    have n2 := List.nodup_append.mp n1.1
    refine List.nodup_append.mpr ⟨List.nodup_append.mpr ⟨n2.1, n1.2.1, fun a ha b hb z => n1.2.2 a (by simp [ha]) b hb z⟩, n2.2.1, fun a ha b hb z => ?_⟩
    subst z
    rcases List.mem_append.mp ha with h | h
    · exact n2.2.2 a h a hb rfl
    · exact n1.2.2 a (by simp [hb]) a h rfl
  · rw [addrsAll_append, e2] at hq
    rw [e1]
    simp only [TL.addrs, addrsAll, List.append_nil, List.mem_append] at hq ⊢
    rcases hq with (h | h) | h <;> simp [h]
/-- the last root goes to where something is not known -/
theorem Rl.in1 (r : Rl K cl B F H (G ++ [u]) (us ++ [w])) {π : List Nat} (e : gget G π = some (.un w)) : Rl K cl B F H (gput G π u) us := by
  obtain ⟨r1, h1, h2, h3, _⟩ := r.last
  obtain ⟨A1, A2, e1, e2, e3⟩ := at_root G π _ e
  obtain ⟨w', hw, hp⟩ := e3 K B H us r1.at_
  cases hw
  simp only [TL.addrs, List.append_nil] at e1
  refine r.re (hp u B H (Evl.Ex.refl B) (fun q hq => ⟨(r1.there q (by rw [e1]; exact hq)).1, rfl⟩) h1) ?_ fun q hq => ?_
  · have n := r1.nod
    rw [e1] at n
    rw [e2]
    have n1 := List.nodup_append.mp n
    refine List.nodup_append.mpr ⟨List.nodup_append.mpr ⟨n1.1, h2, fun a ha b hb z => ?_⟩, n1.2.1, fun a ha b hb z => ?_⟩
    · subst z; exact (h3 a hb).1 (by rw [e1]; simp [ha])
    · subst z
      rcases List.mem_append.mp ha with h | h
      · exact n1.2.2 a h a hb rfl
      · exact (h3 a h).1 (by rw [e1]; simp [hb])
  · rw [e2] at hq
    rw [addrsAll_append, e1]
    simp only [addrsAll, List.append_nil, List.mem_append] at hq ⊢
    rcases hq with (h | h) | h <;> simp [h]
/-! ### a call: the last roots are lent -/
noncomputable def lendB (H : Hp) (A : List Addr) : Hp := fun q => if q ∈ A then none else H q
theorem lend_in {A : List Addr} {q : Addr} (h : q ∈ A) : lendB H A q = none := if_pos h
theorem lend_out {A : List Addr} {q : Addr} (h : q ∉ A) : lendB H A q = H q := if_neg h
theorem Rl.lend (r : Rl K cl B F H (G ++ M) (us ++ ms)) (hl : us.length = G.length) : Rl K cl B (lendB H (addrsAll M)) H M ms := by
  obtain ⟨us', ws', e, a, b⟩ := LtAll.split r.at_
  have e1 : us' = us := (List.append_inj_left e (by rw [hl, a.length])).symm
  subst e1
  have e2 : ws' = ms := (List.append_cancel_left e).symm
  subst e2
  have n := r.nod
  rw [addrsAll_append] at n
  refine ⟨r.exB, fun q o h => ?_, r.out, b, (List.nodup_append.mp n).2.1, fun q hq => lend_in hq⟩
  by_cases z : q ∈ addrsAll M
  · rw [lend_in z] at h; cases h
  · rw [lend_out z] at h; exact h
theorem Rl.back (r : Rl K cl B F H (G ++ M) (us ++ ms)) (hl : us.length = G.length) (k : Kp (lendB H (addrsAll M)) B B') (r' : Rl K cl B' (lendB H (addrsAll M)) H' M' ms') : Rl K cl B' F H' (G ++ M') (us ++ ms') ∧ Kp F B B' := by
  have rG := r.left hl
  have n := r.nod
  rw [addrsAll_append] at n
  have m := List.nodup_append.mp n
  have offM : ∀ q ∈ addrsAll M, F q = none := fun q hq => r.off q (by rw [addrsAll_append]; simp [hq])
  have kF : ∀ q, F q ≠ none → lendB H (addrsAll M) q = H q := fun q h => lend_out fun z => h (offM q z)
  have kG : ∀ q ∈ addrsAll G, B' q = none ∧ H' q = H q := fun q hq => by
    obtain ⟨h1, o, h2, _⟩ := rG.there q hq
    have l : lendB H (addrsAll M) q = some o := by rw [lend_out fun z => m.2.2 q hq q z rfl]; exact h2
    exact ⟨k.new q (by rw [l]; simp) h1, by rw [h2]; exact r'.exF q o l⟩
  have fr : ∀ q ∈ addrsAll M', q ∈ addrsAll M ∨ H q = none := fun q hq => by
    by_cases z : q ∈ addrsAll M
    · exact .inl z
    · right
      have := r'.off q hq
      rw [lend_out z] at this
      exact this
  have hF : Ex F H' := fun q o h => r'.exF q o (by rw [kF q (by rw [h]; simp)]; exact r.exF q o h)
  refine ⟨⟨r'.exB, hF, r'.out, (LtAll.keep k.b G us kG rG.at_).append r'.at_, ?_, fun q hq => ?_⟩, k.b, fun q h1 h2 => ?_⟩
  · rw [addrsAll_append]
    refine List.nodup_append.mpr ⟨m.1, r'.nod, fun a ha b hb z => ?_⟩
    subst z
    rcases fr a hb with h | h
    · exact m.2.2 a ha a h rfl
    · obtain ⟨_, o, h2, _⟩ := rG.there a ha
      rw [h] at h2; cases h2
  · rw [addrsAll_append] at hq
    rcases List.mem_append.mp hq with h | h
    · exact rG.off q h
    · rcases fr q h with h | h
      · exact offM q h
      · exact free_of r.exF h
  · refine k.new q ?_ h2
    rw [kF q h1]
    cases e : F q with
    | none => exact absurd e h1
    | some o => rw [r.exF q o e]; simp
/-! ### the last root becomes data that stays -/
noncomputable def frzB (B H : Hp) (A : List Addr) : Hp := fun q => if q ∈ A then H q else B q
theorem Rl.freeze (r : Rl K cl B F H (G ++ [u]) (us ++ [v])) {d : PyData} (hd : u.data = some d) : Rl K cl (frzB B H u.addrs) F H G us ∧ Kp F B (frzB B H u.addrs) ∧ Dp K (frzB B H u.addrs) v d := by
  obtain ⟨r1, h1, h2, h3, _⟩ := r.last
  have th := LtAt.there u v h1
  have b : Ex B (frzB B H u.addrs) := fun q o e => by
    unfold frzB
    rw [if_neg fun z => by rw [(th q z).1] at e; cases e]
    exact e
  have e' : Ex (frzB B H u.addrs) H := fun q o e => by
    unfold frzB at e
    split at e
    · exact e
    · exact r.exB q o e
  refine ⟨r1.keep e' r.exF (fun q o e1 e2 => r.out q o e1 ?_) b fun q hq => ⟨?_, rfl⟩, ⟨b, fun q e1 e2 => ?_⟩, LtAt.data b u v d h1 hd fun q hq => if_pos hq⟩
  · cases z : B q with
    | none => rfl
    | some w => rw [b q w z] at e2; cases e2
  · unfold frzB
    rw [if_neg fun z => (h3 q z).1 hq]
    exact (r1.there q hq).1
  · unfold frzB
    rw [if_neg fun z => e1 (h3 q z).2]
    exact e2
end
/-! ### slots -/
inductive Sv where
  | py (d : PyData)
  | pt (π : List Nat)
  | at (v : V)
def SvAt (K : PySem.W.Frag) (B : Hp) (G : List LT) (v : V) : Sv → Prop
  | .py d => Dp K B v d
  | .pt π => pv G π = some v
  | .at u => v = u
structure SlAt (K : PySem.W.Frag) (B : Hp) (G : List LT) (σ : List (Option V)) (sl : List (Option Sv)) : Prop where
  len : σ.length = sl.length
  has : ∀ (i : Nat) (s : Sv), sl[i]? = some (some s) → ∃ v, σ[i]? = some (some v) ∧ SvAt K B G v s
/-- what is told of a place that is no more is forgotten -/
def msk1 (bad : List Nat → Bool) : Option Sv → Option Sv
  | some (.pt π) => if bad π then none else some (.pt π)
  | s => s
def msk (bad : List Nat → Bool) (sl : List (Option Sv)) : List (Option Sv) := sl.map (msk1 bad)
section
variable {K : PySem.W.Frag} {B B' : Hp} {G G' : List LT} {σ : List (Option V)} {sl : List (Option Sv)} {v : V} {s : Sv} {i : Nat} {bad : List Nat → Bool}
theorem set_cases {α : Type} {l : List α} {i j : Nat} {a x : α} (h : (l.set i a)[j]? = some x) : (i = j ∧ x = a ∧ i < l.length) ∨ (i ≠ j ∧ l[j]? = some x) := by
  by_cases e : i = j
  · subst e
    have hl : i < l.length := by
      refine Classical.byContradiction fun hn => ?_
      rw [List.getElem?_eq_none (by rw [List.length_set]; omega)] at h
      cases h
    rw [List.getElem?_set_self hl] at h
    cases h
    exact .inl ⟨rfl, rfl, hl⟩
  · rw [List.getElem?_set_ne e] at h
    exact .inr ⟨e, h⟩
theorem SlAt.set (a : SlAt K B G σ sl) (h : SvAt K B G v s) : SlAt K B G (σ.set i (some v)) (sl.set i (some s)) := ⟨by simp [a.len], fun j t hj => by
  rcases set_cases hj with ⟨rfl, e, hl⟩ | ⟨ne, hj⟩
  · cases e
    exact ⟨v, by rw [List.getElem?_set_self (by rw [a.len]; exact hl)], h⟩
  · obtain ⟨u, h1, h2⟩ := a.has j t hj
    exact ⟨u, by rw [List.getElem?_set_ne ne]; exact h1, h2⟩⟩
theorem SlAt.forget (a : SlAt K B G σ sl) : SlAt K B G (σ.set i none) (sl.set i none) := ⟨by simp [a.len], fun j t hj => by
  rcases set_cases hj with ⟨rfl, e, hl⟩ | ⟨ne, hj⟩
  · cases e
  · obtain ⟨u, h1, h2⟩ := a.has j t hj
    exact ⟨u, by rw [List.getElem?_set_ne ne]; exact h1, h2⟩⟩
/-- a slot's value is there, nothing is told of it -/
theorem SlAt.hide (a : SlAt K B G σ sl) : SlAt K B G σ (sl.set i none) := ⟨by simp [a.len], fun j t hj => by
  rcases set_cases hj with ⟨rfl, e, hl⟩ | ⟨ne, hj⟩
  · cases e
  · exact a.has j t hj⟩
theorem SlAt.mask (a : SlAt K B G σ sl) (e : Ex B B') (k : ∀ π v, bad π = false → pv G π = some v → pv G' π = some v) : SlAt K B' G' σ (msk bad sl) := ⟨by simp [msk, a.len], fun j t hj => by
  unfold msk at hj
  rw [List.getElem?_map] at hj
  cases ej : sl[j]? with
  | none => rw [ej] at hj; cases hj
  | some o =>
    rw [ej] at hj
    simp only [Option.map_some, Option.some.injEq] at hj
    cases o with
    | none => cases hj
    | some s =>
      obtain ⟨v, h1, h2⟩ := a.has j s ej
      cases s with
      | py d => cases hj; exact ⟨v, h1, Dp.mono e d v h2⟩
      | «at» x => cases hj; exact ⟨v, h1, h2⟩
      | pt π =>
        simp only [msk1] at hj
        cases eb : bad π with
        | true => rw [eb] at hj; cases hj
        | false =>
          rw [eb] at hj
          cases hj
          exact ⟨v, h1, k π v eb h2⟩⟩
theorem SvAt.keep (e : Ex B B') (k : ∀ π, s = .pt π → pv G' π = pv G π) (h : SvAt K B G v s) : SvAt K B' G' v s := by
  cases s with
  | py d => exact Dp.mono e d v h
  | «at» x => exact h
  | pt π => show pv G' π = some v; rw [k π rfl]; exact h
theorem SlAt.keep (a : SlAt K B G σ sl) (e : Ex B B') (k : ∀ π v, pv G π = some v → pv G' π = some v) : SlAt K B' G' σ sl := ⟨a.len, fun j s hj => by
  obtain ⟨v, h1, h2⟩ := a.has j s hj
  refine ⟨v, h1, ?_⟩
  cases s with
  | py d => exact Dp.mono e d v h2
  | «at» x => exact h2
  | pt π => exact k π v h2⟩
theorem SlAt.snoc (a : SlAt K B G σ sl) (h : SvAt K B G v s) : SlAt K B G (σ ++ [some v]) (sl ++ [some s]) := ⟨by simp [a.len], fun j t hj => by
  by_cases hl : j < sl.length
  · rw [List.getElem?_append_left hl] at hj
    obtain ⟨u, h1, h2⟩ := a.has j t hj
    exact ⟨u, by rw [List.getElem?_append_left (by rw [a.len]; exact hl)]; exact h1, h2⟩
  · rw [List.getElem?_append_right (by omega)] at hj
    have : j - sl.length = 0 := by
      cases e : j - sl.length with
      | zero => rfl
      | succ n => rw [e] at hj; simp at hj
    rw [this] at hj
    simp at hj
    subst hj
    have ej : j = σ.length := by rw [a.len]; omega
    subst ej
    exact ⟨v, by simp, h⟩⟩
end
end Fx

/-! Operations on data as functions. -/
namespace Fx
open PySem L2
open Evl (Ex)
theorem ofString_inj {a b : String} : Str.ofString a = Str.ofString b ↔ a = b := by
  refine ⟨fun h => ?_, fun h => by rw [h]⟩
  rw [Str.ofString_eq_toList, Str.ofString_eq_toList] at h
  have h := congrArg (fun s : Str => s.cps.toList) h
  simp at h
  have inj : ∀ l m : List Char, l.map Char.toNat = m.map Char.toNat → l = m := by
    intro l
    induction l with
    | nil => intro m h; cases m with
      | nil => rfl
      | cons => cases h
    | cons a l ih => intro m h; cases m with
      | nil => cases h
      | cons b m =>
        simp only [List.map_cons, List.cons.injEq] at h
        have e : a = b := by
          apply Char.ext
          exact UInt32.toNat_inj.mp h.1
        rw [e, ih m h.2]
  exact String.toList_inj.mp (inj _ _ h)
/-! ### two operands -/
def mulOk (i j : Int) : Bool := (decide (-(2 ^ 64) < i) && decide (i < 2 ^ 64)) || (decide (-(2 ^ 64) < j) && decide (j < 2 ^ 64)) || decide ((Builtin.Int.intBits i : Int) + (Builtin.Int.intBits j : Int) ≤ 134217728)
def addF : PyData → PyData → Option PyData
  | .int i, .int j => some (.int (i + j))
  | .str x, .str y => if x.length + y.length ≤ 16777216 then some (.str (x ++ y)) else none
  | .tuple xs, .tuple ys => if xs.length + ys.length ≤ 16777216 then some (.tuple (xs ++ ys)) else none
  | _, _ => none
def subF : PyData → PyData → Option PyData
  | .int i, .int j => some (.int (i - j))
  | _, _ => none
def mulF : PyData → PyData → Option PyData
  | .int i, .int j => if mulOk i j then some (.int (i * j)) else none
  | _, _ => none
def fdivF : PyData → PyData → Option PyData
  | .int i, .int j => if 0 < j ∧ j < 1073741824 then some (.int (i / j)) else none
  | _, _ => none
def modF : PyData → PyData → Option PyData
  | .int i, .int j => if 0 < j then some (.int (i % j)) else none
  | _, _ => none
def powF : PyData → PyData → Option PyData
  | .int i, .int j => if 0 ≤ j ∧ j ≤ 1000000 ∧ i.natAbs < 2 ^ 64 then some (.int (i ^ j.toNat)) else none
  | _, _ => none
/-- f is what op does -/
def IsBin (op : Operator) (f : PyData → PyData → Option PyData) : Prop := ∀ d e r, f d e = some r → Bin op d e r
theorem isAdd : IsBin .Add addF := fun d e r h => by
  unfold addF at h
  split at h
  · cases h; exact .add _ _
  · split at h
    · rename_i c; cases h; exact .cat _ _ c
    · cases h
  · split at h
    · rename_i c; cases h; exact .catT _ _ c
    · cases h
  · cases h
theorem isSub : IsBin .Sub subF := fun d e r h => by
  unfold subF at h
  split at h
  · cases h; exact .sub _ _
  · cases h
theorem isMul : IsBin .Mult mulF := fun d e r h => by
  unfold mulF at h
  split at h
  · split at h
    · rename_i c
      cases h
      refine .mul _ _ ?_
      unfold mulOk at c
      simp only [Bool.or_eq_true, Bool.and_eq_true, decide_eq_true_eq] at c
      rcases c with (c | c) | c
      · exact .inl (.inl c)
      · exact .inl (.inr c)
      · exact .inr c
    · cases h
  · cases h
theorem isFdiv : IsBin .FloorDiv fdivF := fun d e r h => by
  unfold fdivF at h
  split at h
  · split at h
    · rename_i c; cases h; exact .fdiv _ _ c
    · cases h
  · cases h
theorem isMod : IsBin .Mod modF := fun d e r h => by
  unfold modF at h
  split at h
  · split at h
    · rename_i c; cases h; exact .mod _ _ c
    · cases h
  · cases h
theorem isPow : IsBin .Pow powF := fun d e r h => by
  unfold powF at h
  split at h
  · split at h
    · rename_i c; cases h; exact .pow _ _ c
    · cases h
  · cases h
/-! ### comparisons -/
def ltF : PyData → PyData → Option Bool
  | .int i, .int j => some (decide (i < j))
  | .str x, .str y => some (decide (x.cps.toList < y.cps.toList))
  | _, _ => none
def leF : PyData → PyData → Option Bool
  | .int i, .int j => some (decide (i ≤ j))
  | .str x, .str y => some (!decide (y.cps.toList < x.cps.toList))
  | _, _ => none
def gtF : PyData → PyData → Option Bool
  | .int i, .int j => some (decide (j < i))
  | _, _ => none
def geF : PyData → PyData → Option Bool
  | .int i, .int j => some (decide (j ≤ i))
  | _, _ => none
def eqD (d e : PyData) : Option Bool := if SeqAt.shaped d && SeqAt.shaped e then some (PyData.eqv d e) else none
def eqF : PyData → PyData → Option Bool
  | .int i, .int j => some (decide (i = j))
  | .str i, .str j => some (decide (i = j))
  | .bool i, .bool j => some (decide (i = j))
  | d, e => eqD d e
def neF (d e : PyData) : Option Bool := match eqF d e with
  | some b => some (!b)
  | none => none
def isF : PyData → PyData → Option Bool
  | .bool a, .bool b => some (decide (a = b))
  | .none, .none => some true
  | .bool _, .none => some false
  | .int _, .none => some false
  | .str _, .none => some false
  | .list _, .none => some false
  | .tuple _, .none => some false
  | _, _ => none
def isntF (d e : PyData) : Option Bool := match isF d e with
  | some b => some (!b)
  | none => none
def IsCmp (op : CmpOp) (f : PyData → PyData → Option Bool) : Prop := ∀ d e b, f d e = some b → Cmp op d e b
theorem isLt : IsCmp .Lt ltF := fun d e b h => by
  unfold ltF at h
  split at h
  · cases h; exact .lt _ _
  · cases h; exact .ltS _ _
  · cases h
theorem isLe : IsCmp .LtE leF := fun d e b h => by
  unfold leF at h
  split at h
  · cases h; exact .le _ _
  · cases h; exact .leS _ _
  · cases h
theorem isGt : IsCmp .Gt gtF := fun d e b h => by
  unfold gtF at h
  split at h
  · cases h; exact .gt _ _
  · cases h
theorem isGe : IsCmp .GtE geF := fun d e b h => by
  unfold geF at h
  split at h
  · cases h; exact .ge _ _
  · cases h
theorem isEq : IsCmp .Eq eqF := fun d e b h => by
  unfold eqF at h
  split at h
  · cases h; exact .eqI _ _
  · cases h; exact .eqS _ _
  · cases h; exact .eqB _ _
  · unfold eqD at h
    split at h
    · rename_i c
      simp only [Bool.and_eq_true] at c
      cases h
      exact .eq _ _ c
    · cases h
theorem isNe : IsCmp .NotEq neF := fun d e b h => by
  unfold neF at h
  cases e1 : eqF d e with
  | none => rw [e1] at h; cases h
  | some c =>
    rw [e1] at h
    cases h
    unfold eqF at e1
    split at e1
    · cases e1; exact .neI _ _
    · cases e1; exact .neS _ _
    · cases e1; exact .neB _ _
    · unfold eqD at e1
      split at e1
      · rename_i c
        simp only [Bool.and_eq_true] at c
        cases e1
        exact .ne _ _ c
      · cases e1
theorem isIs : IsCmp .Is isF := fun d e b h => by
  unfold isF at h
  split at h <;> first | (cases h; exact .isB _ _) | (cases h; exact .isN _ _ (by simp)) | cases h
theorem isIsnt : IsCmp .IsNot isntF := fun d e b h => by
  unfold isntF at h
  cases e1 : isF d e with
  | none => rw [e1] at h; cases h
  | some c =>
    rw [e1] at h
    cases h
    unfold isF at e1
    split at e1 <;> first | (cases e1; exact .notB _ _) | (cases e1; exact .notN _ _ (by simp)) | cases e1
/-! ### places, lengths, kinds -/
def idxF : PyData → PyData → Option PyData
  | .list ds, .int i => atI ds i
  | .tuple ds, .int i => atI ds i
  | .str z, .int i => if z.length ≤ 16777216 then match atI z.cps.toList i with
    | some c => some (.str ⟨#[c]⟩)
    | none => none
    else none
  | _, _ => none
theorem isIdx {d e r : PyData} (h : idxF d e = some r) : Idx d e r := by
  unfold idxF at h
  split at h
  · exact .lst _ _ _ h
  · exact .tup _ _ _ h
  · split at h
    · rename_i c
      split at h
      · rename_i e1; cases h; exact .str _ _ _ ⟨c, e1⟩
      · cases h
    · cases h
  · cases h
def lenF : PyData → Option Int
  | .list ds => some ds.length
  | .tuple ds => some ds.length
  | .str z => if z.length ≤ 16777216 then some z.length else none
  | _ => none
theorem isLen {d : PyData} {n : Int} (h : lenF d = some n) : Len d n := by
  unfold lenF at h
  split at h
  · cases h; exact .lst _
  · cases h; exact .tup _
  · split at h
    · rename_i c; cases h; exact .str _ c
    · cases h
  · cases h
def kindF : PyData → Option String
  | .none => some "NoneType"
  | .bool _ => some "bool"
  | .int _ => some "int"
  | .str _ => some "str"
  | .list _ => some "list"
  | .tuple _ => some "tuple"
  | .dict _ => none
theorem isKind {d : PyData} {n : String} (h : kindF d = some n) : Kind d n := by
  unfold kindF at h
  split at h <;> first | (cases h; first | exact .non | exact .bl _ | exact .int _ | exact .str _ | exact .lst _ | exact .tup _) | cases h
/-- is a thing of the kind n one of the built-in class m -/
def kitF (n m : String) : Bool := n == m || (n == "bool" && m == "int")
theorem kitF_of {n m : String} (hn : n ∈ ["NoneType", "bool", "int", "str", "list", "tuple", "dict"]) (hm : m ∈ ["list", "tuple", "str", "int", "bool", "dict"]) : kitB n m = some (kitF n m) := by
  simp only [List.mem_cons, List.not_mem_nil, or_false] at hn hm
  rcases hn with rfl | rfl | rfl | rfl | rfl | rfl | rfl <;> rcases hm with rfl | rfl | rfl | rfl | rfl | rfl <;> decide +kernel
theorem kind_mem {d : PyData} {n : String} (h : kindF d = some n) : n ∈ ["NoneType", "bool", "int", "str", "list", "tuple", "dict"] := by
  unfold kindF at h
  split at h <;> first | (cases h; simp) | cases h
/-! ### keys of dicts -/
def keyF : PyData → Option Key
  | .int i => some (.inl i)
  | .str x => some (.inr x)
  | _ => none
theorem key_val {K : PySem.W.Frag} {H : Hp} {v : V} {d : PyData} {k : Key} (h : keyF d = some k) (hv : Dp K H v d) : v = kV k := by
  unfold keyF at h
  split at h
  · cases h; cases hv; rfl
  · cases h; cases hv; rfl
  · cases h
def ixS : List Str → Str → Option Nat
  | [], _ => none
  | g :: r, f => if g = f then some 0 else match ixS r f with
    | some i => some (i + 1)
    | none => none
def ixK {κ : Type} [DecidableEq κ] : List κ → κ → Option Nat
  | [], _ => none
  | g :: r, f => if g = f then some 0 else match ixK r f with
    | some i => some (i + 1)
    | none => none
end Fx

/-! A body's state; expressions that change nothing. -/
namespace Fx
open PySem L2
open Evl (Ex)
variable {cl : String → Addr}
/-- slots, values on the way, trees; bs: how many roots stay -/
structure Rh where
  sl : List (Option Sv)
  tm : List (Option Sv)
  g : List T
  bs : Nat
structure Rg (K : PySem.W.Frag) (cl : String → Addr) (B F H : Hp) (ul : List V) (σ : St) (tv : List V) (ρ : Rh) (G : List LT) (us : List V) : Prop where
  er : G.map TL.er = ρ.g
  rl : Rl K cl B F H G us
  bs : σ.length + ul.length = ρ.bs
  le : ρ.bs ≤ G.length
  ul : (us.drop σ.length).take ul.length = ul
  sl : SlAt K B G σ ρ.sl
  tm : SlAt K B G (tv.map some) ρ.tm
section
variable {K : PySem.W.Frag} {B F H B' H' : Hp} {ul tv us : List V} {σ : St} {ρ : Rh} {G : List LT}
theorem Rg.grow (r : Rg K cl B F H ul σ tv ρ G us) (g : Gw B H B' H') : Rg K cl B' F H' ul σ tv ρ G us :=
  ⟨r.er, r.rl.grow g, r.bs, r.le, r.ul, r.sl.keep g.b (fun _ _ h => h), r.tm.keep g.b (fun _ _ h => h)⟩
theorem Rg.get (r : Rg K cl B F H ul σ tv ρ G us) {π : List Nat} {t : T} (e : gget ρ.g π = some t) : ∃ u, gget G π = some u ∧ u.er = t := by
  rw [← r.er, gget_er] at e
  cases h : gget G π with
  | none => rw [h] at e; cases e
  | some u => rw [h] at e; cases e; exact ⟨u, rfl, rfl⟩
end
/-- the value is as s tells, the trees as they were -/
def Pv (K : PySem.W.Frag) (cl : String → Addr) (te : TE) (f : Rh → Option Sv) : Prop := ∀ (B F H : Hp) (ul : List V) (σ : St) (tv : List V) (ρ : Rh) (G : List LT) (us : List V) (s : Sv), Rg K cl B F H ul σ tv ρ G us → f ρ = some s →
  ∀ Q : VK, (∀ v B' H', Gw B H B' H' → SvAt K B' G v s → Q v H') → te σ H Q
/-- the value, read now -/
def Dv (K : PySem.W.Frag) (cl : String → Addr) (te : TE) (f : Rh → Option PyData) : Prop := ∀ (B F H : Hp) (ul : List V) (σ : St) (tv : List V) (ρ : Rh) (G : List LT) (us : List V) (d : PyData), Rg K cl B F H ul σ tv ρ G us → f ρ = some d →
  ∀ Q : VK, (∀ v B' H', Gw B H B' H' → Dp K H' v d → Q v H') → te σ H Q
/-- a new object of data -/
def Nv (K : PySem.W.Frag) (cl : String → Addr) (te : TE) (f : Rh → Option (Hd × List PyData)) : Prop := ∀ (B F H : Hp) (ul : List V) (σ : St) (tv : List V) (ρ : Rh) (G : List LT) (us : List V) (h : Hd) (ds : List PyData), Rg K cl B F H ul σ tv ρ G us → f ρ = some (h, ds) →
  ∀ Q : VK, (∀ p vs B' H' o, Gw B H B' H' → H' p = none → h.own = true → OwnO o → Node K cl B' (upd H' p o) p h vs → DpAll K B' vs ds → Q (.ref p) (upd H' p o)) → te σ H Q
def Pa (K : PySem.W.Frag) (cl : String → Addr) (ta : TA) (f : Rh → Option (List PyData)) : Prop := ∀ (B F H : Hp) (ul : List V) (σ : St) (tv : List V) (ρ : Rh) (G : List LT) (us : List V) (ds : List PyData), Rg K cl B F H ul σ tv ρ G us → f ρ = some ds →
  ∀ Q : List V → Hp → Prop, (∀ vs B' H', Gw B H B' H' → DpAll K B' vs ds → Q vs H') → ta σ H Q
def Da (K : PySem.W.Frag) (cl : String → Addr) (ta : TA) (f : Rh → Option (List PyData)) : Prop := ∀ (B F H : Hp) (ul : List V) (σ : St) (tv : List V) (ρ : Rh) (G : List LT) (us : List V) (ds : List PyData), Rg K cl B F H ul σ tv ρ G us → f ρ = some ds →
  ∀ Q : List V → Hp → Prop, (∀ vs B' H', Gw B H B' H' → DpAll K H' vs ds → Q vs H') → ta σ H Q
def Pt (K : PySem.W.Frag) (cl : String → Addr) (t : TT) (f : Rh → Option Bool) : Prop := ∀ (B F H : Hp) (ul : List V) (σ : St) (tv : List V) (ρ : Rh) (G : List LT) (us : List V) (b : Bool), Rg K cl B F H ul σ tv ρ G us → f ρ = some b →
  ∀ Q : Bool → Hp → Prop, (∀ B' H', Gw B H B' H' → Q b H') → t σ H Q
def Po (K : PySem.W.Frag) (cl : String → Addr) (t : TO) (f : Rh → Option (Option Int)) : Prop := ∀ (B F H : Hp) (ul : List V) (σ : St) (tv : List V) (ρ : Rh) (G : List LT) (us : List V) (o : Option Int), Rg K cl B F H ul σ tv ρ G us → f ρ = some o →
  ∀ Q : Option Int → Hp → Prop, (∀ B' H', Gw B H B' H' → Q o H') → t σ H Q
/-! ### what they come to -/
def vVar (i : Nat) (ρ : Rh) : Option Sv := match ρ.sl[i]? with
  | some (some s) => some s
  | _ => none
def vC (d : PyData) (_ : Rh) : Option Sv := some (.py d)
def vAt (v : V) (_ : Rh) : Option Sv := some (.at v)
def dat (ρ : Rh) : Sv → Option PyData
  | .py d => some d
  | .pt π => match gget ρ.g π with
    | some t => t.data
    | none => none
  | .at _ => none
/-- as data, read now -/
def vD (f : Rh → Option Sv) (ρ : Rh) : Option PyData := match f ρ with
  | some s => dat ρ s
  | none => none
/-- data without lists -/
def vS (f : Rh → Option PyData) (ρ : Rh) : Option Sv := match f ρ with
  | some d => if noList d then some (.py d) else none
  | none => none
def vPy (f : Rh → Option Sv) (ρ : Rh) : Option PyData := match f ρ with
  | some (.py d) => some d
  | _ => none
def d2 (op : PyData → PyData → Option PyData) (f g : Rh → Option PyData) (ρ : Rh) : Option PyData := match f ρ, g ρ with
  | some d, some e => op d e
  | _, _ => none
def dB (op : PyData → PyData → Option Bool) (f g : Rh → Option PyData) (ρ : Rh) : Option Bool := match f ρ, g ρ with
  | some d, some e => op d e
  | _, _ => none
def vB (f : Rh → Option Bool) (ρ : Rh) : Option Sv := match f ρ with
  | some b => some (.py (.bool b))
  | none => none
def bV (f : Rh → Option Sv) (ρ : Rh) : Option Bool := match f ρ with
  | some (.py (.bool b)) => some b
  | _ => none
def child (π : List Nat) (k : Nat) : T → Option Sv
  | .py d => some (.py d)
  | .nd _ _ _ => some (.pt (π ++ [k]))
  | .un _ => none
def kidAt (π : List Nat) (cs : List T) (k : Nat) : Option Sv := match cs[k]? with
  | some c => child π k c
  | none => none
/-- xs[i], xs data that stays or a tree -/
def vIdx (f : Rh → Option Sv) (g : Rh → Option PyData) (ρ : Rh) : Option Sv := match f ρ, g ρ with
  | some (.py d), some e => match idxF d e with
    | some r => some (.py r)
    | none => none
  | some (.pt π), some (.int i) => match gget ρ.g π with
    | some (.nd _ .lst cs) => match ixN cs.length i with
      | some k => kidAt π cs k
      | none => none
    | some (.nd _ .tup cs) => match ixN cs.length i with
      | some k => kidAt π cs k
      | none => none
    | _ => none
  | _, _ => none
/-- d[k], d a tree -/
def vGet (f : Rh → Option Sv) (g : Rh → Option PyData) (ρ : Rh) : Option Sv := match f ρ, g ρ with
  | some (.pt π), some e => match keyF e, gget ρ.g π with
    | some k, some (.nd _ (.dct ks) cs) => match ixK ks k with
      | some i => kidAt π cs i
      | none => none
    | some k, some (.nd _ (.lok ks) cs) => match ixK ks k with
      | some i => kidAt π cs i
      | none => none
    | _, _ => none
  | _, _ => none
/-- o.f, o of the class C -/
def vFld (C : String) (n : Str) (f : Rh → Option Sv) (ρ : Rh) : Option Sv := match f ρ with
  | some (.pt π) => match gget ρ.g π with
    | some (.nd _ (.ins D fs) cs) => if D = C then match ixS fs n with
        | some i => kidAt π cs i
        | none => none
      else none
    | _ => none
  | _ => none
def vLen (f : Rh → Option Sv) (ρ : Rh) : Option Sv := match f ρ with
  | some (.py d) => match lenF d with
    | some n => some (.py (.int n))
    | none => none
  | some (.pt π) => match gget ρ.g π with
    | some (.nd _ .lst cs) => some (.py (.int cs.length))
    | some (.nd _ .tup cs) => some (.py (.int cs.length))
    | _ => none
  | _ => none
def kindS (ρ : Rh) : Sv → Option String
  | .py d => kindF d
  | .pt π => match gget ρ.g π with
    | some (.nd _ .lst _) => some "list"
    | some (.nd _ .tup _) => some "tuple"
    | _ => none
  | .at _ => none
def vIsi (m : String) (f : Rh → Option Sv) (ρ : Rh) : Option Sv := match f ρ with
  | some s => match kindS ρ s with
    | some n => some (.py (.bool (kitF n m)))
    | none => none
  | none => none
def vIsi2 (m1 m2 : String) (f : Rh → Option Sv) (ρ : Rh) : Option Sv := match f ρ with
  | some s => match kindS ρ s with
    | some n => some (.py (.bool (kitF n m1 || kitF n m2)))
    | none => none
  | none => none
def aNil (_ : Rh) : Option (List PyData) := some []
def aCons (f : Rh → Option PyData) (g : Rh → Option (List PyData)) (ρ : Rh) : Option (List PyData) := match f ρ, g ρ with
  | some d, some ds => some (d :: ds)
  | _, _ => none
def vTup (f : Rh → Option (List PyData)) (ρ : Rh) : Option Sv := match f ρ with
  | some ds => if ds.length ≤ 1000 then some (.py (.tuple ds)) else none
  | none => none
def nLst (f : Rh → Option (List PyData)) (ρ : Rh) : Option (Hd × List PyData) := match f ρ with
  | some ds => if ds.length ≤ 1000 then some (.lst, ds) else none
  | none => none
/-- a new list that nobody changes: data -/
def vFz (f : Rh → Option (Hd × List PyData)) (ρ : Rh) : Option Sv := match f ρ with
  | some (.lst, ds) => some (.py (.list ds))
  | _ => none
def bAnd (f g : Rh → Option Bool) (ρ : Rh) : Option Bool := match f ρ with
  | some true => g ρ
  | some false => some false
  | none => none
def bOr (f g : Rh → Option Bool) (ρ : Rh) : Option Bool := match f ρ with
  | some true => some true
  | some false => g ρ
  | none => none
def bNot (f : Rh → Option Bool) (ρ : Rh) : Option Bool := match f ρ with
  | some b => some (!b)
  | none => none
def vIf (c : Rh → Option Bool) (f g : Rh → Option Sv) (ρ : Rh) : Option Sv := match c ρ with
  | some true => f ρ
  | some false => g ρ
  | none => none
def oNo (_ : Rh) : Option (Option Int) := some none
def oI (f : Rh → Option PyData) (ρ : Rh) : Option (Option Int) := match f ρ with
  | some (.int i) => some (some i)
  | _ => none
def cutF {α : Type} (ds : List α) (lo hi : Option Int) : List α := (ds.drop (HT.sIx ds.length 0 lo)).take (HT.sIx ds.length ds.length hi - HT.sIx ds.length 0 lo)
/-- z[a:b], t[a:b], data that stays -/
def vSlc (f : Rh → Option Sv) (g h : Rh → Option (Option Int)) (ρ : Rh) : Option Sv := match f ρ, g ρ, h ρ with
  | some (.py (.str z)), some lo, some hi => if z.length ≤ 16777216 then some (.py (.str (cutS z lo hi))) else none
  | some (.py (.tuple ds)), some lo, some hi => some (.py (.tuple (cutF ds lo hi)))
  | _, _, _ => none
def nSlc (f : Rh → Option Sv) (g h : Rh → Option (Option Int)) (ρ : Rh) : Option (Hd × List PyData) := match f ρ, g ρ, h ρ with
  | some (.py (.list ds)), some lo, some hi => some (.lst, cutF ds lo hi)
  | _, _, _ => none
/-! ### why -/
section
variable {K : PySem.W.Frag} {te ta tb tc tk : TE} {tr : TA} {f g h : Rh → Option Sv} {df dg dh : Rh → Option PyData} {bf bg : Rh → Option Bool} {t u : TT} {nf : Rh → Option (Hd × List PyData)} {af : Rh → Option (List PyData)}
theorem pv_var (i : Nat) : Pv K cl (tVar i) (vVar i) := fun B F H ul σ tv ρ G us s r e Q q => by
  unfold vVar at e
  split at e
  · rename_i s' h1
    cases e
    obtain ⟨v, h2, h3⟩ := r.sl.has i _ h1
    exact ⟨v, h2, q v B H (Gw.refl r.rl.exB) h3⟩
  · cases e
theorem pv_c {v : V} {d : PyData} (h : ∀ B : Hp, Dp K B v d) : Pv K cl (tC v) (vC d) := fun B F H ul σ tv ρ G us s r e Q q => by
  cases e; exact q v B H (Gw.refl r.rl.exB) (h B)
theorem pv_int (i : Int) : Pv K cl (tC (.int i)) (vC (.int i)) := pv_c fun _ => .int i
theorem pv_str (x : Str) : Pv K cl (tC (.str x)) (vC (.str x)) := pv_c fun _ => .str x
theorem pv_bl (b : Bool) : Pv K cl (tC (.bl b)) (vC (.bool b)) := pv_c fun _ => .bl b
theorem pv_non : Pv K cl (tC .non) (vC .none) := pv_c fun _ => .non
theorem pv_at (v : V) : Pv K cl (tC v) (vAt v) := fun B F H ul σ tv ρ G us s r e Q q => by
  cases e; exact q v B H (Gw.refl r.rl.exB) rfl
theorem pv_ext {te : TE} {f g : Rh → Option Sv} (h : Pv K cl te f) (e : ∀ ρ, g ρ = f ρ) : Pv K cl te g := fun B F H ul σ tv ρ G us s r z => h B F H ul σ tv ρ G us s r (by rw [← e]; exact z)
theorem dat_of {B F H : Hp} {ul tv us : List V} {σ : St} {ρ : Rh} {G : List LT} {s : Sv} {v : V} {d : PyData} (r : Rg K cl B F H ul σ tv ρ G us) (h : SvAt K B G v s) (e : dat ρ s = some d) : Dp K H v d := by
  cases s with
  | py x => simp only [dat, Option.some.injEq] at e; subst e; exact r.rl.up h
  | «at» x => cases e
  | pt π =>
    simp only [dat] at e
    cases et : gget ρ.g π with
    | none => rw [et] at e; cases e
    | some t =>
      rw [et] at e
      obtain ⟨u, h1, rfl⟩ := r.get et
      simp only [data_er] at e
      have h : pv G π = some v := h
      unfold pv at h
      rw [h1] at h
      exact r.rl.data h1 h e
theorem dv_of (hf : Pv K cl te f) : Dv K cl te (vD f) := fun B F H ul σ tv ρ G us d r e Q q => by
  unfold vD at e
  split at e
  · rename_i s h1
    exact hf B F H ul σ tv ρ G us s r h1 Q fun v B' H' w hs => q v B' H' w (dat_of (r.grow w) hs e)
  · cases e
theorem dv_py (hf : Pv K cl te f) : Dv K cl te (vPy f) := fun B F H ul σ tv ρ G us d r e Q q => by
  unfold vPy at e
  split at e
  · rename_i d' h1
    cases e
    exact hf B F H ul σ tv ρ G us _ r h1 Q fun v B' H' w hs => q v B' H' w ((r.grow w).rl.up hs)
  · cases e
theorem pv_s (hf : Dv K cl te df) : Pv K cl te (vS df) := fun B F H ul σ tv ρ G us s r e Q q => by
  unfold vS at e
  split at e
  · rename_i d h1
    split at e
    · rename_i n
      cases e
      exact hf B F H ul σ tv ρ G us d r h1 Q fun v B' H' w hd => q v B' H' w ((r.grow w).rl.down n hd)
    · cases e
  · cases e
theorem dv_bin {op : Operator} {o : PyData → PyData → Option PyData} (ho : IsBin op o) (ha : Dv K cl ta df) (hb : Dv K cl tb dg) : Dv K cl (tOp (rBin K op) ta tb) (d2 o df dg) := fun B F H ul σ tv ρ G us r0 r e Q q => by
  unfold d2 at e
  split at e
  · rename_i d e' h1 h2
    refine ha B F H ul σ tv ρ G us d r h1 _ fun x B1 H1 w1 hx => hb B1 F H1 ul σ tv ρ G us e' (r.grow w1) h2 _ fun y B2 H2 w2 hy => ?_
    have r2 := (r.grow w1).grow w2
    refine ⟨d, e', r0, Dp.mono w2.h d x hx, hy, ho _ _ _ e, fun v H' e3 hv => ?_⟩
    -- what is new stays
    let B3 : Hp := fun q => if (H2 q).isNone then H' q else B2 q
    have w3 : Gw B2 H2 B3 H' := by
      refine ⟨fun q o h => ?_, e3, fun q o h => ?_, fun q h1 h2 => ?_, fun q o h1 h2 => ?_⟩
      · show (if (H2 q).isNone then H' q else B2 q) = some o
        rw [w2.exB q o h]
        exact h
      · have h : (if (H2 q).isNone then H' q else B2 q) = some o := h
        split at h
        · exact h
        · exact e3 q o (w2.exB q o h)
      · show (if (H2 q).isNone then H' q else B2 q) = none
        rw [if_neg (by cases z : H2 q with
          | none => exact absurd z h1
          | some => simp)]
        exact h2
      · have h2 : (if (H2 q).isNone then H' q else B2 q) = none := h2
        split at h2
        · rw [h2] at h1; cases h1
        · rename_i c
          cases z : H2 q with
          | none => rw [z] at c; simp at c
          | some u =>
            have := e3 q u z
            rw [this] at h1; cases h1
            exact .inl rfl
    exact q v B3 H' ((w1.trans w2).trans w3) hv
  · cases e
theorem pt_cmp {op : CmpOp} {o : PyData → PyData → Option Bool} (ho : IsCmp op o) (ha : Dv K cl ta df) (hb : Dv K cl tb dg) : Pt K cl (tTest (tOp (rCmp K op) ta tb)) (dB o df dg) := fun B F H ul σ tv ρ G us b r e Q q => by
  unfold dB at e
  split at e
  · rename_i d e' h1 h2
    refine ha B F H ul σ tv ρ G us d r h1 _ fun x B1 H1 w1 hx => hb B1 F H1 ul σ tv ρ G us e' (r.grow w1) h2 _ fun y B2 H2 w2 hy => ?_
    exact ⟨d, e', b, Dp.mono w2.h d x hx, hy, ho _ _ _ e, b, rfl, q B2 H2 (w1.trans w2)⟩
  · cases e
theorem pv_cmp {op : CmpOp} {o : PyData → PyData → Option Bool} (ho : IsCmp op o) (ha : Dv K cl ta df) (hb : Dv K cl tb dg) : Pv K cl (tOp (rCmp K op) ta tb) (vB (dB o df dg)) := fun B F H ul σ tv ρ G us s r e Q q => by
  unfold vB dB at e
  split at e
  · rename_i b h0
    cases e
    split at h0
    · rename_i d e' h1 h2
      refine ha B F H ul σ tv ρ G us d r h1 _ fun x B1 H1 w1 hx => hb B1 F H1 ul σ tv ρ G us e' (r.grow w1) h2 _ fun y B2 H2 w2 hy => ?_
      exact ⟨d, e', b, Dp.mono w2.h d x hx, hy, ho _ _ _ h0, q _ B2 H2 (w1.trans w2) (.bl b)⟩
    · cases h0
  · cases e
/-- a <= b <= c -/
theorem pv_chain {op op' : CmpOp} {o o' : PyData → PyData → Option Bool} (ho : IsCmp op o) (ho' : IsCmp op' o') (ha : Dv K cl ta df) (hb : Dv K cl tb dg) (hc : Dv K cl tc dh) : Pv K cl (tChain (rCmp K op) (rCmp K op') ta tb tc) (vB (bAnd (dB o df dg) (dB o' dg dh))) := fun B F H ul σ tv ρ G us s r e Q q => by
  unfold vB at e
  split at e
  · rename_i b h0
    cases e
    unfold bAnd at h0
    have key : ∀ b1, dB o df dg ρ = some b1 → (b1 = false → b = false) → (b1 = true → dB o' dg dh ρ = some b) → tChain (rCmp K op) (rCmp K op') ta tb tc σ H Q := by
      intro b1 z k1 k2
      unfold dB at z
      split at z
      · rename_i d e' h1 h2
        refine ha B F H ul σ tv ρ G us d r h1 _ fun x B1 H1 w1 hx => hb B1 F H1 ul σ tv ρ G us e' (r.grow w1) h2 _ fun y B2 H2 w2 hy => ?_
        refine ⟨d, e', b1, Dp.mono w2.h d x hx, hy, ho _ _ _ z, b1, rfl, ?_⟩
        cases b1 with
        | false =>
          rw [k1 rfl] at q
          exact iteF (q _ B2 H2 (w1.trans w2) (.bl false))
        | true =>
          have z2 := k2 rfl
          unfold dB at z2
          rw [h2] at z2
          cases h3 : dh ρ with
          | none => rw [h3] at z2; cases z2
          | some f' =>
            rw [h3] at z2
            refine iteT (hc B2 F H2 ul σ tv ρ G us f' ((r.grow w1).grow w2) h3 _ fun w B3 H3 w3 hw => ?_)
            exact ⟨e', f', b, Dp.mono w3.h _ y hy, hw, ho' _ _ _ z2, q _ B3 H3 ((w1.trans w2).trans w3) (.bl b)⟩
      · cases z
    split at h0
    · rename_i z
      exact key true z (fun x => nomatch x) fun _ => h0
    · rename_i z
      cases h0
      exact key false z (fun _ => rfl) fun x => nomatch x
    · cases h0
  · cases e
theorem pt_test (ha : Pv K cl te f) : Pt K cl (tTest te) (bV f) := fun B F H ul σ tv ρ G us b r e Q q => by
  unfold bV at e
  split at e
  · rename_i b' h1
    cases e
    refine ha B F H ul σ tv ρ G us _ r h1 _ fun v B' H' w hv => ?_
    have hv : Dp K B' v (.bool b) := hv
    cases hv
    exact ⟨b, rfl, q B' H' w⟩
  · cases e
theorem pt_val (ha : Pv K cl te f) : Pt K cl (tB te) (bV f) := fun B F H ul σ tv ρ G us b r e Q q => by
  unfold bV at e
  split at e
  · rename_i b' h1
    cases e
    refine ha B F H ul σ tv ρ G us _ r h1 _ fun v B' H' w hv => ?_
    have hv : Dp K B' v (.bool b) := hv
    cases hv
    exact ⟨b, rfl, q B' H' w⟩
  · cases e
theorem pt_and (ha : Pt K cl t bf) (hb : Pt K cl u bg) : Pt K cl (tAnd t u) (bAnd bf bg) := fun B F H ul σ tv ρ G us b r e Q q => by
  unfold bAnd at e
  split at e
  · rename_i h1
    exact ha B F H ul σ tv ρ G us true r h1 _ fun B1 H1 w1 => iteT (hb B1 F H1 ul σ tv ρ G us b (r.grow w1) e _ fun B2 H2 w2 => q B2 H2 (w1.trans w2))
  · rename_i h1
    cases e
    exact ha B F H ul σ tv ρ G us false r h1 _ fun B1 H1 w1 => iteF (q B1 H1 w1)
  · cases e
theorem pt_or (ha : Pt K cl t bf) (hb : Pt K cl u bg) : Pt K cl (tOr t u) (bOr bf bg) := fun B F H ul σ tv ρ G us b r e Q q => by
  unfold bOr at e
  split at e
  · rename_i h1
    cases e
    exact ha B F H ul σ tv ρ G us true r h1 _ fun B1 H1 w1 => iteT (q B1 H1 w1)
  · rename_i h1
    exact ha B F H ul σ tv ρ G us false r h1 _ fun B1 H1 w1 => iteF (hb B1 F H1 ul σ tv ρ G us b (r.grow w1) e _ fun B2 H2 w2 => q B2 H2 (w1.trans w2))
  · cases e
theorem pt_not (ha : Pt K cl t bf) : Pt K cl (tNot t) (bNot bf) := fun B F H ul σ tv ρ G us b r e Q q => by
  unfold bNot at e
  split at e
  · rename_i b' h1
    cases e
    exact ha B F H ul σ tv ρ G us b' r h1 _ fun B1 H1 w1 => q B1 H1 w1
  · cases e
theorem pv_and (ha : Pv K cl ta f) (hb : Pv K cl tb g) : Pv K cl (tAndV ta tb) (vB (bAnd (bV f) (bV g))) := fun B F H ul σ tv ρ G us s r e Q q => by
  unfold vB at e
  split at e
  · rename_i b h0
    cases e
    unfold bAnd at h0
    have key : ∀ b1, bV f ρ = some b1 → (b1 = false → b = false) → (b1 = true → bV g ρ = some b) → tAndV ta tb σ H Q := by
      intro b1 z k1 k2
      unfold bV at z
      split at z
      · rename_i b' h1
        cases z
        refine ha B F H ul σ tv ρ G us _ r h1 _ fun v B' H' w hv => ?_
        have hv : Dp K B' v (.bool b1) := hv
        cases hv
        refine ⟨b1, rfl, ?_⟩
        cases b1 with
        | false => rw [k1 rfl] at q; exact iteF (q _ B' H' w (.bl false))
        | true =>
          have z2 := k2 rfl
          unfold bV at z2
          split at z2
          · rename_i h2
            cases z2
            exact iteT (hb B' F H' ul σ tv ρ G us _ (r.grow w) h2 _ fun v B2 H2 w2 hv => q v B2 H2 (w.trans w2) hv)
          · cases z2
      · cases z
    split at h0
    · rename_i z
      exact key true z (fun x => nomatch x) fun _ => h0
    · rename_i z
      cases h0
      exact key false z (fun _ => rfl) fun x => nomatch x
    · cases h0
  · cases e
theorem pv_or (ha : Pv K cl ta f) (hb : Pv K cl tb g) : Pv K cl (tOrV ta tb) (vB (bOr (bV f) (bV g))) := fun B F H ul σ tv ρ G us s r e Q q => by
  unfold vB at e
  split at e
  · rename_i b h0
    cases e
    unfold bOr at h0
    have key : ∀ b1, bV f ρ = some b1 → (b1 = true → b = true) → (b1 = false → bV g ρ = some b) → tOrV ta tb σ H Q := by
      intro b1 z k1 k2
      unfold bV at z
      split at z
      · rename_i b' h1
        cases z
        refine ha B F H ul σ tv ρ G us _ r h1 _ fun v B' H' w hv => ?_
        have hv : Dp K B' v (.bool b1) := hv
        cases hv
        refine ⟨b1, rfl, ?_⟩
        cases b1 with
        | true => rw [k1 rfl] at q; exact iteT (q _ B' H' w (.bl true))
        | false =>
          have z2 := k2 rfl
          unfold bV at z2
          split at z2
          · rename_i h2
            cases z2
            exact iteF (hb B' F H' ul σ tv ρ G us _ (r.grow w) h2 _ fun v B2 H2 w2 hv => q v B2 H2 (w.trans w2) hv)
          · cases z2
      · cases z
    split at h0
    · rename_i z
      cases h0
      exact key true z (fun _ => rfl) fun x => nomatch x
    · rename_i z
      exact key false z (fun x => nomatch x) fun _ => h0
    · cases h0
  · cases e
theorem pv_not (ha : Pv K cl ta f) : Pv K cl (tNotV ta) (vB (bNot (bV f))) := fun B F H ul σ tv ρ G us s r e Q q => by
  unfold vB bNot bV at e
  split at e
  · rename_i b h0
    cases e
    split at h0
    · rename_i b' h1
      cases h0
      split at h1
      · rename_i h2
        cases h1
        refine ha B F H ul σ tv ρ G us _ r h2 _ fun v B' H' w hv => ?_
        have hv : Dp K B' v (.bool b') := hv
        cases hv
        exact ⟨b', rfl, q _ B' H' w (.bl _)⟩
      · cases h1
    · cases h0
  · cases e
theorem pv_if (hc : Pt K cl t bf) (ha : Pv K cl ta f) (hb : Pv K cl tb g) : Pv K cl (tIf t ta tb) (vIf bf f g) := fun B F H ul σ tv ρ G us s r e Q q => by
  unfold vIf at e
  split at e
  · rename_i h1
    exact hc B F H ul σ tv ρ G us true r h1 _ fun B1 H1 w1 => iteT (ha B1 F H1 ul σ tv ρ G us s (r.grow w1) e _ fun v B2 H2 w2 => q v B2 H2 (w1.trans w2))
  · rename_i h1
    exact hc B F H ul σ tv ρ G us false r h1 _ fun B1 H1 w1 => iteF (hb B1 F H1 ul σ tv ρ G us s (r.grow w1) e _ fun v B2 H2 w2 => q v B2 H2 (w1.trans w2))
  · cases e
def negF : PyData → Option PyData
  | .int i => some (.int (-i))
  | _ => none
def dNeg (f : Rh → Option PyData) (ρ : Rh) : Option PyData := match f ρ with
  | some d => negF d
  | none => none
theorem dv_neg (ha : Dv K cl ta df) : Dv K cl (tUn (rU fun i => .int (-i)) ta) (dNeg df) := fun B F H ul σ tv ρ G us d r e Q q => by
  unfold dNeg at e
  split at e
  · rename_i d' h1
    unfold negF at e
    split at e
    · cases e
      refine ha B F H ul σ tv ρ G us _ r h1 _ fun v B' H' w hv => ?_
      cases hv
      exact ⟨_, rfl, q _ B' H' w (.int _)⟩
    · cases e
  · cases e
/-! a part of a tree -/
theorem kid_of {B F H : Hp} {ul tv us : List V} {σ : St} {ρ : Rh} {G : List LT} {π : List Nat} {p : Addr} {h : Hd} {cs : List LT} {vs : List V} {k : Nat} {s : Sv} (r : Rg K cl B F H ul σ tv ρ G us) (e : gget G π = some (.nd p h cs)) (hc : LtAll K cl B H vs cs) (z : kidAt π (erAll cs) k = some s) :
    ∃ v, vs[k]? = some v ∧ SvAt K B G v s := by
  unfold kidAt at z
  rw [erAll_map, List.getElem?_map] at z
  cases ec : cs[k]? with
  | none => rw [ec] at z; cases z
  | some c =>
    rw [ec] at z
    obtain ⟨v, h1, h2⟩ := hc.get ec
    refine ⟨v, h1, ?_⟩
    cases c with
    | un b => cases z
    | py d => cases z; cases h2 with | py h => exact h
    | nd p' h' cs' =>
      cases z
      cases h2
      show pv G (π ++ [k]) = _
      unfold pv
      rw [gget_app e]
      simp only [TL.get, ec]
      rfl
theorem atI_of {α : Type} {xs : List α} {i : Int} {k : Nat} {v : α} (h : ixN xs.length i = some k) (hv : xs[k]? = some v) : atI xs i = some v := by
  unfold atI; rw [h]; exact hv
theorem pv_idx (ha : Pv K cl ta f) (hb : Dv K cl tb dg) : Pv K cl (tOp (rIx K) ta tb) (vIdx f dg) := fun B F H ul σ tv ρ G us s r e Q q => by
  unfold vIdx at e
  split at e
  · rename_i d e' h1 h2
    split at e
    · rename_i r' hr
      cases e
      refine ha B F H ul σ tv ρ G us _ r h1 _ fun x B1 H1 w1 hx => hb B1 F H1 ul σ tv ρ G us e' (r.grow w1) h2 _ fun y B2 H2 w2 hy => ?_
      have hx : Dp K B1 x d := hx
      have r2 := (r.grow w1).grow w2
      have i1 := isIdx hr
      cases i1 with
      | lst ds i r hh =>
        cases hy
        cases hx with
        | lst s1 a1 =>
          obtain ⟨v, h3, h4⟩ := DpAll.atI a1 hh
          exact .inl ⟨_, _, i, v, rfl, rfl, Evl.ex_l (w2.b.trans r2.rl.exB) s1, h3, q v B2 H2 (w1.trans w2) (Dp.mono w2.b _ _ h4)⟩
      | tup ds i r hh =>
        cases hy
        cases hx with
        | tup s1 a1 =>
          obtain ⟨v, h3, h4⟩ := DpAll.atI a1 hh
          exact .inr (.inl ⟨_, _, i, v, rfl, rfl, Evl.ex_t (w2.b.trans r2.rl.exB) s1, h3, q v B2 H2 (w1.trans w2) (Dp.mono w2.b _ _ h4)⟩)
      | str z i c hh =>
        cases hy
        cases hx
        exact .inr (.inr ⟨z, i, c, rfl, rfl, hh.1, hh.2, q _ B2 H2 (w1.trans w2) (.str _)⟩)
    · cases e
  · rename_i π i h1 h2
    refine ha B F H ul σ tv ρ G us _ r h1 _ fun x B1 H1 w1 hx => hb B1 F H1 ul σ tv ρ G us _ (r.grow w1) h2 _ fun y B2 H2 w2 hy => ?_
    have hx : pv G π = some x := hx
    cases hy
    have r2 := (r.grow w1).grow w2
    split at e
    · rename_i cs hg
      obtain ⟨u, g1, g2⟩ := r.get hg
      cases u with
      | un => cases g2
      | py => cases g2
      | nd p hd cs' =>
        simp only [TL.er, TL.nd.injEq] at g2
        obtain ⟨_, rfl, rfl⟩ := g2
        unfold pv at hx
        rw [g1] at hx
        cases hx
        obtain ⟨vs, hn, hc⟩ := r2.rl.node g1
        split at e
        · rename_i k hk
          obtain ⟨v, h3, h4⟩ := kid_of r2 g1 hc e
          have hl : vs.length = (erAll cs').length := by rw [hc.length, erAll_map, List.length_map]
          exact .inl ⟨p, vs, i, v, rfl, rfl, SqL.of hn.2, atI_of (by rw [hl]; exact hk) h3, q v B2 H2 (w1.trans w2) h4⟩
        · cases e
    · rename_i cs hg
      obtain ⟨u, g1, g2⟩ := r.get hg
      cases u with
      | un => cases g2
      | py => cases g2
      | nd p hd cs' =>
        simp only [TL.er, TL.nd.injEq] at g2
        obtain ⟨_, rfl, rfl⟩ := g2
        unfold pv at hx
        rw [g1] at hx
        cases hx
        obtain ⟨vs, hn, hc⟩ := r2.rl.node g1
        split at e
        · rename_i k hk
          obtain ⟨v, h3, h4⟩ := kid_of r2 g1 hc e
          have hl : vs.length = (erAll cs').length := by rw [hc.length, erAll_map, List.length_map]
          exact .inr (.inl ⟨p, vs, i, v, rfl, rfl, Evl.ex_t r2.rl.exB hn, atI_of (by rw [hl]; exact hk) h3, q v B2 H2 (w1.trans w2) h4⟩)
        · cases e
    · cases e
  · cases e
end
end Fx

/-! More expressions that change nothing. -/
namespace Fx
open PySem L2
open Evl (Ex)
variable {cl : String → Addr}
theorem look_zip : ∀ {fs : List Str} {vs : List V} {f : Str} {i : Nat} {v : V}, ixS fs f = some i → vs[i]? = some v → (fs.zip vs).lookup f = some v
  | [], _, _, _, _, h, _ => by simp [ixS] at h
  | g :: r, [], _, _, _, h, e => by simp at e
  | g :: r, x :: vs, f, i, v, h, e => by
    unfold ixS at h
    split at h
    · rename_i z
      subst z
      cases h
      simp at e
      simp [e]
    · rename_i z
      cases h1 : ixS r f with
      | none => rw [h1] at h; simp at h
      | some j =>
        rw [h1] at h
        simp at h
        subst h
        have := look_zip (vs := vs) h1 (by simpa using e)
        have n : (f == g) = false := by simp; exact fun z' => z z'.symm
        simp [List.lookup, n, this]
theorem val_zip {κ : Type} [DecidableEq κ] : ∀ {ks : List κ} {vs : List V} {k : κ} {i : Nat} {v : V}, ixK ks k = some i → vs[i]? = some v → valV (ks.zip vs) k = some v
  | [], _, _, _, _, h, _ => by simp [ixK] at h
  | g :: r, [], _, _, _, h, e => by simp at e
  | g :: r, x :: vs, k, i, v, h, e => by
    unfold ixK at h
    split at h
    · rename_i z
      subst z
      cases h
      simp at e
      simp [valV, e]
    · rename_i z
      cases h1 : ixK r k with
      | none => rw [h1] at h; simp at h
      | some j =>
        rw [h1] at h
        simp at h
        subst h
        have := val_zip (vs := vs) h1 (by simpa using e)
        unfold valV at this ⊢
        simp only [List.zip_cons_cons]
        rw [List.find?_cons_of_neg (by simpa using z)]
        exact this
theorem val_none {κ : Type} [DecidableEq κ] : ∀ {ks : List κ} {vs : List V} {k : κ}, ixK ks k = none → valV (ks.zip vs) k = none
  | [], _, _, h => rfl
  | g :: r, [], _, h => rfl
  | g :: r, x :: vs, k, h => by
    unfold ixK at h
    split at h
    · cases h
    · rename_i z
      have h1 : ixK r k = none := by
        cases h1 : ixK r k with
        | none => rfl
        | some j => rw [h1] at h; simp at h
      have := val_none (vs := vs) h1
      unfold valV at this ⊢
      simp only [List.zip_cons_cons]
      rw [List.find?_cons_of_neg (by simpa using z)]
      exact this
section
variable {K : PySem.W.Frag} {te ta tb tc tk : TE} {tr : TA} {f g h : Rh → Option Sv} {df dg dh : Rh → Option PyData} {bf bg : Rh → Option Bool} {t u : TT} {nf : Rh → Option (Hd × List PyData)} {af : Rh → Option (List PyData)} {tl th : TO} {fl fh : Rh → Option (Option Int)}
theorem node_of {B F H : Hp} {ul tv us : List V} {σ : St} {ρ : Rh} {G : List LT} {π : List Nat} {hd : Hd} {cs : List T} {x : V} (r : Rg K cl B F H ul σ tv ρ G us) (e : gget ρ.g π = some (.nd () hd cs)) (hx : pv G π = some x) :
    ∃ p cs', gget G π = some (.nd p hd cs') ∧ cs = erAll cs' ∧ x = .ref p := by
  obtain ⟨u, g1, g2⟩ := r.get e
  cases u with
  | un => cases g2
  | py => cases g2
  | nd p hd' cs' =>
    simp only [TL.er, TL.nd.injEq] at g2
    obtain ⟨_, rfl, rfl⟩ := g2
    unfold pv at hx
    rw [g1] at hx
    cases hx
    exact ⟨p, cs', g1, rfl, rfl⟩
theorem pv_get (ha : Pv K cl ta f) (hb : Dv K cl tb dg) : Pv K cl (tDGet ta tb) (vGet f dg) := fun B F H ul σ tv ρ G us s r e Q q => by
  unfold vGet at e
  split at e
  · rename_i π e' h1 h2
    refine ha B F H ul σ tv ρ G us _ r h1 _ fun x B1 H1 w1 hx => hb B1 F H1 ul σ tv ρ G us _ (r.grow w1) h2 _ fun y B2 H2 w2 hy => ?_
    have hx : pv G π = some x := hx
    have r2 := (r.grow w1).grow w2
    split at e
    · rename_i k _ ks cs hk hg
      obtain ⟨p, cs', g1, rfl, rfl⟩ := node_of r hg hx
      obtain ⟨vs, hn, hc⟩ := r2.rl.node g1
      have := key_val hk hy
      subst this
      split at e
      · rename_i i hi
        obtain ⟨v, h3, h4⟩ := kid_of r2 g1 hc e
        have hd : DGet H2 p (kV k) (valV (ks.zip vs) k) := DGet.k hn.2.2.2
        rw [val_zip hi h3] at hd
        exact ⟨p, v, rfl, hd, q v B2 H2 (w1.trans w2) h4⟩
      · cases e
    · rename_i k _ ks cs hk hg
      obtain ⟨p, cs', g1, rfl, rfl⟩ := node_of r hg hx
      obtain ⟨vs, hn, hc⟩ := r2.rl.node g1
      have := key_val hk hy
      subst this
      obtain ⟨_, _, _, od, ho⟩ := hn
      split at e
      · rename_i i hi
        obtain ⟨v, h3, h4⟩ := kid_of r2 g1 hc e
        have hd : DGet H2 p (kV k) (valV (ks.zip vs) k) := .inl ⟨_, k, .inr ⟨od, ho⟩, rfl, rfl⟩
        rw [val_zip hi h3] at hd
        exact ⟨p, v, rfl, hd, q v B2 H2 (w1.trans w2) h4⟩
      · cases e
    · cases e
  · cases e
theorem pv_fld {C : String} {n : Str} (hC : Cls K (cl C)) (hA : NoAttr K (cl C) n) (ha : Pv K cl ta f) : Pv K cl (tFld K ta n) (vFld C n f) := fun B F H ul σ tv ρ G us s r e Q q => by
  unfold vFld at e
  split at e
  · rename_i π h1
    refine ha B F H ul σ tv ρ G us _ r h1 _ fun x B1 H1 w1 hx => ?_
    have hx : pv G π = some x := hx
    have r1 := r.grow w1
    split at e
    · rename_i D fs cs hg
      obtain ⟨p, cs', g1, rfl, rfl⟩ := node_of r hg hx
      split at e
      · rename_i eD
        subst eD
        obtain ⟨vs, hn, hc⟩ := r1.rl.node g1
        obtain ⟨_, hl, dx, hh⟩ := hn
        split at e
        · rename_i i hi
          obtain ⟨v, h3, h4⟩ := kid_of r1 g1 hc e
          exact ⟨p, cl D, dx, _, v, rfl, hh, hC, hA, look_zip hi h3, q v B1 H1 w1 h4⟩
        · cases e
      · cases e
    · cases e
  · cases e
/-- len of what is a tree -/
def rLenN (K : PySem.W.Frag) : List V → Hp → VK → Prop := fun xs H Q => rLen K xs H Q ∨ ∃ a ys, xs = [.ref a] ∧ (SqL K H a ys ∨ SqT K H a ys) ∧ Q (.int ys.length) H
theorem lenN_ {X : Cx} (K : PySem.W.Frag) (h : X.K = K := by rfl) : CallR X (.builtin "len") (rLenN K) := by
  subst h
  intro pins s σ H xs us Q I r h
  rcases h with h | ⟨a, ys, rfl, h, q⟩
  · exact call_lenU pins s σ H xs us Q I r h
  · exact call_len_seq pins s σ H _ us Q I r ⟨a, ys, rfl, h, q⟩
theorem pv_len (ha : Pv K cl ta f) : Pv K cl (tCB (rLenN K) (tCons ta tNil)) (vLen f) := fun B F H ul σ tv ρ G us s r e Q q => by
  unfold vLen at e
  split at e
  · rename_i d h1
    split at e
    · rename_i n hn
      cases e
      exact ha B F H ul σ tv ρ G us _ r h1 _ fun x B1 H1 w1 hx => .inl ⟨x, d, n, rfl, (r.grow w1).rl.up hx, isLen hn, q _ B1 H1 w1 (.int n)⟩
    · cases e
  · rename_i π h1
    refine ha B F H ul σ tv ρ G us _ r h1 _ fun x B1 H1 w1 hx => ?_
    have hx : pv G π = some x := hx
    have r1 := r.grow w1
    split at e
    · rename_i cs hg
      obtain ⟨p, cs', g1, rfl, rfl⟩ := node_of r hg hx
      obtain ⟨vs, hn, hc⟩ := r1.rl.node g1
      cases e
      have hl : vs.length = (erAll cs').length := by rw [hc.length, erAll_map, List.length_map]
      exact .inr ⟨p, vs, rfl, .inl (SqL.of hn.2), by rw [hl]; exact q _ B1 H1 w1 (.int _)⟩
    · rename_i cs hg
      obtain ⟨p, cs', g1, rfl, rfl⟩ := node_of r hg hx
      obtain ⟨vs, hn, hc⟩ := r1.rl.node g1
      cases e
      have hl : vs.length = (erAll cs').length := by rw [hc.length, erAll_map, List.length_map]
      exact .inr ⟨p, vs, rfl, .inr (Evl.ex_t r1.rl.exB hn), by rw [hl]; exact q _ B1 H1 w1 (.int _)⟩
    · cases e
  · cases e
/-! isinstance -/
def rIsiN (K : PySem.W.Frag) : List V → Hp → VK → Prop := fun xs H Q => ∃ x n m b, xs = [x, .ty m] ∧ TyX K H x (.type n) ∧ kitB n m = some b ∧ Q (.bl b) H
theorem isiN_ {X : Cx} (K : PySem.W.Frag) (h : X.K = K := by rfl) : CallR X (.builtin "isinstance") (rIsiN K) := by
  subst h
  intro pins s σ H xs us Q I r h
  obtain ⟨x, n, m, b, rfl, k, e, q⟩ := h
  exact call_isi pins s σ H _ us Q I r ⟨x, _, _, _, b, rfl, .ty m, k, kit_ty e, q⟩
def rIsiN2 (K : PySem.W.Frag) : List V → Hp → VK → Prop := fun xs H Q => ∃ x n tp m1 m2 b1 b2, xs = [x, .ref tp] ∧ H tp = some (.tup [.ty m1, .ty m2]) ∧ TyX K H x (.type n) ∧ kitB n m1 = some b1 ∧ kitB n m2 = some b2 ∧ Q (.bl (b1 || b2)) H
theorem isiN2_ {X : Cx} (K : PySem.W.Frag) (h : X.K = K := by rfl) : CallR X (.builtin "isinstance") (rIsiN2 K) := by
  subst h
  intro pins s σ H xs us Q I r h
  obtain ⟨x, n, tp, m1, m2, b1, b2, rfl, ht, k, e1, e2, q⟩ := h
  refine call_isiT pins s σ H _ us Q I r ⟨x, tp, _, _, _, b1 || b2, rfl, ht, .cons (.ty m1) (.cons (.ty m2) .nil), k, ?_, q⟩
  refine kitAny_cons (b := b1) (kit_ty e1) (fun h1 => ?_) (fun h1 => by rw [h1]; rfl)
  refine kitAny_cons (b := b2) (kit_ty e2) (fun h2 => ?_) (fun h2 => by rw [h2, h1]; rfl)
  rw [h1, h2]
  rfl
theorem kind_of {B F H : Hp} {ul tv us : List V} {σ : St} {ρ : Rh} {G : List LT} {s : Sv} {v : V} {n : String} (r : Rg K cl B F H ul σ tv ρ G us) (h : SvAt K B G v s) (e : kindS ρ s = some n) : TyX K H v (.type n) ∧ n ∈ ["NoneType", "bool", "int", "str", "list", "tuple", "dict"] := by
  cases s with
  | py d => exact ⟨(isKind e).ty (r.rl.up h), kind_mem e⟩
  | «at» x => cases e
  | pt π =>
    have h : pv G π = some v := h
    simp only [kindS] at e
    split at e
    · rename_i cs hg
      cases e
      obtain ⟨p, cs', g1, rfl, rfl⟩ := node_of r hg h
      obtain ⟨vs, hn, hc⟩ := r.rl.node g1
      exact ⟨.base (.lst hn.2), by simp⟩
    · rename_i cs hg
      cases e
      obtain ⟨p, cs', g1, rfl, rfl⟩ := node_of r hg h
      obtain ⟨vs, hn, hc⟩ := r.rl.node g1
      refine ⟨?_, by simp⟩
      rcases Evl.ex_t r.rl.exB hn with (h | ⟨o, h⟩) | ⟨o, its, n, h, c, _⟩
      · exact .base (.tup h)
      · exact .fTuple h
      · exact .kTuple h c
    · cases e
theorem ty_grow {B F H B' H' : Hp} {ul tv us : List V} {σ : St} {ρ : Rh} {G : List LT} {s : Sv} {v : V} {n : String} (r : Rg K cl B F H ul σ tv ρ G us) (w : Gw B H B' H') (h : SvAt K B G v s) (e : kindS ρ s = some n) : TyX K H' v (.type n) := (kind_of (r.grow w) (SvAt.keep w.b (fun _ _ => rfl) h) e).1
theorem pv_isi {m : String} (hm : m ∈ ["list", "tuple", "str", "int", "bool", "dict"]) (ha : Pv K cl ta f) (hb : Pv K cl tb (vAt (.ty m))) : Pv K cl (tCB (rIsiN K) (tCons ta (tCons tb tNil))) (vIsi m f) := fun B F H ul σ tv ρ G us s r e Q q => by
  unfold vIsi at e
  split at e
  · rename_i s' h1
    split at e
    · rename_i n hn
      cases e
      refine ha B F H ul σ tv ρ G us _ r h1 _ fun x B1 H1 w1 hx => hb B1 F H1 ul σ tv ρ G us _ (r.grow w1) rfl _ fun y B2 H2 w2 hy => ?_
      have hy : y = .ty m := hy
      subst hy
      exact ⟨x, n, m, _, rfl, ty_grow (r.grow w1) w2 hx hn, kitF_of (kind_of (r.grow w1) hx hn).2 hm, q _ B2 H2 (w1.trans w2) (.bl _)⟩
    · cases e
  · cases e
theorem pv_isi2 {t1 t2 : TE} {m1 m2 : String} (hm1 : m1 ∈ ["list", "tuple", "str", "int", "bool", "dict"]) (hm2 : m2 ∈ ["list", "tuple", "str", "int", "bool", "dict"]) (ha : Pv K cl ta f) (h1 : Pv K cl t1 (vAt (.ty m1))) (h2 : Pv K cl t2 (vAt (.ty m2))) :
    Pv K cl (tCB (rIsiN2 K) (tCons ta (tCons (tTup (tCons t1 (tCons t2 tNil))) tNil))) (vIsi2 m1 m2 f) := fun B F H ul σ tv ρ G us s r e Q q => by
  unfold vIsi2 at e
  split at e
  · rename_i s' e1
    split at e
    · rename_i n hn
      cases e
      refine ha B F H ul σ tv ρ G us _ r e1 _ fun x B1 H1 w1 hx => h1 B1 F H1 ul σ tv ρ G us _ (r.grow w1) rfl _ fun y B2 H2 w2 hy => h2 B2 F H2 ul σ tv ρ G us _ ((r.grow w1).grow w2) rfl _ fun z B3 H3 w3 hz => ?_
      have hy : y = .ty m1 := hy
      have hz : z = .ty m2 := hz
      subst hy
      subst hz
      have r3 := ((r.grow w1).grow w2).grow w3
      refine ⟨by show 2 ≤ sizeLine; decide, fun p hp => ?_⟩
      have w4 := Gw.nw (o := .tup [.ty m1, .ty m2]) r3.rl.exB hp
      have hk := kind_of (r.grow w1) hx hn
      exact ⟨x, n, p, m1, m2, _, _, rfl, upd_same, ty_grow (r.grow w1) (w2.trans (w3.trans w4)) hx hn, kitF_of hk.2 hm1, kitF_of hk.2 hm2, q _ _ _ (w1.trans (w2.trans (w3.trans w4))) (.bl _)⟩
    · cases e
  · cases e
/-! what is made -/
theorem pa_nil : Pa K cl tNil aNil := fun B F H ul σ tv ρ G us ds r e Q q => by
  cases e; exact q [] B H (Gw.refl r.rl.exB) .nil
theorem pa_cons (ha : Pv K cl te f) (hr : Pa K cl tr af) : Pa K cl (tCons te tr) (aCons (vPy f) af) := fun B F H ul σ tv ρ G us ds r e Q q => by
  unfold aCons at e
  split at e
  · rename_i d ds' h1 h2
    cases e
    unfold vPy at h1
    split at h1
    · rename_i d' h3
      cases h1
      exact ha B F H ul σ tv ρ G us _ r h3 _ fun x B1 H1 w1 hx => hr B1 F H1 ul σ tv ρ G us _ (r.grow w1) h2 _ fun xs B2 H2 w2 hxs => q _ B2 H2 (w1.trans w2) (.cons (Dp.mono w2.b _ _ hx) hxs)
    · cases h1
  · cases e
theorem da_nil : Da K cl tNil aNil := fun B F H ul σ tv ρ G us ds r e Q q => by
  cases e; exact q [] B H (Gw.refl r.rl.exB) .nil
theorem da_cons (ha : Dv K cl te df) (hr : Da K cl tr af) : Da K cl (tCons te tr) (aCons df af) := fun B F H ul σ tv ρ G us ds r e Q q => by
  unfold aCons at e
  split at e
  · rename_i d ds' h1 h2
    cases e
    exact ha B F H ul σ tv ρ G us _ r h1 _ fun x B1 H1 w1 hx => hr B1 F H1 ul σ tv ρ G us _ (r.grow w1) h2 _ fun xs B2 H2 w2 hxs => q _ B2 H2 (w1.trans w2) (.cons (Dp.mono w2.h _ _ hx) hxs)
  · cases e
theorem pv_tup (ha : Pa K cl tr af) : Pv K cl (tTup tr) (vTup af) := fun B F H ul σ tv ρ G us s r e Q q => by
  unfold vTup at e
  split at e
  · rename_i ds h1
    split at e
    · rename_i hl
      cases e
      refine ha B F H ul σ tv ρ G us _ r h1 _ fun xs B1 H1 w1 hx => ⟨Nat.le_trans (by rw [DpAll.length hx]; exact hl) (by decide), fun p hp => ?_⟩
      have w2 := Gw.nw (o := .tup xs) (r.grow w1).rl.exB hp
      exact q _ _ _ (w1.trans w2) (.tup (SqT.of upd_same) (DpAll.mono w2.b _ _ hx))
    · cases e
  · cases e
theorem nv_lst (ha : Pa K cl tr af) : Nv K cl (tLst tr) (nLst af) := fun B F H ul σ tv ρ G us h ds r e Q q => by
  unfold nLst at e
  split at e
  · rename_i ds' h1
    split at e
    · rename_i hl
      cases e
      refine ha B F H ul σ tv ρ G us _ r h1 _ fun xs B1 H1 w1 hx => ⟨Nat.le_trans (by rw [DpAll.length hx]; exact hl) (by decide), fun p hp => ?_⟩
      exact q p xs B1 H1 (.lst xs) w1 hp rfl (.inl ⟨_, rfl⟩) ⟨free_of (r.grow w1).rl.exB hp, upd_same⟩ hx
    · cases e
  · cases e
def nDct0 (_ : Rh) : Option (Hd × List PyData) := some (.dct [], [])
theorem nv_dct0 : Nv K cl tDNewK nDct0 := fun B F H ul σ tv ρ G us h ds r e Q q => by
  cases e
  intro p hp
  exact q p [] B H (.dK []) (Gw.refl r.rl.exB) hp rfl (.inr (.inl ⟨_, rfl⟩)) ⟨free_of r.rl.exB hp, rfl, List.nodup_nil, upd_same⟩ .nil
def nDdt0 (_ : Rh) : Option (Hd × List PyData) := some (.ddt [], [])
theorem nv_ddt0 : Nv K cl tDNewT nDdt0 := fun B F H ul σ tv ρ G us h ds r e Q q => by
  cases e
  intro p hp
  exact q p [] B H (.dT []) (Gw.refl r.rl.exB) hp rfl (.inr (.inr (.inl ⟨_, rfl⟩))) ⟨free_of r.rl.exB hp, rfl, List.nodup_nil, upd_same⟩ .nil
theorem pv_fz (ha : Nv K cl te nf) : Pv K cl te (vFz nf) := fun B F H ul σ tv ρ G us s r e Q q => by
  unfold vFz at e
  split at e
  · rename_i ds h1
    cases e
    refine ha B F H ul σ tv ρ G us _ _ r h1 _ fun p vs B1 H1 o w1 hp ho own hn a => ?_
    have hn2 := hn.2
    rw [upd_same] at hn2
    cases hn2
    have w2 := Gw.nw (o := .lst vs) (r.grow w1).rl.exB hp
    exact q _ _ _ (w1.trans w2) (.lst (SqL.of upd_same) (DpAll.mono w2.b _ _ a))
  · cases e
theorem po_no : Po K cl tNoPart oNo := fun B F H ul σ tv ρ G us o r e Q q => by
  cases e; exact q B H (Gw.refl r.rl.exB)
theorem po_i (ha : Dv K cl te df) : Po K cl (tPart te) (oI df) := fun B F H ul σ tv ρ G us o r e Q q => by
  unfold oI at e
  split at e
  · rename_i i h1
    cases e
    refine ha B F H ul σ tv ρ G us _ r h1 _ fun v B' H' w hv => ?_
    cases hv
    exact ⟨i, rfl, q B' H' w⟩
  · cases e
theorem cut_dp {B : Hp} {xs : List V} {ds : List PyData} (a : DpAll K B xs ds) (lo hi : Option Int) : DpAll K B (cutV xs lo hi) (cutF ds lo hi) := by
  unfold cutV cutF
  rw [DpAll.length a]
  exact DpAll.take _ (DpAll.drop _ a)
theorem cutF_all {α : Type} {ds : List α} {lo hi : Option Int} (h1 : HT.sIx ds.length 0 lo = 0) (h2 : HT.sIx ds.length ds.length hi = ds.length) : cutF ds lo hi = ds := by
  unfold cutF
  rw [h1, h2]
  simp
theorem pv_slc (ha : Pv K cl te f) (hl : Po K cl tl fl) (hh : Po K cl th fh) : Pv K cl (tSl (rSlc K) te tl th) (vSlc f fl fh) := fun B F H ul σ tv ρ G us s r e Q q => by
  unfold vSlc at e
  split at e
  · rename_i z lo hi h1 h2 h3
    split at e
    · rename_i hz
      cases e
      refine ha B F H ul σ tv ρ G us _ r h1 _ fun x B1 H1 w1 hx => hl B1 F H1 ul σ tv ρ G us _ (r.grow w1) h2 _ fun B2 H2 w2 => hh B2 F H2 ul σ tv ρ G us _ ((r.grow w1).grow w2) h3 _ fun B3 H3 w3 => ?_
      have hx : Dp K B1 x (.str z) := hx
      cases hx
      exact .inl ⟨z, rfl, hz, q _ B3 H3 (w1.trans (w2.trans w3)) (.str _)⟩
    · cases e
  · rename_i ds lo hi h1 h2 h3
    cases e
    refine ha B F H ul σ tv ρ G us _ r h1 _ fun x B1 H1 w1 hx => hl B1 F H1 ul σ tv ρ G us _ (r.grow w1) h2 _ fun B2 H2 w2 => hh B2 F H2 ul σ tv ρ G us _ ((r.grow w1).grow w2) h3 _ fun B3 H3 w3 => ?_
    have hx : Dp K B1 x (.tuple ds) := hx
    have w := w1.trans (w2.trans w3)
    have r3 := r.grow w
    cases hx with
    | @tup _ xs _ s1 a1 =>
      have a3 := DpAll.mono (w2.b.trans w3.b) _ _ a1
      have s3 := Evl.ex_t (w2.b.trans w3.b) s1
      refine .inr (.inr ⟨_, _, rfl, Evl.ex_t r3.rl.exB s3, fun z => ?_, fun _ p hp => ?_⟩)
      · have hn := DpAll.length a1
        rw [hn] at z
        refine q _ B3 H3 w ?_
        rw [cutF_all z.1 z.2]
        exact .tup s3 a3
      · have w4 := Gw.nw (o := .tup (cutV xs lo hi)) r3.rl.exB hp
        exact q _ _ _ (w.trans w4) (.tup (SqT.of upd_same) (DpAll.mono w4.b _ _ (cut_dp a3 lo hi)))
  · cases e
theorem nv_slc (ha : Pv K cl te f) (hl : Po K cl tl fl) (hh : Po K cl th fh) : Nv K cl (tSl (rSlc K) te tl th) (nSlc f fl fh) := fun B F H ul σ tv ρ G us h ds r e Q q => by
  unfold nSlc at e
  split at e
  · rename_i ds lo hi h1 h2 h3
    cases e
    refine ha B F H ul σ tv ρ G us _ r h1 _ fun x B1 H1 w1 hx => hl B1 F H1 ul σ tv ρ G us _ (r.grow w1) h2 _ fun B2 H2 w2 => hh B2 F H2 ul σ tv ρ G us _ ((r.grow w1).grow w2) h3 _ fun B3 H3 w3 => ?_
    have hx : Dp K B1 x (.list ds) := hx
    have w := w1.trans (w2.trans w3)
    have r3 := r.grow w
    cases hx with
    | lst s1 a1 =>
      have a3 := DpAll.mono (w2.b.trans w3.b) _ _ a1
      have s3 := Evl.ex_l (w2.b.trans w3.b) s1
      refine .inr (.inl ⟨_, _, rfl, Evl.ex_l r3.rl.exB s3, fun p hp => ?_⟩)
      exact q p _ B3 H3 _ w hp rfl (.inl ⟨_, rfl⟩) ⟨free_of r3.rl.exB hp, upd_same⟩ (cut_dp a3 lo hi)
  · cases e
end
end Fx

/-! What is lent to a call, and what comes back. -/
namespace Fx
open PySem L2
open Evl (Ex)
variable {cl : String → Addr}
/-- the trees that a call is handed go out; where from -/
def lendF : List (Option Sv) → List T → Nat → List (List Nat) → Option (List Sv × List T × List T × List (List Nat))
  | [], g, _, _ => some ([], g, [], [])
  | none :: _, _, _, _ => none
  | some (.py d) :: r, g, k, old => match lendF r g k old with
    | some (ss, g', ms, ps) => some (.py d :: ss, g', ms, ps)
    | none => none
  | some (.at v) :: r, g, k, old => match lendF r g k old with
    | some (ss, g', ms, ps) => some (.at v :: ss, g', ms, ps)
    | none => none
  | some (.pt π) :: r, g, k, old => match gget g π with
    | some (.nd a h cs) => if old.all (fun p => !π.isPrefixOf p) then match lendF r (gput g π (.un ())) (k + 1) (π :: old) with
        | some (ss, g', ms, ps) => some (.pt [k] :: ss, g', .nd a h cs :: ms, π :: ps)
        | none => none
      else none
    | _ => none
def backF : List T → List (List Nat) → List T → Option (List T × List T)
  | g, [], ms => some (g, ms)
  | g, π :: ps, m :: ms => match m with
    | .nd _ _ _ => backF (gput g π m) ps ms
    | _ => none
  | _, _ :: _, [] => none
theorem pre_iff {a b : List Nat} : a.isPrefixOf b = true ↔ a <+: b := List.isPrefixOf_iff_prefix
theorem get_put_off : ∀ (π π2 : List Nat) (c u : LT), ¬ π <+: π2 → ¬ π2 <+: π → (c.put π u).get π2 = c.get π2
  | [], π2, c, u, h, _ => absurd List.nil_prefix h
  | i :: r, π2, .un b, u, h, _ => rfl
  | i :: r, π2, .py b, u, h, _ => rfl
  | i :: r, [], .nd p hd cs, u, h, h2 => absurd List.nil_prefix h2
  | i :: r, j :: r2, .nd p hd cs, u, h, h2 => by
    simp only [TL.put, TL.get]
    cases e : cs[i]? with
    | none => simp
    | some c =>
      by_cases ej : i = j
      · subst ej
        have hi : i < cs.length := (List.getElem?_eq_some_iff.mp e).1
        simp only [List.getElem?_set_self hi, e]
        exact get_put_off r r2 c u (fun z => h ((List.prefix_cons_inj i).mpr z)) (fun z => h2 ((List.prefix_cons_inj i).mpr z))
      · simp only [List.getElem?_set_ne ej]
theorem gget_put_off {G : List LT} {π π2 : List Nat} {u : LT} (h : ¬ π <+: π2) (h2 : ¬ π2 <+: π) : gget (gput G π u) π2 = gget G π2 := by
  cases π with
  | nil => exact absurd List.nil_prefix h
  | cons i r =>
    cases π2 with
    | nil => rfl
    | cons j r2 =>
      simp only [gput, gget]
      cases e : G[i]? with
      | none => simp
      | some c =>
        by_cases ej : i = j
        · subst ej
          have hi : i < G.length := (List.getElem?_eq_some_iff.mp e).1
          simp only [List.getElem?_set_self hi, e]
          exact get_put_off r r2 c u (fun z => h ((List.prefix_cons_inj i).mpr z)) (fun z => h2 ((List.prefix_cons_inj i).mpr z))
        · simp only [List.getElem?_set_ne ej]
theorem gget_put_self {G : List LT} {π : List Nat} {u u0 : LT} (e : gget G π = some u0) : gget (gput G π u) π = some u := by
  have := gget_put_ext (r := []) (u := u) e
  rw [List.append_nil] at this
  rw [this]
  cases u <;> rfl
/-- nothing lies below what is not known -/
theorem un_below {G : List LT} {π π2 : List Nat} {w : V} {u : LT} (e : gget G π = some (.un w)) (h : π <+: π2) (e2 : gget G π2 = some u) : π2 = π := by
  obtain ⟨r, rfl⟩ := h
  rw [gget_app e] at e2
  cases r with
  | nil => simp
  | cons => simp [TL.get] at e2
/-- to put what is not known somewhere only takes away -/
theorem pv_hole {G : List LT} {π π2 : List Nat} {w v : V} {u : LT} (e : gget G π = some u) (h : pv (gput G π (.un w)) π2 = some v) : pv G π2 = some v ∧ ¬ π <+: π2 := by
  by_cases hp : π <+: π2
  · exfalso
    have e1 := gget_put_self (u := .un w) e
    unfold pv at h
    cases e2 : gget (gput G π (.un w)) π2 with
    | none => rw [e2] at h; cases h
    | some x =>
      have := un_below e1 hp e2
      subst this
      rw [e1] at e2
      cases e2
      rw [e1] at h
      cases h
  · rw [pv_put_ne hp] at h
    exact ⟨h, hp⟩
section
variable {K : PySem.W.Frag} {B F H B' H' : Hp}
theorem nodup_mid {a b c : List Addr} : (a ++ (b ++ c)).Nodup ↔ ((a ++ c) ++ b).Nodup := by
  have : List.Perm (a ++ (b ++ c)) ((a ++ c) ++ b) := by
    rw [List.append_assoc]
    exact List.Perm.append_left a List.perm_append_comm
  exact this.nodup_iff
/-- a root from the middle goes to where something is not known -/
theorem Rl.inM {G R : List LT} {us rs : List V} {u : LT} {w : V} {π : List Nat} (r : Rl K cl B F H (G ++ u :: R) (us ++ w :: rs)) (hl : us.length = G.length) (e : gget G π = some (.un w)) : Rl K cl B F H (gput G π u ++ R) (us ++ rs) := by
  obtain ⟨us', ws', e1, a, b⟩ := LtAll.split r.at_
  have e2 : us' = us := (List.append_inj_left e1 (by rw [hl, a.length])).symm
  subst e2
  have e3 : ws' = w :: rs := (List.append_cancel_left e1).symm
  subst e3
  cases b with
  | cons b1 b2 =>
    have r2 : Rl K cl B F H ((G ++ R) ++ [u]) ((us' ++ rs) ++ [w]) := by
      refine r.re ((a.append b2).append (.cons b1 .nil)) ?_ fun q hq => ?_
      · have n := r.nod
        rw [addrsAll_append] at n
        rw [addrsAll_append, addrsAll_append]
        simp only [addrsAll, List.append_nil] at n ⊢
        exact nodup_mid.mp n
      · rw [addrsAll_append, addrsAll_append] at hq
        rw [addrsAll_append]
        simp only [addrsAll, List.append_nil, List.mem_append] at hq ⊢
        rcases hq with (h | h) | h <;> simp [h]
    have := r2.in1 (gget_append e)
    rw [gput_append e] at this
    exact this
/-- what a call hands goes out -/
theorem lend_ok (G0 : List LT) (B0 : Hp) : ∀ (args : List (Option Sv)) (vs : List V) (G M : List LT) (us ms : List V) (old : List (List Nat)) (ow : List V) (ss : List Sv) (g' m' : List T) (ps : List (List Nat)),
    Rl K cl B F H (G ++ M) (us ++ ms) → us.length = G.length → ms.length = M.length → lendF args (G.map TL.er) M.length old = some (ss, g', m', ps) →
    vs.length = args.length → (∀ (i : Nat) (s : Sv), args[i]? = some (some s) → ∃ v, vs[i]? = some v ∧ SvAt K B G0 v s) → (∀ π v, pv G π = some v → pv G0 π = some v) → old.length = ow.length → (∀ (j : Nat) (p : List Nat) (w : V), old[j]? = some p → ow[j]? = some w → gget G p = some (.un w)) →
    ∃ (G' M' : List LT) (ws : List V), G'.map TL.er = g' ∧ M'.map TL.er = m' ∧ Rl K cl B F H (G' ++ (M ++ M')) (us ++ (ms ++ ws)) ∧ us.length = G'.length ∧ ws.length = M'.length ∧ ps.length = ws.length ∧
      ss.length = args.length ∧ (∀ (i : Nat) (s : Sv), ss[i]? = some s → ∃ v, vs[i]? = some v ∧ SvAt K B (M ++ M') v s) ∧ (∀ (j : Nat) (p : List Nat) (w : V), old[j]? = some p → ow[j]? = some w → gget G' p = some (.un w)) ∧
      (∀ (j : Nat) (p : List Nat) (w : V), ps[j]? = some p → ws[j]? = some w → gget G' p = some (.un w) ∧ pv G0 p = some w) ∧ (∀ π, (∀ p ∈ ps, ¬ p <+: π) → pv G' π = pv G π) ∧ ps.Nodup ∧ ∀ p ∈ ps, p ∉ old
  | [], vs, G, M, us, ms, old, ow, ss, g', m', ps, r, hl, hm, e, hv, ha, hp, ho, hh => by
    simp only [lendF, Option.some.injEq, Prod.mk.injEq] at e
    obtain ⟨rfl, rfl, rfl, rfl⟩ := e
    refine ⟨G, [], [], rfl, rfl, by simpa using r, hl, rfl, rfl, rfl, fun i s h => by simp at h, hh, fun j p w h => by simp at h, fun π _ => rfl, List.nodup_nil, fun p h => by simp at h⟩
  | none :: ar, vs, G, M, us, ms, old, ow, ss, g', m', ps, r, hl, hm, e, hv, ha, hp, ho, hh => by simp [lendF] at e
  | some (.py d) :: ar, vs, G, M, us, ms, old, ow, ss, g', m', ps, r, hl, hm, e, hv, ha, hp, ho, hh => by
    simp only [lendF] at e
    split at e
    · rename_i ss1 g1 m1 p1 e1
      simp only [Option.some.injEq, Prod.mk.injEq] at e
      obtain ⟨rfl, rfl, rfl, rfl⟩ := e
      cases vs with
      | nil => simp at hv
      | cons v vs =>
        obtain ⟨G', M', ws, a1, a2, a3, a4, a5, a6, a7, a8, a9, a10, a11, a12, a13⟩ := lend_ok G0 B0 ar vs G M us ms old ow ss1 g1 m1 p1 r hl hm e1 (by simpa using hv) (fun i s h => by simpa using ha (i + 1) s (by simpa using h)) hp ho hh
        refine ⟨G', M', ws, a1, a2, a3, a4, a5, a6, by simp [a7], fun i s h => ?_, a9, a10, a11, a12, a13⟩
        cases i with
        | zero =>
          simp at h; subst h
          obtain ⟨v', h1, h2⟩ := ha 0 (.py d) rfl
          simp at h1; subst h1
          exact ⟨v, rfl, h2⟩
        | succ i => simpa using a8 i s (by simpa using h)
    · cases e
  | some (.at x) :: ar, vs, G, M, us, ms, old, ow, ss, g', m', ps, r, hl, hm, e, hv, ha, hp, ho, hh => by
    simp only [lendF] at e
    split at e
    · rename_i ss1 g1 m1 p1 e1
      simp only [Option.some.injEq, Prod.mk.injEq] at e
      obtain ⟨rfl, rfl, rfl, rfl⟩ := e
      cases vs with
      | nil => simp at hv
      | cons v vs =>
        obtain ⟨G', M', ws, a1, a2, a3, a4, a5, a6, a7, a8, a9, a10, a11, a12, a13⟩ := lend_ok G0 B0 ar vs G M us ms old ow ss1 g1 m1 p1 r hl hm e1 (by simpa using hv) (fun i s h => by simpa using ha (i + 1) s (by simpa using h)) hp ho hh
        refine ⟨G', M', ws, a1, a2, a3, a4, a5, a6, by simp [a7], fun i s h => ?_, a9, a10, a11, a12, a13⟩
        cases i with
        | zero =>
          simp at h; subst h
          obtain ⟨v', h1, h2⟩ := ha 0 (.at x) rfl
          simp at h1; subst h1
          exact ⟨v, rfl, h2⟩
        | succ i => simpa using a8 i s (by simpa using h)
    · cases e
  | some (.pt π) :: ar, vs, G, M, us, ms, old, ow, ss, g', m', ps, r, hl, hm, e, hv, ha, hp, ho, hh => by
    simp only [lendF] at e
    split at e
    · rename_i a h cs eg
      split at e
      · rename_i hall
        split at e
        · rename_i ss1 g1 m1 p1 e1
          simp only [Option.some.injEq, Prod.mk.injEq] at e
          obtain ⟨rfl, rfl, rfl, rfl⟩ := e
          cases vs with
          | nil => simp at hv
          | cons v vs =>
            rw [gget_er] at eg
            cases eu : gget G π with
            | none => rw [eu] at eg; cases eg
            | some u =>
              rw [eu] at eg
              simp only [Option.map_some, Option.some.injEq] at eg
              cases u with
              | un => cases eg
              | py => cases eg
              | nd p hd cs' =>
                have hv0 : pv G π = some (.ref p) := by unfold pv; rw [eu]; rfl
                obtain ⟨v', h1, h2⟩ := ha 0 (.pt π) rfl
                simp at h1; subst h1
                have h2 : pv G0 π = some v := h2
                rw [hp π _ hv0] at h2
                cases h2
                obtain ⟨w, hw, r1⟩ := r.out1 (gget_append eu)
                have ew : w = .ref p := by cases hw; rfl
                subst ew
                rw [gput_append eu] at r1
                have r1 : Rl K cl B F H (gput G π (.un (.ref p)) ++ (M ++ [.nd p hd cs'])) (us ++ (ms ++ [.ref p])) := by
                  rw [← List.append_assoc, ← List.append_assoc]; exact r1
                have e1' : lendF ar ((gput G π (.un (.ref p))).map TL.er) (M ++ [TL.nd p hd cs']).length (π :: old) = some (ss1, g1, m1, p1) := by
                  rw [gput_er]
                  have : (M ++ [TL.nd p hd cs']).length = M.length + 1 := by simp
                  rw [this]
                  exact e1
                have hne : ∀ q ∈ old, ¬ π <+: q := fun q hq z => by
                  have := List.all_eq_true.mp hall q hq
                  rw [pre_iff.mpr z] at this
                  simp at this
                have keepOld : ∀ (j : Nat) (q : List Nat) (x : V), old[j]? = some q → ow[j]? = some x → gget (gput G π (.un (.ref p))) q = some (.un x) := fun j q x h1 h2 => by
                  have e3 := hh j q x h1 h2
                  rw [gget_put_off (hne q (List.mem_of_getElem? h1)) fun z => ?_]
                  · exact e3
                  · have := un_below e3 z eu
                    subst this
                    rw [e3] at eu; cases eu
                obtain ⟨G', M', ws, a1, a2, a3, a4, a5, a6, a7, a8, a9, a10, a11, a12, a13⟩ := lend_ok G0 B0 ar vs _ _ us _ (π :: old) (.ref p :: ow) ss1 g1 m1 p1 r1 (by rw [gput_len]; exact hl) (by simp [hm]) e1' (by simpa using hv) (fun i s h => by simpa using ha (i + 1) s (by simpa using h))
                  (fun π2 x h => hp π2 x (pv_hole eu h).1) (by simp [ho]) (fun j q x h1 h2 => by
                    cases j with
                    | zero => simp at h1 h2; subst h1 h2; exact gget_put_self eu
                    | succ j => exact keepOld j q x (by simpa using h1) (by simpa using h2))
                refine ⟨G', .nd p hd cs' :: M', .ref p :: ws, a1, by simp [a2, ← eg], by simpa using a3, a4, by simp [a5], by simp [a6], by simp [a7], fun i s h => ?_, fun j q x h1 h2 => ?_, fun j q x h1 h2 => ?_, fun π2 h => ?_, List.nodup_cons.mpr ⟨fun z => a13 π z (by simp), a12⟩, fun q hq z => ?_⟩
                · cases i with
                  | zero =>
                    simp at h; subst h
                    refine ⟨.ref p, rfl, ?_⟩
                    show pv (M ++ .nd p hd cs' :: M') [M.length] = _
                    unfold pv
                    simp only [gget]
                    rw [List.getElem?_append_right (Nat.le_refl _)]
                    simp [TL.get, lref]
                  | succ i => simpa using a8 i s (by simpa using h)
                · exact a9 (j + 1) q x (by simpa using h1) (by simpa using h2)
                · cases j with
                  | zero =>
                    simp at h1 h2; subst h1 h2
                    exact ⟨a9 0 _ _ rfl rfl, hp _ _ hv0⟩
                  | succ j => exact a10 j q x (by simpa using h1) (by simpa using h2)
                · rw [a11 π2 fun q hq => h q (by simp [hq])]
                  exact pv_put_ne (h π (by simp))
                · rcases List.mem_cons.mp hq with rfl | hq
                  · obtain ⟨j, hj⟩ := List.mem_iff_getElem?.mp z
                    have hjl : j < ow.length := by rw [← ho]; exact (List.getElem?_eq_some_iff.mp hj).1
                    have := hh j q _ hj (List.getElem?_eq_getElem hjl)
                    rw [this] at eu; cases eu
                  · exact a13 q hq (by simp [z])
        · cases e
      · cases e
    · cases e
/-- what comes back goes in -/
theorem back_ok (G0 : List LT) : ∀ (ps : List (List Nat)) (ws : List V) (G M : List LT) (us xs : List V) (m : List T) (g' r' : List T),
    Rl K cl B F H (G ++ M) (us ++ (ws ++ xs)) → us.length = G.length → M.map TL.er = m → backF (G.map TL.er) ps m = some (g', r') → ps.length = ws.length →
    (∀ (j : Nat) (p : List Nat) (w : V), ps[j]? = some p → ws[j]? = some w → gget G p = some (.un w)) → (∀ (i j : Nat) (p q : List Nat), ps[i]? = some p → ps[j]? = some q → i ≠ j → ¬ p <+: q) →
    ∃ (G' R : List LT), G'.map TL.er = g' ∧ R.map TL.er = r' ∧ Rl K cl B F H (G' ++ R) (us ++ xs) ∧ us.length = G'.length ∧ (∀ π, (∀ p ∈ ps, ¬ p <+: π) → pv G' π = pv G π) ∧ (∀ (j : Nat) (p : List Nat) (w : V), ps[j]? = some p → ws[j]? = some w → pv G' p = some w)
  | [], ws, G, M, us, xs, m, g', r', r, hl, hm, e, hw, hh, hd => by
    simp only [backF, Option.some.injEq, Prod.mk.injEq] at e
    obtain ⟨rfl, rfl⟩ := e
    have : ws = [] := List.length_eq_zero_iff.mp (by simpa using hw.symm)
    subst this
    exact ⟨G, M, rfl, hm, r, hl, fun _ _ => rfl, fun j p w h => by simp at h⟩
  | π :: ps, [], G, M, us, xs, m, g', r', r, hl, hm, e, hw, hh, hd => by simp at hw
  | π :: ps, w :: ws, G, [], us, xs, m, g', r', r, hl, hm, e, hw, hh, hd => by
    subst hm
    simp [backF] at e
  | π :: ps, w :: ws, G, u :: M, us, xs, m, g', r', r, hl, hm, e, hw, hh, hd => by
    subst hm
    simp only [List.map_cons, backF] at e
    split at e
    · rename_i a h cs eu
      have e0 := hh 0 π w rfl rfl
      have r1 := r.inM hl e0
      rw [← gput_er] at e
      have offp : ∀ (j : Nat) (p : List Nat) (x : V), ps[j]? = some p → ws[j]? = some x → gget (gput G π u) p = some (.un x) := fun j p x h1 h2 => by
        rw [gget_put_off (hd 0 (j + 1) π p rfl (by simpa using h1) (by omega)) (hd (j + 1) 0 p π (by simpa using h1) rfl (by omega))]
        exact hh (j + 1) p x (by simpa using h1) (by simpa using h2)
      obtain ⟨G', R, a1, a2, a3, a4, a5, a6⟩ := back_ok G0 ps ws (gput G π u) M us xs _ g' r' r1 (by rw [gput_len]; exact hl) rfl e (by simpa using hw) offp (fun i j p q h1 h2 h3 => hd (i + 1) (j + 1) p q (by simpa using h1) (by simpa using h2) (by omega))
      refine ⟨G', R, a1, a2, a3, a4, fun π2 h => ?_, fun j p x h1 h2 => ?_⟩
      · rw [a5 π2 fun p hp => h p (by simp [hp])]
        exact pv_put_ne (h π (by simp))
      · cases j with
        | zero =>
          simp at h1 h2; subst h1 h2
          rw [a5 π fun p hp => ?_]
          · unfold pv
            rw [gget_put_self e0]
            obtain ⟨us', ws', z1, z2, z3⟩ := LtAll.split r.at_
            have z4 : us' = us := (List.append_inj_left z1 (by rw [hl, z2.length])).symm
            subst z4
            have z5 : ws' = w :: (ws ++ xs) := (List.append_cancel_left z1).symm
            subst z5
            cases z3 with
            | cons z6 _ =>
              cases u with
              | un => cases eu
              | py => cases eu
              | nd p2 h2 c2 => cases z6; rfl
          · obtain ⟨i, hi⟩ := List.mem_iff_getElem?.mp hp
            exact hd (i + 1) 0 p π (by simpa using hi) rfl (by omega)
        | succ j => exact a6 j p x (by simpa using h1) (by simpa using h2)
    · cases e
end
end Fx

/-! What a def promises; calls. -/
namespace Fx
open PySem L2
open Evl (Ex)
variable {cl : String → Addr}
/-- a result: told, or the last root -/
inductive Rv where
  | s (s : Sv)
  | own
inductive Ev where
  | vl (r : Rv) (ρ : Rh)
  | ex (C : String) (ρ : Rh)
inductive Rs where
  | vl (r : Rv) (g : List T)
  | ex (C : String) (g : List T)
abbrev Sem := List Sv → List T → Option Rs
def RvAt (K : PySem.W.Frag) (B : Hp) (G : List LT) (us : List V) (v : V) : Rv → Prop
  | .s s => SvAt K B G v s
  | .own => us.getLast? = some v
def EvP (K : PySem.W.Frag) (cl : String → Addr) (B F : Hp) (ul : List V) (σ : St) (tv : List V) (Q : VK) (E : XK) : Option Ev → Prop
  | some (.vl r ρ) => ∀ v B' H' G us, Kp F B B' → Rg K cl B' F H' ul σ tv ρ G us → RvAt K B' G us v r → Q v H'
  | some (.ex C ρ) => ∀ B' H' G us, Kp F B B' → Rg K cl B' F H' ul σ tv ρ G us → E (.ref (cl C)) none H'
  | none => False
/-- what a def gives back, the lent roots' values being us -/
def RsAt (K : PySem.W.Frag) (B : Hp) (us us' : List V) (v : V) : Rv → Prop
  | .s (.py d) => us' = us ∧ Dp K B v d
  | .s (.at u) => us' = us ∧ v = u
  | .s (.pt _) => False
  | .own => us' = us ++ [v]
def RsP (K : PySem.W.Frag) (cl : String → Addr) (B F : Hp) (us : List V) (Q : VK) (E : XK) : Option Rs → Prop
  | some (.vl r g) => ∀ v B' H' G' us', Kp F B B' → Rl K cl B' F H' G' us' → G'.map TL.er = g → RsAt K B' us us' v r → Q v H'
  | some (.ex C g) => ∀ B' H' G', Kp F B B' → Rl K cl B' F H' G' us → G'.map TL.er = g → E (.ref (cl C)) none H'
  | none => False
def PSf (K : PySem.W.Frag) (cl : String → Addr) (sem : Sem) : Sp := fun vs H Q E => ∃ B F G us ss, Rl K cl B F H G us ∧ vs.length = ss.length ∧ (∀ (i : Nat) (s : Sv), ss[i]? = some s → ∃ v, vs[i]? = some v ∧ SvAt K B G v s) ∧
  RsP K cl B F us Q E (sem ss (G.map TL.er))
def headLt (l : Nat) : List Nat → Bool
  | i :: _ => decide (i < l)
  | [] => false
/-- a slot's place that a call has made void -/
def voidF (l0 : Nat) (ps : List (List Nat)) (π : List Nat) : Bool := ps.any (fun p => p.isPrefixOf π && !(p == π)) || !headLt l0 π
def tidy (l0 n : Nat) (ps : List (List Nat)) (g : List T) (ρ : Rh) : Rh := ⟨msk (voidF l0 ps) ρ.sl, msk (voidF l0 ps) (ρ.tm.take (ρ.tm.length - n)), g, ρ.bs⟩
/-- the call of sem with the last n of tm; behind it l0 roots are left -/
def callF (sem : Sem) (n l0 : Nat) (ρ : Rh) : Option Ev :=
  match lendF (ρ.tm.drop (ρ.tm.length - n)) ρ.g 0 [] with
  | some (ss, gh, ms, ps) => match sem ss ms with
    | some (.vl (.s (.py d)) ms') => match backF gh ps ms' with
      | some (g2, []) => some (.vl (.s (.py d)) (tidy l0 n ps (g2.take l0) ρ))
      | _ => none
    | some (.vl (.s (.at v)) ms') => match backF gh ps ms' with
      | some (g2, []) => some (.vl (.s (.at v)) (tidy l0 n ps (g2.take l0) ρ))
      | _ => none
    | some (.vl .own ms') => match backF gh ps ms' with
      | some (g2, [t]) => some (.vl .own (tidy l0 n ps (g2.take l0 ++ [t]) ρ))
      | _ => none
    | some (.ex C ms') => match backF gh ps ms' with
      | some (g2, []) => some (.ex C (tidy l0 n ps (g2.take l0) ρ))
      | _ => none
    | _ => none
  | none => none
/-- C(..): sem is __init__'s -/
def makeF (C : String) (sem : Sem) (n l0 : Nat) (ρ : Rh) : Option Ev :=
  match lendF (ρ.tm.drop (ρ.tm.length - n)) ρ.g 1 [] with
  | some (ss, gh, ms, ps) => match sem (.pt [0] :: ss) (.nd () (.ins C []) [] :: ms) with
    | some (.vl (.s (.py .none)) (o :: ms')) => match backF gh ps ms' with
      | some (g2, []) => some (.vl .own (tidy l0 n ps (g2.take l0 ++ [o]) ρ))
      | _ => none
    | some (.ex D (o :: ms')) => match backF gh ps ms' with
      | some (g2, []) => some (.ex D (tidy l0 n ps (g2.take l0) ρ))
      | _ => none
    | _ => none
  | none => none
theorem void_not {l0 : Nat} {ps : List (List Nat)} {π : List Nat} (h : voidF l0 ps π = false) : (∀ p ∈ ps, p <+: π → p = π) ∧ headLt l0 π = true := by
  unfold voidF at h
  simp only [Bool.or_eq_false_iff] at h
  refine ⟨fun p hp z => ?_, by simpa using h.2⟩
  have := List.any_eq_false.mp h.1 p hp
  rw [pre_iff.mpr z] at this
  simpa using this
theorem pv_take {G : List LT} {l0 : Nat} {π : List Nat} (h : headLt l0 π = true) : pv (G.take l0) π = pv G π := by
  cases π with
  | nil => cases h
  | cons i r =>
    simp only [headLt, decide_eq_true_eq] at h
    unfold pv
    simp only [gget]
    rw [List.getElem?_take_of_lt h]
theorem pv_app_lt {G X : List LT} {l0 : Nat} {π : List Nat} (h : headLt l0 π = true) (hl : l0 ≤ G.length) : pv (G ++ X) π = pv G π := by
  cases π with
  | nil => cases h
  | cons i r =>
    simp only [headLt, decide_eq_true_eq] at h
    unfold pv
    simp only [gget]
    rw [List.getElem?_append_left (by omega)]
section
variable {K : PySem.W.Frag} {B F H B' H' : Hp} {ul tv us vs : List V} {σ : St} {ρ : Rh} {G : List LT} {sem : Sem} {n l0 : Nat} {Q : VK} {E : XK}
theorem SlAt.left {K : PySem.W.Frag} {B : Hp} {G : List LT} {σ τ : List (Option V)} {sl : List (Option Sv)} (a : SlAt K B G (σ ++ τ) sl) : SlAt K B G σ (sl.take σ.length) := ⟨by
    have := a.len
    simp only [List.length_append] at this
    simp; omega, fun i s h => by
    have hi : i < σ.length := by
      refine Classical.byContradiction fun z => ?_
      rw [List.getElem?_eq_none (by simp; omega)] at h
      cases h
    rw [List.getElem?_take_of_lt hi] at h
    obtain ⟨v, h1, h2⟩ := a.has i s h
    exact ⟨v, by rw [List.getElem?_append_left hi] at h1; exact h1, h2⟩⟩
theorem SlAt.right {K : PySem.W.Frag} {B : Hp} {G : List LT} {σ τ : List (Option V)} {sl : List (Option Sv)} (a : SlAt K B G (σ ++ τ) sl) : SlAt K B G τ (sl.drop σ.length) := ⟨by
    have := a.len
    simp only [List.length_append] at this
    simp; omega, fun i s h => by
    rw [List.getElem?_drop] at h
    obtain ⟨v, h1, h2⟩ := a.has _ s h
    exact ⟨v, by rw [List.getElem?_append_right (by omega)] at h1; simpa using h1, h2⟩⟩
/-- behind a call: what the caller knows -/
theorem after_call {Gf : List LT} {usf : List V} {ps : List (List Nat)} {ws : List V} {gf : List T} (r : Rg K cl B F H ul σ (tv ++ vs) ρ G us) (hn : vs.length = n) (kb : Ex B B') (hb : ρ.bs ≤ l0) (hl : l0 ≤ Gf.length) (rf : Rl K cl B' F H' Gf usf) (ef : Gf.map TL.er = gf) (eu : ∀ k, k < l0 → usf[k]? = us[k]?)
    (off : ∀ π, headLt l0 π = true → (∀ p ∈ ps, ¬ p <+: π) → pv Gf π = pv G π) (on : ∀ p ∈ ps, headLt l0 p = true → ∃ w, pv Gf p = some w ∧ pv G p = some w) : Rg K cl B' F H' ul σ tv (tidy l0 n ps gf ρ) Gf usf := by
  have key : ∀ π v, voidF l0 ps π = false → pv G π = some v → pv Gf π = some v := fun π v h1 h2 => by
    obtain ⟨h3, h4⟩ := void_not h1
    by_cases hp' : ∃ p ∈ ps, p <+: π
    · obtain ⟨p, hp, hq⟩ := hp'
      have := h3 p hp hq
      subst this
      obtain ⟨w, h5, h6⟩ := on p hp h4
      rw [h6] at h2; cases h2
      exact h5
    · rw [off π h4 fun p hp z => hp' ⟨p, hp, z⟩]
      exact h2
  refine ⟨ef, rf, r.bs, Nat.le_trans hb hl, ?_, r.sl.mask kb key, ?_⟩
  · have h1 := r.ul
    have h2 := r.bs
    have : (usf.drop σ.length).take ul.length = (us.drop σ.length).take ul.length := by
      apply List.ext_getElem?
      intro k
      by_cases hk : k < ul.length
      · rw [List.getElem?_take_of_lt hk, List.getElem?_take_of_lt hk, List.getElem?_drop, List.getElem?_drop]
        exact eu _ (by omega)
      · rw [List.getElem?_eq_none (by simp; omega), List.getElem?_eq_none (by simp; omega)]
    rw [this]; exact h1
  · have := r.tm
    rw [List.map_append] at this
    have hlen : (tv.map some).length = ρ.tm.length - n := by
      have := this.len
      simp only [List.length_append, List.length_map] at this ⊢
      omega
    have h2 := this.left
    rw [hlen] at h2
    exact h2.mask kb key
end
end Fx

/-! Calls: why. -/
namespace Fx
open PySem L2
open Evl (Ex)
variable {cl : String → Addr}
section
variable {K : PySem.W.Frag} {B F H B' H' : Hp} {ul tv us vs : List V} {σ : St} {ρ : Rh} {G : List LT} {sem : Sem} {n l0 : Nat} {Q : VK} {E : XK}
/-- the last n of tm -/
theorem last_tm (r : Rg K cl B F H ul σ (tv ++ vs) ρ G us) (hn : vs.length = n) : ρ.tm.length - n = tv.length ∧ vs.length = (ρ.tm.drop (ρ.tm.length - n)).length ∧
    ∀ (i : Nat) (s : Sv), (ρ.tm.drop (ρ.tm.length - n))[i]? = some (some s) → ∃ v, vs[i]? = some v ∧ SvAt K B G v s := by
  have a := r.tm
  rw [List.map_append] at a
  have hl := a.len
  simp only [List.length_append, List.length_map] at hl
  have e : ρ.tm.length - n = tv.length := by omega
  have b := a.right
  simp only [List.length_map] at b
  rw [e]
  refine ⟨rfl, by simp; omega, fun i s h => ?_⟩
  obtain ⟨v, h1, h2⟩ := b.has i s h
  rw [List.getElem?_map] at h1
  cases e2 : vs[i]? with
  | none => rw [e2] at h1; cases h1
  | some w => rw [e2] at h1; cases h1; exact ⟨v, rfl, h2⟩
theorem drop_roots {Ga X : List LT} {ua xs : List V} {l0 : Nat} (r : Rl K cl B F H (Ga ++ X) (ua ++ xs)) (hl : ua.length = Ga.length) : Rl K cl B F H (Ga.take l0 ++ X) (ua.take l0 ++ xs) := by
  obtain ⟨us', ws', z1, z2, z3⟩ := LtAll.split r.at_
  have z4 : us' = ua := (List.append_inj_left z1 (by rw [hl, z2.length])).symm
  subst z4
  have z5 : ws' = xs := (List.append_cancel_left z1).symm
  subst z5
  have key : ∀ (n : Nat) {vs : List V} {cs : List LT}, LtAll K cl B H vs cs → LtAll K cl B H (vs.take n) (cs.take n) := by
    intro n vs cs h
    induction cs generalizing n vs with
    | nil => cases h; simp; exact .nil
    | cons c cs ih =>
      cases h with
      | cons a b =>
        cases n with
        | zero => exact .nil
        | succ n => exact .cons a (ih n b)
  have sub : ∀ (n : Nat) (cs : List LT), (addrsAll (cs.take n)).Sublist (addrsAll cs) := by
    intro n cs
    induction cs generalizing n with
    | nil => simp
    | cons c cs ih =>
      cases n with
      | zero => simp [addrsAll]
      | succ n => simp only [List.take_succ_cons, addrsAll]; exact List.Sublist.append (List.Sublist.refl _) (ih n)
  have s2 : (addrsAll (Ga.take l0 ++ X)).Sublist (addrsAll (Ga ++ X)) := by
    rw [addrsAll_append, addrsAll_append]
    exact List.Sublist.append (sub l0 Ga) (List.Sublist.refl _)
  exact r.re ((key l0 z2).append z3) (s2.nodup r.nod) fun q hq => s2.subset hq
/-- what is lent, what comes back, for a call that hands M0 first -/
theorem call_lent {M0 : List LT} {m0 : List V} {ss : List Sv} {gh ms : List T} {ps : List (List Nat)} (r : Rg K cl B F H ul σ (tv ++ vs) ρ G us) (hn : vs.length = n) (hb : ρ.bs ≤ l0) (hl : l0 ≤ G.length)
    (r0 : Rl K cl B F H (G ++ M0) (us ++ m0)) (hm0 : m0.length = M0.length) (e : lendF (ρ.tm.drop (ρ.tm.length - n)) ρ.g M0.length [] = some (ss, gh, ms, ps)) :
    ∃ (G' M' : List LT) (ws : List V), G'.map TL.er = gh ∧ M'.map TL.er = ms ∧ Rl K cl B F H (G' ++ (M0 ++ M')) (us ++ (m0 ++ ws)) ∧ us.length = G'.length ∧ ws.length = M'.length ∧ vs.length = ss.length ∧
      (∀ (i : Nat) (s : Sv), ss[i]? = some s → ∃ v, vs[i]? = some v ∧ SvAt K B (M0 ++ M') v s) ∧
      ∀ (B' H' : Hp) (M2 : List LT) (m2 xs : List V) (g2 r2 : List T), Rl K cl B' F H' (G' ++ M2) (us ++ (ws ++ xs)) → Kp F B B' → backF gh ps (M2.map TL.er) = some (g2, r2) →
        ∃ (Gf R : List LT), Gf.map TL.er = g2 ∧ R.map TL.er = r2 ∧ Rl K cl B' F H' (Gf ++ R) (us ++ xs) ∧ us.length = Gf.length ∧
          ∀ (X : List LT) (ys : List V) (tx : List T), X.map TL.er = tx → Rl K cl B' F H' (Gf.take l0 ++ X) (us.take l0 ++ ys) → Rg K cl B' F H' ul σ tv (tidy l0 n ps (g2.take l0 ++ tx) ρ) (Gf.take l0 ++ X) (us.take l0 ++ ys) := by
  obtain ⟨t1, t2, t3⟩ := last_tm r hn
  have hul : us.length = G.length := r.rl.at_.length
  have e' : lendF (ρ.tm.drop (ρ.tm.length - n)) (G.map TL.er) M0.length [] = some (ss, gh, ms, ps) := by rw [r.er]; exact e
  obtain ⟨G', M', ws, a1, a2, a3, a4, a5, a6, a7, a8, a9, a10, a11, a12, a13⟩ := lend_ok G B (ρ.tm.drop (ρ.tm.length - n)) vs G M0 us m0 [] [] ss gh ms ps r0 hul hm0 e' t2 t3 (fun _ _ h => h) rfl (fun j p w h => by simp at h)
  refine ⟨G', M', ws, a1, a2, a3, a4, a5, by rw [a7]; exact t2, a8, fun B' H' M2 m2 xs g2 r2 rr kp eb => ?_⟩
  subst a1
  have disj : ∀ (i j : Nat) (p q : List Nat), ps[i]? = some p → ps[j]? = some q → i ≠ j → ¬ p <+: q := fun i j p q h1 h2 h3 z => by
    have hj : j < ws.length := by rw [← a6]; exact (List.getElem?_eq_some_iff.mp h2).1
    have hi : i < ws.length := by rw [← a6]; exact (List.getElem?_eq_some_iff.mp h1).1
    have w1 := (a10 i p _ h1 (List.getElem?_eq_getElem hi)).1
    have w2 := (a10 j q _ h2 (List.getElem?_eq_getElem hj)).1
    have eq := un_below w1 z w2
    subst eq
    exact h3 ((List.getElem?_inj (List.getElem?_eq_some_iff.mp h1).1 a12).mp (by rw [h1, h2]))
  obtain ⟨Gf, R, b1, b2, b3, b4, b5, b6⟩ := back_ok G ps ws G' M2 us xs _ g2 r2 rr a4 rfl eb a6 (fun j p w h1 h2 => (a10 j p w h1 h2).1) disj
  refine ⟨Gf, R, b1, b2, b3, b4, fun X ys tx ex rf => ?_⟩
  have lf : l0 ≤ (Gf.take l0 ++ X).length := by
    rw [List.length_append, List.length_take, ← b4, hul]; omega
  have l1 : (Gf.take l0).length = l0 := by rw [List.length_take, ← b4, hul]; omega
  have l2 : (us.take l0).length = l0 := by rw [List.length_take, hul]; omega
  refine after_call (ps := ps) (ws := ws) r hn kp.b hb lf rf (by rw [List.map_append, List.map_take, b1, ex]) (fun k hk => ?_) (fun π h1 h2 => ?_) (fun p hp h1 => ?_)
  · rw [List.getElem?_append_left (by omega), List.getElem?_take_of_lt hk]
  · rw [pv_app_lt h1 (by omega), pv_take h1, b5 π h2, a11 π h2]
  · obtain ⟨j, hj⟩ := List.mem_iff_getElem?.mp hp
    have hjw : j < ws.length := by rw [← a6]; exact (List.getElem?_eq_some_iff.mp hj).1
    refine ⟨ws[j], ?_, (a10 j p _ hj (List.getElem?_eq_getElem hjw)).2⟩
    rw [pv_app_lt h1 (by omega), pv_take h1]
    exact b6 j p _ hj (List.getElem?_eq_getElem hjw)
theorem take_nil {us xs : List V} : us ++ (xs ++ []) = us ++ xs := by simp
/-- a call -/
theorem call_core (r : Rg K cl B F H ul σ (tv ++ vs) ρ G us) (hn : vs.length = n) (hb : ρ.bs ≤ l0) (hl : l0 ≤ ρ.g.length) (post : EvP K cl B F ul σ tv Q E (callF sem n l0 ρ)) : PSf K cl sem vs H Q E := by
  have hl' : l0 ≤ G.length := by rw [← List.length_map (f := TL.er) (as := G), r.er]; exact hl
  unfold callF at post
  split at post
  · rename_i ss gh ms ps e
    have r0 : Rl K cl B F H (G ++ []) (us ++ []) := by simpa using r.rl
    obtain ⟨G', M', ws, a1, a2, a3, a4, a5, a6, a7, a8⟩ := call_lent (M0 := []) (m0 := []) r hn hb hl' r0 rfl e
    simp only [List.nil_append] at a3 a7
    have le := a3.lend a4
    refine ⟨B, lendB H (addrsAll M'), M', ws, ss, le, a6, a7, ?_⟩
    rw [a2]
    split at post
    · -- data
      rename_i d ms' es
      rw [es]
      split at post
      · rename_i g2 eb
        rintro v B' H' M2 us' kp r' em ⟨hu, hd⟩
        subst hu
        obtain ⟨r2, kp2⟩ := a3.back a4 kp r'
        have r2 : Rl K cl B' F H' (G' ++ M2) (us ++ (us' ++ [])) := by simpa using r2
        obtain ⟨Gf, R, b1, b2, b3, b4, b5⟩ := a8 B' H' M2 us' [] g2 [] r2 kp2 (by rw [em]; exact eb)
        have : R = [] := by simpa using b2
        subst this
        have := b5 [] [] [] rfl (drop_roots b3 b4)
        simp only [List.append_nil] at this
        exact post v B' H' _ _ kp2 this hd
      · exact post.elim
    · rename_i u ms' es
      rw [es]
      split at post
      · rename_i g2 eb
        rintro v B' H' M2 us' kp r' em ⟨hu, hd⟩
        subst hu
        obtain ⟨r2, kp2⟩ := a3.back a4 kp r'
        have r2 : Rl K cl B' F H' (G' ++ M2) (us ++ (us' ++ [])) := by simpa using r2
        obtain ⟨Gf, R, b1, b2, b3, b4, b5⟩ := a8 B' H' M2 us' [] g2 [] r2 kp2 (by rw [em]; exact eb)
        have : R = [] := by simpa using b2
        subst this
        have := b5 [] [] [] rfl (drop_roots b3 b4)
        simp only [List.append_nil] at this
        exact post v B' H' _ _ kp2 this hd
      · exact post.elim
    · rename_i ms' es
      rw [es]
      split at post
      · rename_i g2 t eb
        intro v B' H' M2 us' kp r' em hu
        have hu : us' = ws ++ [v] := hu
        subst hu
        obtain ⟨r2, kp2⟩ := a3.back a4 kp r'
        obtain ⟨Gf, R, b1, b2, b3, b4, b5⟩ := a8 B' H' M2 ws [v] g2 [t] r2 kp2 (by rw [em]; exact eb)
        have := b5 R [v] [t] b2 (drop_roots b3 b4)
        exact post v B' H' _ _ kp2 this (by show (us.take l0 ++ [v]).getLast? = some v; simp)
      · exact post.elim
    · rename_i C ms' es
      rw [es]
      split at post
      · rename_i g2 eb
        intro B' H' M2 kp r' em
        obtain ⟨r2, kp2⟩ := a3.back a4 kp r'
        have r2 : Rl K cl B' F H' (G' ++ M2) (us ++ (ws ++ [])) := by simpa using r2
        obtain ⟨Gf, R, b1, b2, b3, b4, b5⟩ := a8 B' H' M2 ws [] g2 [] r2 kp2 (by rw [em]; exact eb)
        have : R = [] := by simpa using b2
        subst this
        have := b5 [] [] [] rfl (drop_roots b3 b4)
        simp only [List.append_nil] at this
        exact post B' H' _ _ kp2 this
      · exact post.elim
    · exact post.elim
  · exact post.elim
/-- a new instance: its __init__ is called -/
theorem make_core {C : String} (r : Rg K cl B F H ul σ (tv ++ vs) ρ G us) (hn : vs.length = n) (hb : ρ.bs ≤ l0) (hl : l0 ≤ ρ.g.length) {x dx : Addr} (hx : H x = none) (hdx : H dx = none) (hne : dx ≠ x)
    (post : EvP K cl B F ul σ tv Q E (makeF C sem n l0 ρ)) : PSf K cl sem (.ref x :: vs) (upd (upd H dx (.own x)) x (.ins (cl C) dx [])) (fun v H2 => v = .non ∧ Q (.ref x) H2) E := by
  have hl' : l0 ≤ G.length := by rw [← List.length_map (f := TL.er) (as := G), r.er]; exact hl
  have g1 := Gw.nw (o := .own x) r.rl.exB hdx
  have hx2 : upd H dx (.own x) x = none := by rw [upd_ne fun z => hne z.symm]; exact hx
  have g2 := Gw.ow (o := .ins (cl C) dx []) (r.grow g1).rl.exB hx2 (.inr (.inr (.inr (.inl ⟨_, _, _, rfl⟩))))
  have gg := g1.trans g2
  have r3 := r.grow gg
  have hul : us.length = G.length := r.rl.at_.length
  have r1 := (r.grow g1).rl
  have r1 : Rl K cl (upd B dx (.own x)) F (upd H dx (.own x)) (G ++ []) (us ++ []) := by simpa using r1
  have r0 := r1.pack (h := .ins C []) hul hx2 rfl (.inr (.inr (.inr (.inl ⟨_, _, _, rfl⟩)))) ⟨free_of r1.exB hx2, rfl, dx, by rw [upd_same]⟩
  unfold makeF at post
  split at post
  · rename_i ss gh ms ps e
    obtain ⟨G', M', ws, a1, a2, a3, a4, a5, a6, a7, a8⟩ := call_lent (M0 := [.nd x (.ins C []) []]) (m0 := [.ref x]) r3 hn hb hl' r0 rfl e
    have le := a3.lend a4
    have kg := gg.kp r.rl.exF
    refine ⟨_, lendB _ (addrsAll ([.nd x (.ins C []) []] ++ M')), [.nd x (.ins C []) []] ++ M', [.ref x] ++ ws, .pt [0] :: ss, le, by simp [a6], fun i s h => ?_, ?_⟩
    · cases i with
      | zero => simp at h; subst h; exact ⟨.ref x, rfl, rfl⟩
      | succ i => simpa using a7 i s (by simpa using h)
    rw [List.map_append, a2]
    show RsP K cl _ _ _ _ E (sem (.pt [0] :: ss) (.nd () (.ins C []) [] :: ms))
    split at post
    · rename_i o ms' es
      rw [es]
      split at post
      · rename_i g2 eb
        rintro v B' H' M2 us' kp r' em ⟨hu, hd⟩
        subst hu
        cases hd
        refine ⟨rfl, ?_⟩
        obtain ⟨r2, kp2⟩ := a3.back a4 kp r'
        cases M2 with
        | nil => cases em
        | cons u M2 =>
          simp only [List.map_cons, List.cons.injEq] at em
          obtain ⟨eu, em⟩ := em
          -- the object goes behind the others
          have r2' : Rl K cl B' F H' (G' ++ (M2 ++ [u])) (us ++ (ws ++ [.ref x])) := by
            obtain ⟨us', ws', z1, z2, z3⟩ := LtAll.split r2.at_
            have z4 : us' = us := (List.append_inj_left z1 (by rw [a4, z2.length])).symm
            subst z4
            have z5 : ws' = [.ref x] ++ ws := (List.append_cancel_left z1).symm
            subst z5
            cases z3 with
            | cons z6 z7 =>
              refine r2.re (z2.append (z7.append (.cons z6 .nil))) ?_ fun q hq => ?_
              · have n := r2.nod
                rw [addrsAll_append] at n ⊢
                rw [addrsAll_append]
                simp only [addrsAll, List.append_nil] at n ⊢
                have : List.Perm (addrsAll G' ++ (u.addrs ++ addrsAll M2)) (addrsAll G' ++ (addrsAll M2 ++ u.addrs)) := List.Perm.append_left _ List.perm_append_comm
                exact this.nodup_iff.mp n
              · rw [addrsAll_append] at hq ⊢
                rw [addrsAll_append] at hq
                simp only [addrsAll, List.append_nil, List.mem_append] at hq ⊢
                rcases hq with h | h | h <;> simp [h]
          -- the places take theirs back
          have eb' : ∀ (ps : List (List Nat)) (g : List T) (m : List T) (t : T) (g2 : List T), backF g ps m = some (g2, []) → backF g ps (m ++ [t]) = some (g2, [t]) := by
            intro ps
            induction ps with
            | nil => intro g m t g2 h; simp only [backF, Option.some.injEq, Prod.mk.injEq] at h ⊢; obtain ⟨rfl, rfl⟩ := h; exact ⟨rfl, rfl⟩
            | cons p ps ih =>
              intro g m t g2 h
              cases m with
              | nil => simp [backF] at h
              | cons a m =>
                simp only [backF, List.cons_append] at h ⊢
                split at h
                · exact ih _ _ _ _ h
                · cases h
          obtain ⟨Gf, R, b1, b2, b3, b4, b5⟩ := a8 B' H' (M2 ++ [u]) us [.ref x] g2 [o] r2' kp2 (by rw [List.map_append, em]; simp only [List.map_cons, List.map_nil, eu]; exact eb' _ _ _ _ _ eb)
          have := b5 R [.ref x] [o] b2 (drop_roots b3 b4)
          exact post (.ref x) B' H' _ _ (kg.trans kp2) this (by show (us.take l0 ++ [V.ref x]).getLast? = some (.ref x); simp)
      · exact post.elim
    · rename_i D o ms' es
      rw [es]
      split at post
      · rename_i g2 eb
        intro B' H' M2 kp r' em
        obtain ⟨r2, kp2⟩ := a3.back a4 kp r'
        cases M2 with
        | nil => cases em
        | cons u M2 =>
          simp only [List.map_cons, List.cons.injEq] at em
          obtain ⟨eu, em⟩ := em
          have r2' : Rl K cl B' F H' (G' ++ M2) (us ++ (ws ++ [])) := by
            obtain ⟨us', ws', z1, z2, z3⟩ := LtAll.split r2.at_
            have z4 : us' = us := (List.append_inj_left z1 (by rw [a4, z2.length])).symm
            subst z4
            have z5 : ws' = [.ref x] ++ ws := (List.append_cancel_left z1).symm
            subst z5
            cases z3 with
            | cons z6 z7 =>
              have sl : (addrsAll (G' ++ M2)).Sublist (addrsAll (G' ++ (u :: M2))) := by
                rw [addrsAll_append, addrsAll_append]
                exact List.Sublist.append (List.Sublist.refl _) (by simp only [addrsAll]; exact List.sublist_append_right _ _)
              refine r2.re (by simpa using z2.append z7) (sl.nodup r2.nod) fun q hq => sl.subset hq
          obtain ⟨Gf, R, b1, b2, b3, b4, b5⟩ := a8 B' H' M2 us [] g2 [] r2' kp2 (by rw [em]; exact eb)
          have : R = [] := by simpa using b2
          subst this
          have := b5 [] [] [] rfl (drop_roots b3 b4)
          simp only [List.append_nil] at this
          exact post B' H' _ _ (kg.trans kp2) this
      · exact post.elim
    · exact post.elim
  · exact post.elim
end
end Fx

/-! Expressions that may change trees. -/
namespace Fx
open PySem L2
open Evl (Ex)
variable {cl : String → Addr}
def Fv (K : PySem.W.Frag) (cl : String → Addr) (W : WX) (te : TE) (f : Rh → Option Ev) : Prop := ∀ (B F H : Hp) (ul : List V) (σ : St) (tv : List V) (ρ : Rh) (G : List LT) (us : List V), Rg K cl B F H ul σ tv ρ G us →
  ∀ Q : VK, EvP K cl B F ul σ tv Q (WE W σ) (f ρ) → te σ H Q
def FaP (K : PySem.W.Frag) (cl : String → Addr) (B F : Hp) (ul : List V) (σ : St) (tv : List V) (n : Nat) (Q : List V → Hp → Prop) : Option Rh → Prop
  | some ρ => ∀ vs B' H' G us, vs.length = n → Kp F B B' → Rg K cl B' F H' ul σ (tv ++ vs) ρ G us → Q vs H'
  | none => False
/-- arguments, each one laid on tm -/
def Fa (K : PySem.W.Frag) (cl : String → Addr) (W : WX) (n : Nat) (ta : TA) (f : Rh → Option Rh) : Prop := ∀ (B F H : Hp) (ul : List V) (σ : St) (tv : List V) (ρ : Rh) (G : List LT) (us : List V), Rg K cl B F H ul σ tv ρ G us →
  ∀ Q : List V → Hp → Prop, FaP K cl B F ul σ tv n Q (f ρ) → ta σ H Q
def EtP (K : PySem.W.Frag) (cl : String → Addr) (B F : Hp) (ul : List V) (σ : St) (tv : List V) (Q : Bool → Hp → Prop) (E : XK) : Option Ev → Prop
  | some (.vl (.s (.py (.bool b))) ρ) => ∀ B' H' G us, Kp F B B' → Rg K cl B' F H' ul σ tv ρ G us → Q b H'
  | some (.ex C ρ) => ∀ B' H' G us, Kp F B B' → Rg K cl B' F H' ul σ tv ρ G us → E (.ref (cl C)) none H'
  | _ => False
def Ft (K : PySem.W.Frag) (cl : String → Addr) (W : WX) (t : TT) (f : Rh → Option Ev) : Prop := ∀ (B F H : Hp) (ul : List V) (σ : St) (tv : List V) (ρ : Rh) (G : List LT) (us : List V), Rg K cl B F H ul σ tv ρ G us →
  ∀ Q : Bool → Hp → Prop, EtP K cl B F ul σ tv Q (WE W σ) (f ρ) → t σ H Q
def fP (f : Rh → Option Sv) (ρ : Rh) : Option Ev := match f ρ with
  | some s => some (.vl (.s s) ρ)
  | none => none
def fN (f : Rh → Option (Hd × List PyData)) (ρ : Rh) : Option Ev := match f ρ with
  | some (h, ds) => some (.vl .own { ρ with g := ρ.g ++ [.nd () h (ds.map TL.py)] })
  | none => none
def fB (f : Rh → Option Bool) (ρ : Rh) : Option Ev := match f ρ with
  | some b => some (.vl (.s (.py (.bool b))) ρ)
  | none => none
/-- the path of the last root, void -/
def rootF (k : Nat) : List Nat → Bool
  | i :: _ => i == k
  | [] => false
def dropLastF (ρ : Rh) : Rh := { ρ with sl := msk (rootF (ρ.g.length - 1)) ρ.sl, tm := msk (rootF (ρ.g.length - 1)) ρ.tm, g := ρ.g.dropLast }
/-- what is new becomes data that stays -/
def fZ (f : Rh → Option Ev) (ρ : Rh) : Option Ev := match f ρ with
  | some (.vl .own ρ1) => match ρ1.g.getLast? with
    | some t => match t.data with
      | some d => if ρ1.bs < ρ1.g.length then some (.vl (.s (.py d)) (dropLastF ρ1)) else none
      | none => none
    | none => none
  | some (.vl (.s s) ρ1) => some (.vl (.s s) ρ1)
  | some (.ex C ρ1) => some (.ex C ρ1)
  | none => none
def push (r : Rv) (ρ : Rh) : Option Rh := match r with
  | .s s => some { ρ with tm := ρ.tm ++ [some s] }
  | .own => match ρ.g.getLast? with
    | some (.nd _ _ _) => some { ρ with tm := ρ.tm ++ [some (.pt [ρ.g.length - 1])] }
    | _ => none
def gNo (ρ : Rh) : Option Rh := some ρ
def gCo (f : Rh → Option Ev) (g : Rh → Option Rh) (ρ : Rh) : Option Rh := match f ρ with
  | some (.vl r ρ1) => match push r ρ1 with
    | some ρ2 => g ρ2
    | none => none
  | _ => none
def fCall (sem : Sem) (n : Nat) (g : Rh → Option Rh) (ρ : Rh) : Option Ev := match g ρ with
  | some ρ1 => if ρ.g.length ≤ ρ1.g.length then callF sem n ρ.g.length ρ1 else none
  | none => none
def fMake (C : String) (sem : Sem) (n : Nat) (g : Rh → Option Rh) (ρ : Rh) : Option Ev := match g ρ with
  | some ρ1 => if ρ.g.length ≤ ρ1.g.length then makeF C sem n ρ.g.length ρ1 else none
  | none => none
/-- o.m(..) of the class C -/
def fMeth (C : String) (m : Str) (sem : Sem) (n : Nat) (f : Rh → Option Sv) (g : Rh → Option Rh) (ρ : Rh) : Option Ev := match f ρ with
  | some (.pt π) => match gget ρ.g π with
    | some (.nd _ (.ins D fs) _) => if D = C then match ixS fs m with
        | none => match g { ρ with tm := ρ.tm ++ [some (.pt π)] } with
          | some ρ1 => if ρ.g.length ≤ ρ1.g.length then callF sem (n + 1) ρ.g.length ρ1 else none
          | none => none
        | some _ => none
      else none
    | _ => none
  | _ => none
def fBin2 (o : PyData → PyData → Option PyData) (f g : Rh → Option Ev) (ρ : Rh) : Option Ev := match f ρ with
  | some (.vl (.s (.py d)) ρ1) => match g ρ1 with
    | some (.vl (.s s) ρ2) => match dat ρ2 s with
      | some e => match o d e with
        | some r => if noList r then some (.vl (.s (.py r)) ρ2) else none
        | none => none
      | none => none
    | _ => none
  | some (.ex C ρ1) => some (.ex C ρ1)
  | _ => none
def fCmp2 (o : PyData → PyData → Option Bool) (f g : Rh → Option Ev) (ρ : Rh) : Option Ev := match f ρ with
  | some (.vl (.s (.py d)) ρ1) => match g ρ1 with
    | some (.vl (.s s) ρ2) => match dat ρ2 s with
      | some e => match o d e with
        | some b => some (.vl (.s (.py (.bool b))) ρ2)
        | none => none
      | none => none
    | some (.ex C ρ2) => some (.ex C ρ2)
    | _ => none
  | some (.ex C ρ1) => some (.ex C ρ1)
  | _ => none
def fAnd (f g : Rh → Option Ev) (ρ : Rh) : Option Ev := match f ρ with
  | some (.vl (.s (.py (.bool true))) ρ1) => g ρ1
  | some (.vl (.s (.py (.bool false))) ρ1) => some (.vl (.s (.py (.bool false))) ρ1)
  | some (.ex C ρ1) => some (.ex C ρ1)
  | _ => none
def fOr (f g : Rh → Option Ev) (ρ : Rh) : Option Ev := match f ρ with
  | some (.vl (.s (.py (.bool true))) ρ1) => some (.vl (.s (.py (.bool true))) ρ1)
  | some (.vl (.s (.py (.bool false))) ρ1) => g ρ1
  | some (.ex C ρ1) => some (.ex C ρ1)
  | _ => none
def fNot (f : Rh → Option Ev) (ρ : Rh) : Option Ev := match f ρ with
  | some (.vl (.s (.py (.bool b))) ρ1) => some (.vl (.s (.py (.bool (!b)))) ρ1)
  | some (.ex C ρ1) => some (.ex C ρ1)
  | _ => none
/-- a value that is a truth: what and, or give -/
def fBo (f : Rh → Option Ev) (ρ : Rh) : Option Ev := match f ρ with
  | some (.vl (.s (.py (.bool b))) ρ1) => some (.vl (.s (.py (.bool b))) ρ1)
  | some (.ex C ρ1) => some (.ex C ρ1)
  | _ => none
/-- what stands at a place goes out -/
def fMv (f : Rh → Option Sv) (ρ : Rh) : Option Ev := match f ρ with
  | some (.pt π) => match gget ρ.g π with
    | some t => some (.vl .own { ρ with sl := msk (fun π2 => π.isPrefixOf π2) ρ.sl, tm := msk (fun π2 => π.isPrefixOf π2) ρ.tm, g := gput ρ.g π (.un ()) ++ [t] })
    | none => none
  | _ => none
/-- a new list, read by a pure operation: the value is made data, then op -/
def fOn (f : Rh → Option Ev) (o : PyData → Option PyData) (ρ : Rh) : Option Ev := match f ρ with
  | some (.vl (.s s) ρ1) => match dat ρ1 s with
    | some d => match o d with
      | some r => some (.vl (.s (.py r)) ρ1)
      | none => none
    | none => none
  | some (.ex C ρ1) => some (.ex C ρ1)
  | _ => none
section
variable {K : PySem.W.Frag} {W : WX} {te ta tb : TE} {tr : TA} {f g h : Rh → Option Ev} {pf : Rh → Option Sv} {nf : Rh → Option (Hd × List PyData)} {ga gb : Rh → Option Rh} {n m : Nat} {sem : Sem} {t u : TT} {bf : Rh → Option Bool}
theorem Rg.gl {B F H : Hp} {ul tv us : List V} {σ : St} {ρ : Rh} {G : List LT} (r : Rg K cl B F H ul σ tv ρ G us) : ρ.g.length = G.length := by rw [← r.er, List.length_map]
theorem Rg.ul_ {B F H : Hp} {ul tv us : List V} {σ : St} {ρ : Rh} {G : List LT} (r : Rg K cl B F H ul σ tv ρ G us) : us.length = G.length := r.rl.at_.length
theorem EvP.imp {B B1 F : Hp} {ul tv : List V} {σ : St} {Q : VK} {E : XK} (k : Kp F B B1) : ∀ {o : Option Ev}, EvP K cl B F ul σ tv Q E o → EvP K cl B1 F ul σ tv Q E o
  | some (.vl r ρ), h => fun v B' H' G us k' => h v B' H' G us (k.trans k')
  | some (.ex C ρ), h => fun B' H' G us k' => h B' H' G us (k.trans k')
  | none, h => h
theorem FaP.imp {B B1 F : Hp} {ul tv : List V} {σ : St} {Q : List V → Hp → Prop} (k : Kp F B B1) : ∀ {o : Option Rh}, FaP K cl B F ul σ tv n Q o → FaP K cl B1 F ul σ tv n Q o
  | some ρ, h => fun vs B' H' G us hn k' => h vs B' H' G us hn (k.trans k')
  | none, h => h
theorem EtP.imp {B B1 F : Hp} {ul tv : List V} {σ : St} {Q : Bool → Hp → Prop} {E : XK} (k : Kp F B B1) {o : Option Ev} (h : EtP K cl B F ul σ tv Q E o) : EtP K cl B1 F ul σ tv Q E o := by
  unfold EtP at h ⊢
  split at h
  · exact fun B' H' G us k' => h B' H' G us (k.trans k')
  · exact fun B' H' G us k' => h B' H' G us (k.trans k')
  · exact h.elim
theorem fv_p (h : Pv K cl te pf) : Fv K cl W te (fP pf) := fun B F H ul σ tv ρ G us r Q p => by
  unfold fP at p
  split at p
  · rename_i s e
    exact h B F H ul σ tv ρ G us s r e Q fun v B' H' w hs => p v B' H' G us (w.kp r.rl.exF) (r.grow w) hs
  · exact p.elim
theorem ft_b (h : Pt K cl t bf) : Ft K cl W t (fB bf) := fun B F H ul σ tv ρ G us r Q p => by
  unfold fB at p
  split at p
  · rename_i b e
    exact h B F H ul σ tv ρ G us b r e Q fun B' H' w => p B' H' G us (w.kp r.rl.exF) (r.grow w)
  · exact p.elim
/-- a root that is added -/
theorem Rg.addRoot {B F H : Hp} {ul tv us : List V} {σ : St} {ρ : Rh} {G : List LT} {u : LT} {v : V} {H' B' : Hp} (r : Rg K cl B F H ul σ tv ρ G us) (rl : Rl K cl B' F H' (G ++ [u]) (us ++ [v])) (e : Ex B B') : Rg K cl B' F H' ul σ tv { ρ with g := ρ.g ++ [u.er] } (G ++ [u]) (us ++ [v]) := by
  refine ⟨by simp [r.er], rl, r.bs, by have := r.le; simp; omega, ?_, r.sl.keep e fun π v h => pv_append h, r.tm.keep e fun π v h => pv_append h⟩
  have h1 := r.ul
  have h2 := r.bs
  have h3 := r.le
  have h4 := r.ul_
  rw [List.drop_append_of_le_length (by omega), List.take_append_of_le_length (by simp; omega)]
  exact h1
theorem erAll_py (ds : List PyData) : erAll (ds.map (TL.py (α := Addr) (β := V))) = ds.map TL.py := by rw [erAll_map, List.map_map]; rfl
theorem fv_n (h : Nv K cl te nf) : Fv K cl W te (fN nf) := fun B F H ul σ tv ρ G us r Q p => by
  unfold fN at p
  split at p
  · rename_i hd ds e
    refine h B F H ul σ tv ρ G us hd ds r e Q fun q vs B' H' o w hq ho own hn a => ?_
    have r1 := r.grow w
    have r2 := (r1.rl.addpy a).pack (h := hd) r.ul_ hq ho own hn
    have g2 := Gw.ow r1.rl.exB hq own
    have r3 := r.addRoot r2 w.b
    have e2 : (TL.nd q hd (ds.map TL.py) : LT).er = .nd () hd (ds.map TL.py) := by simp only [TL.er, erAll_py]
    rw [e2] at r3
    exact p (.ref q) B' _ _ _ (w.kp r.rl.exF) r3 (by show (us ++ [V.ref q]).getLast? = _; simp)
  · exact p.elim
/-- the last root goes -/
theorem Rg.dropLast {B F H : Hp} {ul tv us : List V} {σ : St} {ρ : Rh} {G : List LT} {u : LT} {v : V} {B' : Hp} (r : Rg K cl B F H ul σ tv ρ (G ++ [u]) (us ++ [v])) (hb : ρ.bs < ρ.g.length) (rl : Rl K cl B' F H G us) (e : Ex B B') : Rg K cl B' F H ul σ tv (dropLastF ρ) G us := by
  have hl : ρ.g.length = G.length + 1 := by rw [r.gl]; simp
  have hu : us.length = G.length := by have := r.ul_; simp at this; omega
  have key : ∀ π v, rootF (ρ.g.length - 1) π = false → pv (G ++ [u]) π = some v → pv G π = some v := fun π v h1 h2 => by
    cases π with
    | nil => simp [pv, gget] at h2
    | cons i s =>
      have hi : i ≠ G.length := by
        intro z
        subst z
        simp [rootF, hl] at h1
      unfold pv at h2 ⊢
      simp only [gget] at h2 ⊢
      by_cases hlt : i < G.length
      · rw [List.getElem?_append_left hlt] at h2; exact h2
      · rw [List.getElem?_eq_none (by simp; omega)] at h2; cases h2
  refine ⟨?_, rl, r.bs, by show ρ.bs ≤ G.length; omega, ?_, r.sl.mask e key, r.tm.mask e key⟩
  · show G.map TL.er = ρ.g.dropLast
    rw [← r.er]; simp
  · have h1 := r.ul
    have h2 := r.bs
    rw [List.drop_append_of_le_length (by omega), List.take_append_of_le_length (by simp; omega)] at h1
    exact h1
theorem last_split {us : List V} {v : V} (h : us.getLast? = some v) : us = us.dropLast ++ [v] := by
  have hne : us ≠ [] := fun z => by rw [z] at h; cases h
  rw [List.getLast?_eq_some_getLast hne] at h
  cases h
  exact (List.dropLast_concat_getLast hne).symm
/-- with a last root that is known -/
theorem Rg.lastRoot {B F H : Hp} {ul tv us : List V} {σ : St} {ρ : Rh} {G : List LT} {v : V} {t : T} (r : Rg K cl B F H ul σ tv ρ G us) (hv : us.getLast? = some v) (ht : ρ.g.getLast? = some t) :
    ∃ (G0 : List LT) (u : LT) (us0 : List V), G = G0 ++ [u] ∧ us = us0 ++ [v] ∧ u.er = t ∧ us0.length = G0.length := by
  have hl := r.ul_
  have e1 := last_split hv
  rw [← r.er, List.getLast?_map] at ht
  cases hG : G.getLast? with
  | none => rw [hG] at ht; cases ht
  | some u =>
    rw [hG] at ht
    simp only [Option.map_some, Option.some.injEq] at ht
    have hne : G ≠ [] := fun z => by rw [z] at hG; cases hG
    have e2 : G = G.dropLast ++ [u] := by
      rw [List.getLast?_eq_some_getLast hne] at hG
      cases hG
      exact (List.dropLast_concat_getLast hne).symm
    refine ⟨G.dropLast, u, us.dropLast, e2, e1, ht, ?_⟩
    rw [List.length_dropLast, List.length_dropLast, hl]
theorem fv_z (h : Fv K cl W te f) : Fv K cl W te (fZ f) := fun B F H ul σ tv ρ G us r Q p => by
  refine h B F H ul σ tv ρ G us r Q ?_
  unfold fZ at p
  split at p
  · rename_i ρ1 e
    rw [e]
    intro v B1 H1 G1 us1 k1 r1 hv
    split at p
    · rename_i t et
      split at p
      · rename_i d ed
        split at p
        · rename_i hb
          obtain ⟨G0, u, us0, rfl, rfl, eu, hl⟩ := r1.lastRoot hv et
          have ed : u.data = some d := by rw [← eu, data_er] at ed; exact ed
          obtain ⟨a1, a2, a3⟩ := r1.rl.freeze ed
          exact p v _ H1 G0 us0 (k1.trans a2) (r1.dropLast hb a1 a2.b) a3
        · exact p.elim
      · exact p.elim
    · exact p.elim
  · rename_i s ρ1 e; rw [e]; exact p
  · rename_i C ρ1 e; rw [e]; exact p
  · exact p.elim
theorem fa_no : Fa K cl W 0 tNil gNo := fun B F H ul σ tv ρ G us r Q p => by
  exact p [] B H G us rfl (Kp.refl F B) (by rw [List.append_nil]; exact r)
theorem push_ok {B F H : Hp} {ul tv us : List V} {σ : St} {ρ ρ' : Rh} {G : List LT} {v : V} {x : Rv} (r : Rg K cl B F H ul σ tv ρ G us) (hv : RvAt K B G us v x) (e : push x ρ = some ρ') : Rg K cl B F H ul σ (tv ++ [v]) ρ' G us := by
  cases x with
  | s s =>
    simp only [push, Option.some.injEq] at e
    subst e
    exact ⟨r.er, r.rl, r.bs, r.le, r.ul, r.sl, by rw [List.map_append]; exact r.tm.snoc hv⟩
  | own =>
    simp only [push] at e
    split at e
    · rename_i a h cs et
      cases e
      obtain ⟨G0, u, us0, rfl, rfl, eu, hl⟩ := r.lastRoot hv et
      refine ⟨r.er, r.rl, r.bs, r.le, r.ul, r.sl, by
        rw [List.map_append]
        refine r.tm.snoc ?_
        show pv (G0 ++ [u]) [ρ.g.length - 1] = some v
        obtain ⟨_, h1, _⟩ := r.rl.last
        have : ρ.g.length - 1 = G0.length := by rw [r.gl]; simp
        rw [this]
        unfold pv
        simp only [gget, List.getElem?_append_right (Nat.le_refl _)]
        cases u with
        | un => cases eu
        | py => cases eu
        | nd q hd c => cases h1; simp [TL.get, lref]⟩
    · cases e
theorem fa_co (h : Fv K cl W te f) (hr : Fa K cl W n tr ga) : Fa K cl W (n + 1) (tCons te tr) (gCo f ga) := fun B F H ul σ tv ρ G us r Q p => by
  refine h B F H ul σ tv ρ G us r _ ?_
  unfold gCo at p
  split at p
  · rename_i x ρ1 e
    rw [e]
    intro v B1 H1 G1 us1 k1 r1 hv
    split at p
    · rename_i ρ2 e2
      have r2 := push_ok r1 hv e2
      refine hr B1 F H1 ul σ (tv ++ [v]) ρ2 G1 us1 r2 _ ?_
      cases e3 : ga ρ2 with
      | none => rw [e3] at p; exact p.elim
      | some ρ3 =>
        rw [e3] at p
        intro vs B2 H2 G2 us2 hn k2 r3
        exact p (v :: vs) B2 H2 G2 us2 (by simp [hn]) (k1.trans k2) (by simpa using r3)
    · exact p.elim
  · exact p.elim
theorem Rg.bs_eq {B F H B' H' : Hp} {ul tv tv' us us' : List V} {σ : St} {ρ ρ' : Rh} {G G' : List LT} (r : Rg K cl B F H ul σ tv ρ G us) (r' : Rg K cl B' F H' ul σ tv' ρ' G' us') : ρ'.bs = ρ.bs := by rw [← r.bs, ← r'.bs]
theorem fv_call (ha : Fa K cl W n tr ga) : Fv K cl W (tCallSD (PSf K cl sem) [] (WE W) tr) (fCall sem n ga) := fun B F H ul σ tv ρ G us r Q p => by
  refine ha B F H ul σ tv ρ G us r _ ?_
  unfold fCall at p
  split at p
  · rename_i ρ1 e
    rw [e]
    intro vs B1 H1 G1 us1 hn k1 r1
    rw [List.append_nil]
    split at p
    · rename_i hl
      refine call_core r1 hn ?_ hl (p.imp k1)
      rw [r.bs_eq r1, r.gl]; exact r.le
    · exact p.elim
  · exact p.elim
theorem fv_make {C : String} (ha : Fa K cl W n tr ga) : Fv K cl W (fun σ H Q => tr σ H fun vs H1 => ∀ x dx, H1 x = none → H1 dx = none → dx ≠ x → PSf K cl sem (.ref x :: (vs ++ [])) (upd (upd H1 dx (.own x)) x (.ins (cl C) dx [])) (fun v H2 => v = .non ∧ Q (.ref x) H2) (WE W σ)) (fMake C sem n ga) := fun B F H ul σ tv ρ G us r Q p => by
  refine ha B F H ul σ tv ρ G us r _ ?_
  unfold fMake at p
  split at p
  · rename_i ρ1 e
    rw [e]
    intro vs B1 H1 G1 us1 hn k1 r1 x dx hx hdx hne
    rw [List.append_nil]
    split at p
    · rename_i hl
      refine make_core r1 hn ?_ hl hx hdx hne (p.imp k1)
      rw [r.bs_eq r1, r.gl]; exact r.le
    · exact p.elim
  · exact p.elim
/-- o.m(..), what is raised wished for at the slots -/
def tMethSD (C : Addr) (m : Str) (sp : Sp) (dvs : List V) (E : St → XK) (ta : TE) (t : TA) : TE := fun σ H Q => ta σ H fun x H1 => ∃ a dx fs, x = .ref a ∧ H1 a = some (.ins C dx fs) ∧ fs.lookup m = none ∧
  t σ H1 fun vs H2 => sp (x :: (vs ++ dvs)) H2 Q (E σ)
theorem look_none : ∀ {fs : List Str} {vs : List V} {f : Str}, ixS fs f = none → (fs.zip vs).lookup f = none
  | [], _, _, _ => rfl
  | g :: r, [], _, _ => rfl
  | g :: r, x :: vs, f, h => by
    unfold ixS at h
    split at h
    · cases h
    · rename_i z
      have h1 : ixS r f = none := by
        cases h1 : ixS r f with
        | none => rfl
        | some j => rw [h1] at h; simp at h
      have n : (f == g) = false := by simp; exact fun z' => z z'.symm
      simp [List.lookup, n, look_none h1]
theorem fv_meth {C : String} {m : Str} (ho : Pv K cl ta pf) (ha : Fa K cl W n tr ga) : Fv K cl W (tMethSD (cl C) m (PSf K cl sem) [] (WE W) ta tr) (fMeth C m sem n pf ga) := fun B F H ul σ tv ρ G us r Q p => by
  unfold fMeth at p
  split at p
  · rename_i π e
    refine ho B F H ul σ tv ρ G us _ r e _ fun x B1 H1 w hx => ?_
    have hx : pv G π = some x := hx
    have r1 := r.grow w
    split at p
    · rename_i D fs cs hg
      obtain ⟨q, cs', g1, rfl, rfl⟩ := node_of r hg hx
      split at p
      · rename_i eD
        subst eD
        split at p
        · rename_i hm
          obtain ⟨vs0, hn, hc⟩ := r1.rl.node g1
          obtain ⟨_, hl, dx, hh⟩ := hn
          have r2 : Rg K cl B1 F H1 ul σ (tv ++ [.ref q]) { ρ with tm := ρ.tm ++ [some (.pt π)] } G us := push_ok (x := .s (.pt π)) r1 hx rfl
          refine ⟨q, dx, _, rfl, hh, look_none hm, ha B1 F H1 ul σ _ _ G us r2 _ ?_⟩
          split at p
          · rename_i ρ1 e2
            rw [e2]
            intro vs B2 H2 G2 us2 hn k2 r3
            rw [List.append_nil]
            split at p
            · rename_i hle
              have r3 : Rg K cl B2 F H2 ul σ (tv ++ (.ref q :: vs)) ρ1 G2 us2 := by simpa using r3
              refine call_core (vs := .ref q :: vs) r3 (by simp [hn]) ?_ hle (p.imp ((w.kp r.rl.exF).trans k2))
              rw [r.bs_eq r3, r.gl]; exact r.le
            · exact p.elim
          · exact p.elim
        · exact p.elim
      · exact p.elim
    · exact p.elim
  · exact p.elim
theorem fv_cmp2 {op : CmpOp} {o : PyData → PyData → Option Bool} (ho : IsCmp op o) (ha : Fv K cl W ta f) (hb : Fv K cl W tb g) : Fv K cl W (tOp (rCmp K op) ta tb) (fCmp2 o f g) := fun B F H ul σ tv ρ G us r Q p => by
  refine ha B F H ul σ tv ρ G us r _ ?_
  unfold fCmp2 at p
  split at p
  · rename_i d ρ1 e
    rw [e]
    intro x B1 H1 G1 us1 k1 r1 hx
    have hx : Dp K B1 x d := hx
    refine hb B1 F H1 ul σ tv ρ1 G1 us1 r1 _ ?_
    split at p
    · rename_i s ρ2 e2
      rw [e2]
      intro y B2 H2 G2 us2 k2 r2 hy
      split at p
      · rename_i d2 ed
        split at p
        · rename_i b eb
          exact ⟨d, d2, b, r2.rl.up (Dp.mono k2.b _ _ hx), dat_of r2 hy ed, ho _ _ _ eb, p (.bl b) B2 H2 G2 us2 (k1.trans k2) r2 (.bl b)⟩
        · exact p.elim
      · exact p.elim
    · rename_i C ρ2 e2
      rw [e2]
      exact fun B2 H2 G2 us2 k2 r2 => p B2 H2 G2 us2 (k1.trans k2) r2
    · exact p.elim
  · rename_i C ρ1 e
    rw [e]
    exact p
  · exact p.elim
theorem ft_test (ha : Fv K cl W te f) : Ft K cl W (tTest te) (fBo f) := fun B F H ul σ tv ρ G us r Q p => by
  refine ha B F H ul σ tv ρ G us r _ ?_
  unfold fBo at p
  split at p
  · rename_i b ρ1 e
    rw [e]
    intro x B1 H1 G1 us1 k1 r1 hx
    have hx : Dp K B1 x (.bool b) := hx
    cases hx
    exact ⟨b, rfl, p B1 H1 G1 us1 k1 r1⟩
  · rename_i C ρ1 e
    rw [e]
    exact p
  · exact p.elim
theorem ft_val (ha : Fv K cl W te f) : Ft K cl W (tB te) (fBo f) := fun B F H ul σ tv ρ G us r Q p => by
  refine ha B F H ul σ tv ρ G us r _ ?_
  unfold fBo at p
  split at p
  · rename_i b ρ1 e
    rw [e]
    intro x B1 H1 G1 us1 k1 r1 hx
    have hx : Dp K B1 x (.bool b) := hx
    cases hx
    exact ⟨b, rfl, p B1 H1 G1 us1 k1 r1⟩
  · rename_i C ρ1 e
    rw [e]
    exact p
  · exact p.elim
theorem EtP_imp {B B1 F : Hp} {ul tv : List V} {σ : St} {Q : Bool → Hp → Prop} {E : XK} {o : Option Ev} (k : Kp F B B1) (h : EtP K cl B F ul σ tv Q E o) : EtP K cl B1 F ul σ tv Q E o := h.imp k
theorem ft_and (ha : Ft K cl W t f) (hb : Ft K cl W u g) : Ft K cl W (tAnd t u) (fAnd f g) := fun B F H ul σ tv ρ G us r Q p => by
  refine ha B F H ul σ tv ρ G us r _ ?_
  unfold fAnd at p
  split at p
  · rename_i ρ1 e
    rw [e]
    intro B1 H1 G1 us1 k1 r1
    exact iteT (hb B1 F H1 ul σ tv ρ1 G1 us1 r1 _ (p.imp k1))
  · rename_i ρ1 e
    rw [e]
    intro B1 H1 G1 us1 k1 r1
    exact iteF (p B1 H1 G1 us1 k1 r1)
  · rename_i C ρ1 e
    rw [e]
    exact p
  · exact p.elim
theorem ft_or (ha : Ft K cl W t f) (hb : Ft K cl W u g) : Ft K cl W (tOr t u) (fOr f g) := fun B F H ul σ tv ρ G us r Q p => by
  refine ha B F H ul σ tv ρ G us r _ ?_
  unfold fOr at p
  split at p
  · rename_i ρ1 e
    rw [e]
    intro B1 H1 G1 us1 k1 r1
    exact iteT (p B1 H1 G1 us1 k1 r1)
  · rename_i ρ1 e
    rw [e]
    intro B1 H1 G1 us1 k1 r1
    exact iteF (hb B1 F H1 ul σ tv ρ1 G1 us1 r1 _ (p.imp k1))
  · rename_i C ρ1 e
    rw [e]
    exact p
  · exact p.elim
theorem ft_not (ha : Ft K cl W t f) : Ft K cl W (tNot t) (fNot f) := fun B F H ul σ tv ρ G us r Q p => by
  refine ha B F H ul σ tv ρ G us r _ ?_
  unfold fNot at p
  split at p
  · rename_i b ρ1 e
    rw [e]
    exact fun B1 H1 G1 us1 k1 r1 => p B1 H1 G1 us1 k1 r1
  · rename_i C ρ1 e
    rw [e]
    exact p
  · exact p.elim
theorem fv_and (ha : Fv K cl W ta f) (hb : Fv K cl W tb g) : Fv K cl W (tAndV ta tb) (fAnd f (fBo g)) := fun B F H ul σ tv ρ G us r Q p => by
  refine ha B F H ul σ tv ρ G us r _ ?_
  unfold fAnd at p
  split at p
  · rename_i ρ1 e
    rw [e]
    intro x B1 H1 G1 us1 k1 r1 hx
    have hx : Dp K B1 x (.bool true) := hx
    cases hx
    refine ⟨true, rfl, iteT (hb B1 F H1 ul σ tv ρ1 G1 us1 r1 _ ?_)⟩
    unfold fBo at p
    split at p
    · rename_i b ρ2 e2
      rw [e2]
      exact fun y B2 H2 G2 us2 k2 r2 hy => p y B2 H2 G2 us2 (k1.trans k2) r2 hy
    · rename_i C ρ2 e2
      rw [e2]
      exact fun B2 H2 G2 us2 k2 r2 => p B2 H2 G2 us2 (k1.trans k2) r2
    · exact p.elim
  · rename_i ρ1 e
    rw [e]
    intro x B1 H1 G1 us1 k1 r1 hx
    have hx : Dp K B1 x (.bool false) := hx
    cases hx
    exact ⟨false, rfl, iteF (p _ B1 H1 G1 us1 k1 r1 (.bl false))⟩
  · rename_i C ρ1 e
    rw [e]
    exact p
  · exact p.elim
theorem fv_or (ha : Fv K cl W ta f) (hb : Fv K cl W tb g) : Fv K cl W (tOrV ta tb) (fOr f (fBo g)) := fun B F H ul σ tv ρ G us r Q p => by
  refine ha B F H ul σ tv ρ G us r _ ?_
  unfold fOr at p
  split at p
  · rename_i ρ1 e
    rw [e]
    intro x B1 H1 G1 us1 k1 r1 hx
    have hx : Dp K B1 x (.bool true) := hx
    cases hx
    exact ⟨true, rfl, iteT (p _ B1 H1 G1 us1 k1 r1 (.bl true))⟩
  · rename_i ρ1 e
    rw [e]
    intro x B1 H1 G1 us1 k1 r1 hx
    have hx : Dp K B1 x (.bool false) := hx
    cases hx
    refine ⟨false, rfl, iteF (hb B1 F H1 ul σ tv ρ1 G1 us1 r1 _ ?_)⟩
    unfold fBo at p
    split at p
    · rename_i b ρ2 e2
      rw [e2]
      exact fun y B2 H2 G2 us2 k2 r2 hy => p y B2 H2 G2 us2 (k1.trans k2) r2 hy
    · rename_i C ρ2 e2
      rw [e2]
      exact fun B2 H2 G2 us2 k2 r2 => p B2 H2 G2 us2 (k1.trans k2) r2
    · exact p.elim
  · rename_i C ρ1 e
    rw [e]
    exact p
  · exact p.elim
theorem fv_not (ha : Fv K cl W ta f) : Fv K cl W (tNotV ta) (fNot f) := fun B F H ul σ tv ρ G us r Q p => by
  refine ha B F H ul σ tv ρ G us r _ ?_
  unfold fNot at p
  split at p
  · rename_i b ρ1 e
    rw [e]
    intro x B1 H1 G1 us1 k1 r1 hx
    have hx : Dp K B1 x (.bool b) := hx
    cases hx
    exact ⟨b, rfl, p _ B1 H1 G1 us1 k1 r1 (.bl _)⟩
  · rename_i C ρ1 e
    rw [e]
    exact p
  · exact p.elim
theorem fv_mv (ha : Pv K cl ta pf) : Fv K cl W ta (fMv pf) := fun B F H ul σ tv ρ G us r Q p => by
  unfold fMv at p
  split at p
  · rename_i π e
    refine ha B F H ul σ tv ρ G us _ r e _ fun x B1 H1 w hx => ?_
    have hx : pv G π = some x := hx
    have r1 := r.grow w
    split at p
    · rename_i t hg
      obtain ⟨u, g1, rfl⟩ := r.get hg
      obtain ⟨y, hy, r2⟩ := r1.rl.out1 g1
      have ex : x = y := by
        unfold pv at hx
        rw [g1] at hx
        cases u with
        | un => cases hx
        | py => cases hx
        | nd q hd cs => cases hx; cases hy; rfl
      subst ex
      have key : ∀ π2 v, (fun π2 => π.isPrefixOf π2) π2 = false → pv G π2 = some v → pv (gput G π (.un x) ++ [u]) π2 = some v := fun π2 v h1 h2 => by
        refine pv_append ?_
        rw [pv_put_ne fun z => by simp only [pre_iff.mpr z] at h1; cases h1]
        exact h2
      refine p x B1 H1 _ _ (w.kp r.rl.exF) ⟨?_, r2, r.bs, ?_, ?_, r1.sl.mask (Evl.Ex.refl _) key, r1.tm.mask (Evl.Ex.refl _) key⟩ ?_
      · rw [List.map_append, gput_er, r.er]; rfl
      · have := r.le
        rw [List.length_append, gput_len]
        show ρ.bs ≤ _
        omega
      · have h1 := r.ul
        have h2 := r.bs
        have h3 := r.le
        have h4 := r.ul_
        rw [List.drop_append_of_le_length (by omega), List.take_append_of_le_length (by simp; omega)]
        exact h1
      · show (us ++ [x]).getLast? = some x
        simp
    · exact p.elim
  · exact p.elim
end
end Fx

/-! Statements. -/
namespace Fx
open PySem L2
open Evl (Ex)
variable {cl : String → Addr}
inductive Oc where
  | nx (ρ : Rh)
  | rt (r : Rv) (ρ : Rh)
  | bk (ρ : Rh)
  | ct (ρ : Rh)
  | ex (C : String) (ρ : Rh)
def OcP (K : PySem.W.Frag) (cl : String → Addr) (B F : Hp) (ul tv : List V) (W : WX) (D : Ends) : Option Oc → Prop
  | some (.nx ρ) => ∀ B' H' σ' G us, Kp F B B' → Rg K cl B' F H' ul σ' tv ρ G us → D.nx σ' H'
  | some (.rt r ρ) => ∀ v B' H' σ' G us, Kp F B B' → Rg K cl B' F H' ul σ' tv ρ G us → RvAt K B' G us v r → D.rt v H'
  | some (.bk ρ) => ∀ B' H' σ' G us, Kp F B B' → Rg K cl B' F H' ul σ' tv ρ G us → D.bk σ' H'
  | some (.ct ρ) => ∀ B' H' σ' G us, Kp F B B' → Rg K cl B' F H' ul σ' tv ρ G us → D.ct σ' H'
  | some (.ex C ρ) => ∀ B' H' σ' G us, Kp F B B' → Rg K cl B' F H' ul σ' tv ρ G us → W (.ref (cl C)) none σ' H'
  | none => False
def Sx (K : PySem.W.Frag) (cl : String → Addr) (W : WX) (t : TS) (f : Rh → Option Oc) : Prop := ∀ (B F H : Hp) (ul : List V) (σ : St) (tv : List V) (ρ : Rh) (G : List LT) (us : List V) (D : Ends), Rg K cl B F H ul σ tv ρ G us →
  OcP K cl B F ul tv W D (f ρ) → t D σ H
/-- a target: what it is handed, where it puts it -/
def Tg (K : PySem.W.Frag) (cl : String → Addr) (g : TG) (f : Sv → Rh → Option Rh) : Prop := ∀ (B F H : Hp) (ul : List V) (σ : St) (tv : List V) (ρ ρ' : Rh) (G : List LT) (us : List V) (v : V) (s : Sv), Rg K cl B F H ul σ tv ρ G us → SvAt K B G v s → f s ρ = some ρ' →
  ∀ Q : St → Hp → Prop, (∀ σ', Rg K cl B F H ul σ' tv ρ' G us → Q σ' H) → g v σ H Q
def Tgs (K : PySem.W.Frag) (cl : String → Addr) (g : TGs) (f : List PyData → Rh → Option Rh) : Prop := ∀ (B F H : Hp) (ul : List V) (σ : St) (tv : List V) (ρ ρ' : Rh) (G : List LT) (us : List V) (vs : List V) (ds : List PyData), Rg K cl B F H ul σ tv ρ G us → DpAll K B vs ds → f ds ρ = some ρ' →
  ∀ Q : St → Hp → Prop, (∀ σ', Rg K cl B F H ul σ' tv ρ' G us → Q σ' H) → g vs σ H Q
def sNx (ρ : Rh) : Option Oc := some (.nx ρ)
def sBk (ρ : Rh) : Option Oc := some (.bk ρ)
def sCt (ρ : Rh) : Option Oc := some (.ct ρ)
def sRN (ρ : Rh) : Option Oc := some (.rt (.s (.py .none)) ρ)
def sSq (f g : Rh → Option Oc) (ρ : Rh) : Option Oc := match f ρ with
  | some (.nx ρ1) => g ρ1
  | o => o
def sDr (f : Rh → Option Ev) (ρ : Rh) : Option Oc := match f ρ with
  | some (.vl (.s _) ρ1) => some (.nx ρ1)
  | some (.vl .own ρ1) => if ρ1.bs < ρ1.g.length then some (.nx (dropLastF ρ1)) else none
  | some (.ex C ρ1) => some (.ex C ρ1)
  | none => none
def sRt (f : Rh → Option Ev) (ρ : Rh) : Option Oc := match f ρ with
  | some (.vl r ρ1) => some (.rt r ρ1)
  | some (.ex C ρ1) => some (.ex C ρ1)
  | none => none
def sIf (c : Rh → Option Ev) (f g : Rh → Option Oc) (ρ : Rh) : Option Oc := match c ρ with
  | some (.vl (.s (.py (.bool true))) ρ1) => f ρ1
  | some (.vl (.s (.py (.bool false))) ρ1) => g ρ1
  | some (.ex C ρ1) => some (.ex C ρ1)
  | _ => none
def gN (i : Nat) (s : Sv) (ρ : Rh) : Option Rh := some { ρ with sl := ρ.sl.set i (some s) }
def gT0 (ds : List PyData) (ρ : Rh) : Option Rh := match ds with
  | [] => some ρ
  | _ => none
def gTC (g : Sv → Rh → Option Rh) (h : List PyData → Rh → Option Rh) (ds : List PyData) (ρ : Rh) : Option Rh := match ds with
  | d :: ds => match g (.py d) ρ with
    | some ρ1 => h ds ρ1
    | none => none
  | [] => none
def gTu (n : Nat) (h : List PyData → Rh → Option Rh) (s : Sv) (ρ : Rh) : Option Rh := match s with
  | .py (.tuple ds) => if ds.length = n then h ds ρ else none
  | _ => none
/-- a slot takes the last root -/
def takeRoot (i : Nat) (ρ : Rh) : Option Rh := match ρ.g.getLast? with
  | some (.nd a h cs) => if ρ.bs < ρ.g.length ∧ i < ρ.bs then some { ρ with
      sl := (msk (fun π => rootF i π || rootF (ρ.g.length - 1) π) ρ.sl).set i (some (.pt [i])),
      tm := msk (fun π => rootF i π || rootF (ρ.g.length - 1) π) ρ.tm,
      g := ρ.g.dropLast.set i (.nd a h cs) } else none
  | _ => none
def sAs (i : Nat) (f : Rh → Option Ev) (ρ : Rh) : Option Oc := match f ρ with
  | some (.vl (.s s) ρ1) => some (.nx { ρ1 with sl := ρ1.sl.set i (some s) })
  | some (.vl .own ρ1) => if i < ρ1.sl.length then match takeRoot i ρ1 with
      | some ρ2 => some (.nx ρ2)
      | none => none
    else none
  | some (.ex C ρ1) => some (.ex C ρ1)
  | none => none
def sAt (g : Sv → Rh → Option Rh) (f : Rh → Option Ev) (ρ : Rh) : Option Oc := match f ρ with
  | some (.vl (.s s) ρ1) => match g s ρ1 with
    | some ρ2 => some (.nx ρ2)
    | none => none
  | some (.ex C ρ1) => some (.ex C ρ1)
  | _ => none
/-- what is put somewhere: data, or the last root -/
def childF (r : Rv) (ρ : Rh) : Option (T × Rh) := match r with
  | .s (.py d) => some (.py d, ρ)
  | .own => match ρ.g.getLast? with
    | some (.nd a h cs) => if ρ.bs < ρ.g.length then some (.nd a h cs, dropLastF ρ) else none
    | _ => none
  | _ => none
def kidF (π : List Nat) (i : Nat) (π2 : List Nat) : Bool := (π ++ [i]).isPrefixOf π2
def belowF (π π2 : List Nat) : Bool := π.isPrefixOf π2 && !(π == π2)
def putAt (π : List Nat) (bad : List Nat → Bool) (t : T) (ρ : Rh) : Rh := ⟨msk bad ρ.sl, msk bad ρ.tm, gput ρ.g π t, ρ.bs⟩
/-- o.f = e -/
def sFl (C : String) (n : Str) (pf : Rh → Option Sv) (f : Rh → Option Ev) (ρ : Rh) : Option Oc := match f ρ with
  | some (.vl r ρ1) => match pf ρ1 with
    | some (.pt π) => match childF r ρ1 with
      | some (c, ρ2) => match gget ρ2.g π with
        | some (.nd _ (.ins D fs) cs) => if D = C ∧ fs.length < 500 then match ixS fs n with
            | some i => some (.nx (putAt π (kidF π i) (.nd () (.ins D fs) (cs.set i c)) ρ2))
            | none => some (.nx (putAt π (fun _ => false) (.nd () (.ins D (fs ++ [n])) (cs ++ [c])) ρ2))
          else none
        | _ => none
      | none => none
    | _ => none
  | some (.ex C ρ1) => some (.ex C ρ1)
  | none => none
/-- d[k] = e -/
def sPu (pf : Rh → Option Sv) (kf : Rh → Option PyData) (f : Rh → Option Ev) (ρ : Rh) : Option Oc := match f ρ with
  | some (.vl r ρ1) => match pf ρ1, kf ρ1 with
    | some (.pt π), some dk => match childF r ρ1 with
      | some (c, ρ2) => match keyF dk, gget ρ2.g π with
        | some k, some (.nd _ (.dct ks) cs) => if ks.length < 100000 then match ixK ks k with
            | some i => some (.nx (putAt π (kidF π i) (.nd () (.dct ks) (cs.set i c)) ρ2))
            | none => some (.nx (putAt π (fun _ => false) (.nd () (.dct (ks ++ [k])) (cs ++ [c])) ρ2))
          else none
        | _, _ => none
      | none => none
    | _, _ => none
  | some (.ex C ρ1) => some (.ex C ρ1)
  | none => none
/-- xs[i] = e -/
def sSL (pf : Rh → Option Sv) (kf : Rh → Option PyData) (f : Rh → Option Ev) (ρ : Rh) : Option Oc := match f ρ with
  | some (.vl r ρ1) => match pf ρ1, kf ρ1 with
    | some (.pt π), some (.int k) => match childF r ρ1 with
      | some (c, ρ2) => match gget ρ2.g π with
        | some (.nd _ .lst cs) => match ixN cs.length k with
          | some i => some (.nx (putAt π (kidF π i) (.nd () .lst (cs.set i c)) ρ2))
          | none => none
        | _ => none
      | none => none
    | _, _ => none
  | some (.ex C ρ1) => some (.ex C ρ1)
  | none => none
/-- what lies on top of tm -/
def topPt (ρ : Rh) : Option (List Nat) := match ρ.tm.getLast? with
  | some (some (.pt π)) => some π
  | _ => none
def popTm (ρ : Rh) : Rh := { ρ with tm := ρ.tm.dropLast }
def pushPt (π : List Nat) (ρ : Rh) : Rh := { ρ with tm := ρ.tm ++ [some (.pt π)] }
/-- xs.append(e) -/
def sAp (pf : Rh → Option Sv) (f : Rh → Option Ev) (ρ : Rh) : Option Oc := match pf ρ with
  | some (.pt π0) => match gget ρ.g π0 with
    | some (.nd _ .lst _) => match f (pushPt π0 ρ) with
      | some (.vl r ρ1) => match childF r ρ1 with
        | some (c, ρ2) => match topPt ρ2 with
          | some π => match gget ρ2.g π with
            | some (.nd _ .lst cs) => if cs.length < 100000 then some (.nx (popTm (putAt π (fun _ => false) (.nd () .lst (cs ++ [c])) ρ2))) else none
            | _ => none
          | none => none
        | none => none
      | some (.ex C ρ1) => some (.ex C (popTm ρ1))
      | none => none
    | _ => none
  | _ => none
/-- xs.extend(e), e a list of data -/
def sEx (pf : Rh → Option Sv) (f : Rh → Option Ev) (ρ : Rh) : Option Oc := match pf ρ with
  | some (.pt π0) => match gget ρ.g π0 with
    | some (.nd _ .lst _) => match f (pushPt π0 ρ) with
      | some (.vl .own ρ1) => match ρ1.g.getLast? with
        | some (.nd _ .lst es) => match dataAll es with
          | some ds => if ρ1.bs < ρ1.g.length then match topPt (dropLastF ρ1) with
              | some π => match gget (dropLastF ρ1).g π with
                | some (.nd _ .lst cs) => if cs.length + ds.length ≤ 100000 then some (.nx (popTm (putAt π (fun _ => false) (.nd () .lst (cs ++ ds.map TL.py)) (dropLastF ρ1)))) else none
                | _ => none
              | none => none
            else none
          | none => none
        | _ => none
      | some (.vl (.s (.pt π1)) ρ1) => match gget ρ1.g π1 with
        | some (.nd _ .lst es) => match dataAll es with
          | some ds => match topPt ρ1 with
            | some π => match gget ρ1.g π with
              | some (.nd _ .lst cs) => if cs.length + ds.length ≤ 100000 then some (.nx (popTm (putAt π (fun _ => false) (.nd () .lst (cs ++ ds.map TL.py)) ρ1))) else none
              | _ => none
            | none => none
          | none => none
        | _ => none
      | some (.ex C ρ1) => some (.ex C (popTm ρ1))
      | _ => none
    | _ => none
  | _ => none
section
variable {K : PySem.W.Frag} {W : WX} {te ta tb tk to : TE} {f g : Rh → Option Ev} {pf : Rh → Option Sv} {kf : Rh → Option PyData} {t u : TS} {c : TT} {sf sg : Rh → Option Oc} {n i : Nat}
theorem OcP.imp {B B1 F : Hp} {ul tv : List V} {D : Ends} (k : Kp F B B1) : ∀ {o : Option Oc}, OcP K cl B F ul tv W D o → OcP K cl B1 F ul tv W D o
  | some (.nx ρ), h => fun B' H' σ' G us k' => h B' H' σ' G us (k.trans k')
  | some (.rt r ρ), h => fun v B' H' σ' G us k' => h v B' H' σ' G us (k.trans k')
  | some (.bk ρ), h => fun B' H' σ' G us k' => h B' H' σ' G us (k.trans k')
  | some (.ct ρ), h => fun B' H' σ' G us k' => h B' H' σ' G us (k.trans k')
  | some (.ex C ρ), h => fun B' H' σ' G us k' => h B' H' σ' G us (k.trans k')
  | none, h => h
theorem sx_nx : Sx K cl W tNext sNx := fun B F H ul σ tv ρ G us D r p => p B H σ G us (Kp.refl F B) r
theorem sx_bk : Sx K cl W tBreak sBk := fun B F H ul σ tv ρ G us D r p => p B H σ G us (Kp.refl F B) r
theorem sx_ct : Sx K cl W tCont sCt := fun B F H ul σ tv ρ G us D r p => p B H σ G us (Kp.refl F B) r
theorem sx_rn : Sx K cl W tRetN sRN := fun B F H ul σ tv ρ G us D r p => p .non B H σ G us (Kp.refl F B) r .non
theorem sx_sq (h1 : Sx K cl W t sf) (h2 : Sx K cl W u sg) : Sx K cl W (tSeq t u) (sSq sf sg) := fun B F H ul σ tv ρ G us D r p => by
  refine h1 B F H ul σ tv ρ G us { D with nx := u D } r ?_
  unfold sSq at p
  split at p
  · rename_i ρ1 e
    rw [e]
    exact fun B1 H1 σ1 G1 us1 k1 r1 => h2 B1 F H1 ul σ1 tv ρ1 G1 us1 D r1 (p.imp k1)
  · rename_i o hne
    cases e : sf ρ with
    | none => rw [e] at p; exact p
    | some o =>
      rw [e] at p
      cases o with
      | nx ρ1 => exact absurd e (hne ρ1)
      | rt => exact p
      | bk => exact p
      | ct => exact p
      | ex => exact p
theorem last_of {us : List V} (h : us ≠ []) : ∃ v, us.getLast? = some v := ⟨_, List.getLast?_eq_some_getLast h⟩
/-- the last root, whatever it is, goes -/
theorem Rg.dropAny {B F H : Hp} {ul tv us : List V} {σ : St} {ρ : Rh} {G : List LT} (r : Rg K cl B F H ul σ tv ρ G us) (hb : ρ.bs < ρ.g.length) : ∃ (G0 : List LT) (us0 : List V), Rg K cl B F H ul σ tv (dropLastF ρ) G0 us0 := by
  have hu : us ≠ [] := fun z => by
    have := r.ul_
    rw [z] at this
    rw [r.gl, ← this] at hb
    simp at hb
  obtain ⟨v, hv⟩ := last_of hu
  have hg : ρ.g ≠ [] := fun z => by rw [z] at hb; simp at hb
  obtain ⟨G0, u, us0, rfl, rfl, eu, hl⟩ := r.lastRoot hv (List.getLast?_eq_some_getLast hg)
  exact ⟨G0, us0, r.dropLast hb (r.rl.left hl) (Evl.Ex.refl _)⟩
theorem sx_dr (h : Fv K cl W te f) : Sx K cl W (tDrop te) (sDr f) := fun B F H ul σ tv ρ G us D r p => by
  refine h B F H ul σ tv ρ G us r _ ?_
  unfold sDr at p
  split at p
  · rename_i s ρ1 e
    rw [e]
    exact fun v B1 H1 G1 us1 k1 r1 _ => p B1 H1 σ G1 us1 k1 r1
  · rename_i ρ1 e
    rw [e]
    split at p
    · rename_i hb
      intro v B1 H1 G1 us1 k1 r1 _
      obtain ⟨G0, us0, r0⟩ := r1.dropAny hb
      exact p B1 H1 σ G0 us0 k1 r0
    · exact p.elim
  · rename_i C ρ1 e
    rw [e]
    exact fun B1 H1 G1 us1 k1 r1 => p B1 H1 σ G1 us1 k1 r1
  · exact p.elim
theorem sx_rt (h : Fv K cl W te f) : Sx K cl W (tRet te) (sRt f) := fun B F H ul σ tv ρ G us D r p => by
  refine h B F H ul σ tv ρ G us r _ ?_
  unfold sRt at p
  split at p
  · rename_i x ρ1 e
    rw [e]
    exact fun v B1 H1 G1 us1 k1 r1 hv => p v B1 H1 σ G1 us1 k1 r1 hv
  · rename_i C ρ1 e
    rw [e]
    exact fun B1 H1 G1 us1 k1 r1 => p B1 H1 σ G1 us1 k1 r1
  · exact p.elim
theorem sx_if (hc : Ft K cl W c f) (h1 : Sx K cl W t sf) (h2 : Sx K cl W u sg) : Sx K cl W (tIfS c t u) (sIf f sf sg) := fun B F H ul σ tv ρ G us D r p => by
  refine hc B F H ul σ tv ρ G us r _ ?_
  unfold sIf at p
  split at p
  · rename_i ρ1 e
    rw [e]
    exact fun B1 H1 G1 us1 k1 r1 => iteT (h1 B1 F H1 ul σ tv ρ1 G1 us1 D r1 (p.imp k1))
  · rename_i ρ1 e
    rw [e]
    exact fun B1 H1 G1 us1 k1 r1 => iteF (h2 B1 F H1 ul σ tv ρ1 G1 us1 D r1 (p.imp k1))
  · rename_i C ρ1 e
    rw [e]
    exact fun B1 H1 G1 us1 k1 r1 => p B1 H1 σ G1 us1 k1 r1
  · exact p.elim
/-! targets -/
theorem Rg.set {B F H : Hp} {ul tv us : List V} {σ : St} {ρ : Rh} {G : List LT} {v : V} {s : Sv} (r : Rg K cl B F H ul σ tv ρ G us) (i : Nat) (h : SvAt K B G v s) : Rg K cl B F H ul (σ.set i (some v)) tv { ρ with sl := ρ.sl.set i (some s) } G us :=
  ⟨r.er, r.rl, by rw [List.length_set]; exact r.bs, r.le, by rw [List.length_set]; exact r.ul, r.sl.set h, r.tm⟩
theorem tg_n (i : Nat) : Tg K cl (gName i) (gN i) := fun B F H ul σ tv ρ ρ' G us v s r hv e Q q => by
  cases e
  exact q _ (r.set i hv)
theorem tgs_0 : Tgs K cl gNil gT0 := fun B F H ul σ tv ρ ρ' G us vs ds r hv e Q q => by
  unfold gT0 at e
  split at e
  · cases e; cases hv; exact ⟨rfl, q σ r⟩
  · cases e
theorem tgs_c {g1 : TG} {g2 : TGs} {fg : Sv → Rh → Option Rh} {fh : List PyData → Rh → Option Rh} (h1 : Tg K cl g1 fg) (h2 : Tgs K cl g2 fh) : Tgs K cl (gCons g1 g2) (gTC fg fh) := fun B F H ul σ tv ρ ρ' G us vs ds r hv e Q q => by
  unfold gTC at e
  split at e
  · rename_i d ds
    split at e
    · rename_i ρ1 e1
      cases hv with
      | cons a b => exact ⟨_, _, rfl, h1 B F H ul σ tv ρ ρ1 G us _ (.py d) r a e1 _ fun σ1 r1 => h2 B F H ul σ1 tv ρ1 ρ' G us _ _ r1 b e Q q⟩
    · cases e
  · cases e
theorem tg_tu {g2 : TGs} {fh : List PyData → Rh → Option Rh} (h2 : Tgs K cl g2 fh) : Tg K cl (gTup K n g2) (gTu n fh) := fun B F H ul σ tv ρ ρ' G us v s r hv e Q q => by
  unfold gTu at e
  split at e
  · rename_i ds
    split at e
    · rename_i hn
      have hv : Dp K B v (.tuple ds) := hv
      cases hv with
      | tup s1 a1 => exact ⟨_, _, rfl, Evl.ex_t r.rl.exB s1, by rw [DpAll.length a1]; exact hn, h2 B F H ul σ tv ρ ρ' G us _ _ r a1 e Q q⟩
    · cases e
  · cases e
theorem sx_at {tg : TG} {fg : Sv → Rh → Option Rh} (h : Fv K cl W te f) (ht : Tg K cl tg fg) : Sx K cl W (tAsg te tg) (sAt fg f) := fun B F H ul σ tv ρ G us D r p => by
  refine h B F H ul σ tv ρ G us r _ ?_
  unfold sAt at p
  split at p
  · rename_i s ρ1 e
    rw [e]
    intro v B1 H1 G1 us1 k1 r1 hv
    split at p
    · rename_i ρ2 e2
      exact ht B1 F H1 ul σ tv ρ1 ρ2 G1 us1 v s r1 hv e2 _ fun σ' r' => p B1 H1 σ' G1 us1 k1 r'
    · exact p.elim
  · rename_i C ρ1 e
    rw [e]
    exact fun B1 H1 G1 us1 k1 r1 => p B1 H1 σ G1 us1 k1 r1
  · exact p.elim
theorem sx_as (i : Nat) (h : Fv K cl W te f) : Sx K cl W (tAsg te (gName i)) (sAs i f) := fun B F H ul σ tv ρ G us D r p => by
  refine h B F H ul σ tv ρ G us r _ ?_
  unfold sAs at p
  split at p
  · rename_i s ρ1 e
    rw [e]
    exact fun v B1 H1 G1 us1 k1 r1 hv => p B1 H1 _ G1 us1 k1 (r1.set i hv)
  · rename_i ρ1 e
    rw [e]
    intro v B1 H1 G1 us1 k1 r1 hv
    split at p
    · rename_i hi
      split at p
      · rename_i ρ2 e2
        unfold takeRoot at e2
        split at e2
        · rename_i a hd cs et
          split at e2
          · rename_i hb
            cases e2
            obtain ⟨G0, u, us0, rfl, rfl, eu, hl⟩ := r1.lastRoot hv et
            have hg : ρ1.g.length = G0.length + 1 := by rw [r1.gl]; simp
            have hil : i < σ.length := by rw [r1.sl.len]; exact hi
            have hi0 : i < G0.length := by omega
            have key : ∀ π w, (fun π => rootF i π || rootF (ρ1.g.length - 1) π) π = false → pv (G0 ++ [u]) π = some w → pv (G0.set i u) π = some w := fun π w h1 h2 => by
              simp only [Bool.or_eq_false_iff] at h1
              cases π with
              | nil => simp [pv, gget] at h2
              | cons j s =>
                have n1 : j ≠ i := fun z => by subst z; simp [rootF] at h1
                have n2 : j ≠ G0.length := fun z => by subst z; simp [rootF, hg] at h1
                rw [pv_set fun ⟨t, z⟩ => by simp at z; exact n1 z.1.symm]
                unfold pv at h2 ⊢
                simp only [gget] at h2 ⊢
                by_cases hlt : j < G0.length
                · rw [List.getElem?_append_left hlt] at h2; exact h2
                · rw [List.getElem?_eq_none (by simp; omega)] at h2; cases h2
            have rl := r1.rl.setLast i
            obtain ⟨_, hu1, _, _, _⟩ := r1.rl.last
            have sl1 := (r1.sl.mask (Evl.Ex.refl _) key)
            have hpt : SvAt K B1 (G0.set i u) v (.pt [i]) := by
              show pv (G0.set i u) [i] = some v
              unfold pv
              simp only [gget, List.getElem?_set_self hi0]
              cases u with
              | un => cases eu
              | py => cases eu
              | nd q hq c => cases hu1; simp [TL.get, lref]
            refine p B1 H1 _ (G0.set i u) (us0.set i v) k1 ⟨?_, rl, by rw [List.length_set]; exact r1.bs, ?_, ?_, sl1.set hpt, r1.tm.mask (Evl.Ex.refl _) key⟩
            · show (G0.set i u).map TL.er = ρ1.g.dropLast.set i _
              rw [List.map_set, eu, ← r1.er]
              simp
            · show ρ1.bs ≤ _
              rw [List.length_set]; omega
            · have h1 := r1.ul
              have h2 := r1.bs
              have h3 := r1.le
              rw [List.length_set]
              rw [List.drop_append_of_le_length (by omega), List.take_append_of_le_length (by simp; omega)] at h1
              rw [List.drop_set, if_pos hil]
              exact h1
          · cases e2
        · cases e2
      · exact p.elim
    · exact p.elim
  · rename_i C ρ1 e
    rw [e]
    exact fun B1 H1 G1 us1 k1 r1 => p B1 H1 σ G1 us1 k1 r1
  · exact p.elim
end
end Fx

/-! Statements that change trees: why. -/
namespace Fx
open PySem L2
open Evl (Ex)
variable {cl : String → Addr}
theorem put_zip : ∀ {fs : List Str} {vs : List V} {f : Str} {i : Nat} {v : V}, ixS fs f = some i → fs.length = vs.length → putF f v (fs.zip vs) = fs.zip (vs.set i v)
  | [], _, _, _, _, h, _ => by simp [ixS] at h
  | g :: r, [], _, _, _, h, e => by simp at e
  | g :: r, x :: vs, f, i, v, h, e => by
    unfold ixS at h
    split at h
    · rename_i z
      subst z
      cases h
      simp [putF]
    · rename_i z
      cases h1 : ixS r f with
      | none => rw [h1] at h; simp at h
      | some j =>
        rw [h1] at h
        simp at h
        subst h
        have := put_zip (vs := vs) (v := v) h1 (by simpa using e)
        simp [putF, z, this]
theorem put_zipN : ∀ {fs : List Str} {vs : List V} {f : Str} {v : V}, ixS fs f = none → fs.length = vs.length → putF f v (fs.zip vs) = (fs ++ [f]).zip (vs ++ [v])
  | [], vs, f, v, _, e => by
    have : vs = [] := List.length_eq_zero_iff.mp (by simpa using e.symm)
    subst this
    rfl
  | g :: r, [], _, _, _, e => by simp at e
  | g :: r, x :: vs, f, v, h, e => by
    unfold ixS at h
    split at h
    · cases h
    · rename_i z
      have h1 : ixS r f = none := by
        cases h1 : ixS r f with
        | none => rfl
        | some j => rw [h1] at h; simp at h
      have := put_zipN (vs := vs) (v := v) h1 (by simpa using e)
      simp [putF, z, this]
section
variable {κ : Type} [DecidableEq κ]
theorem ixK_mem : ∀ {ks : List κ} {k : κ} {i : Nat}, ixK ks k = some i → ks[i]? = some k
  | [], _, _, h => by simp [ixK] at h
  | g :: r, k, i, h => by
    unfold ixK at h
    split at h
    · rename_i z
      cases h
      simp [z]
    · cases h1 : ixK r k with
      | none => rw [h1] at h; simp at h
      | some j =>
        rw [h1] at h
        simp at h
        subst h
        simpa using ixK_mem h1
theorem ixK_not : ∀ {ks : List κ} {k : κ}, ixK ks k = none → k ∉ ks
  | [], _, _ => by simp
  | g :: r, k, h => by
    unfold ixK at h
    split at h
    · cases h
    · rename_i z
      have h1 : ixK r k = none := by
        cases h1 : ixK r k with
        | none => rfl
        | some j => rw [h1] at h; simp at h
      intro hm
      rcases List.mem_cons.mp hm with hm | hm
      · exact z hm.symm
      · exact ixK_not h1 hm
theorem map_zip_ne {k : κ} {v : V} : ∀ {ks : List κ} {vs : List V}, k ∉ ks → (ks.zip vs).map (fun kv => if kv.1 = k then (kv.1, v) else kv) = ks.zip vs
  | [], _, _ => rfl
  | g :: r, [], _ => rfl
  | g :: r, x :: vs, h => by
    have h1 : g ≠ k := fun z => h (by simp [z])
    have ih := map_zip_ne (ks := r) (vs := vs) (k := k) (v := v) (fun z => h (List.mem_cons_of_mem _ z))
    rw [List.zip_cons_cons, List.map_cons, ih, if_neg h1]
theorem putK_zip {ks : List κ} {vs : List V} {k : κ} {i : Nat} {v : V} (h : ixK ks k = some i) (n : ks.Nodup) (e : ks.length = vs.length) : putK (ks.zip vs) k v = ks.zip (vs.set i v) := by
  have hm := ixK_mem h
  have ha : ((ks.zip vs).any fun kv => decide (kv.1 = k)) = true := by
    have hi := (List.getElem?_eq_some_iff.mp hm).1
    have hz : (ks.zip vs)[i]? = some (k, vs[i]'(by omega)) := by
      rw [List.getElem?_zip_eq_some]
      exact ⟨hm, List.getElem?_eq_getElem (by omega)⟩
    exact List.any_eq_true.mpr ⟨_, List.mem_of_getElem? hz, by simp⟩
  unfold putK
  rw [if_pos ha]
  clear ha hm
  induction ks generalizing vs i with
  | nil => simp [ixK] at h
  | cons g r ih =>
    cases vs with
    | nil => simp at e
    | cons x vs =>
      have n := List.nodup_cons.mp n
      unfold ixK at h
      split at h
      · rename_i z
        subst z
        cases h
        simp [map_zip_ne n.1]
      · rename_i z
        cases h1 : ixK r k with
        | none => rw [h1] at h; simp at h
        | some j =>
          rw [h1] at h
          simp at h
          subst h
          simp [z, ih h1 n.2 (by simpa using e)]
theorem putK_new {ks : List κ} {vs : List V} {k : κ} {v : V} (h : ixK ks k = none) (e : ks.length = vs.length) : putK (ks.zip vs) k v = (ks ++ [k]).zip (vs ++ [v]) := by
  have hn := ixK_not h
  have ha : ((ks.zip vs).any fun kv => decide (kv.1 = k)) = false := by
    rw [List.any_eq_false]
    intro kv hk
    have := (List.of_mem_zip (a := kv.1) (b := kv.2) hk).1
    simp
    exact fun z => hn (z ▸ this)
  unfold putK
  rw [if_neg (by rw [ha]; simp)]
  rw [List.zip_append (by omega)]
  simp
end
section
variable {K : PySem.W.Frag} {W : WX} {te ta tb tk to : TE} {f g : Rh → Option Ev} {pf : Rh → Option Sv} {kf : Rh → Option PyData} {t u : TS} {c : TT} {sf sg : Rh → Option Oc} {n i : Nat}
variable {B F H : Hp} {ul tv us : List V} {σ : St} {ρ : Rh} {G : List LT}
/-- a node takes other children -/
theorem Rg.mutAt {π : List Nat} {p : Addr} {h h' : Hd} {cs cs' : List LT} {vs' : List V} {o : HO} {bad : List Nat → Bool} (r : Rg K cl B F H ul σ tv ρ G us) (e : gget G π = some (.nd p h cs)) (ho : h.own = true) (ho' : h'.own = true) (own : OwnO o)
    (hn : Node K cl B (upd H p o) p h' vs') (hc : LtAll K cl B H vs' cs') (nd : (addrsAll cs').Nodup) (hq : ∀ q ∈ addrsAll cs', q ∈ addrsAll cs ∨ (q ∉ addrsAll G ∧ F q = none))
    (hb : ∀ k s, bad (π ++ k :: s) = false → ∀ c, cs[k]? = some c → cs'[k]? = some c) :
    Rg K cl B F (upd H p o) ul σ tv (putAt π bad (.nd () h' (erAll cs')) ρ) (gput G π (.nd p h' cs')) us := by
  have rl := r.rl.mut e ho ho' own hn hc nd hq
  have key : ∀ π2 v, bad π2 = false → pv G π2 = some v → pv (gput G π (.nd p h' cs')) π2 = some v := fun π2 v h1 h2 => by
    by_cases hp : π <+: π2
    · obtain ⟨s, rfl⟩ := hp
      unfold pv at h2 ⊢
      rw [gget_put_ext e]
      rw [gget_app e] at h2
      cases s with
      | nil => simp only [TL.get, Option.bind, lref] at h2 ⊢; exact h2
      | cons k s =>
        simp only [TL.get] at h2 ⊢
        cases ek : cs[k]? with
        | none => rw [ek] at h2; cases h2
        | some c =>
          rw [ek] at h2
          rw [hb k s h1 c ek]
          exact h2
    · rw [pv_put_ne hp]; exact h2
  refine ⟨?_, rl, r.bs, by rw [gput_len]; exact r.le, r.ul, r.sl.mask (Evl.Ex.refl _) key, r.tm.mask (Evl.Ex.refl _) key⟩
  rw [gput_er, r.er]
  rfl
theorem in_rootX {u : LT} {π : List Nat} (e : gget G π = some u) : ∀ a ∈ u.addrs, a ∈ addrsAll G := fun a ha => by
  obtain ⟨A1, A2, e1, _, _⟩ := at_root (cl := fun _ => 0) G π _ e
  rw [e1]; simp [ha]
/-- what is put somewhere -/
theorem child_ok {v : V} {x : Rv} {c : T} {ρ2 : Rh} (r : Rg K cl B F H ul σ tv ρ G us) (hv : RvAt K B G us v x) (e : childF x ρ = some (c, ρ2)) :
    ∃ (G2 : List LT) (us2 : List V) (u : LT), Rg K cl B F H ul σ tv ρ2 G2 us2 ∧ u.er = c ∧ LtAt K cl B H v u ∧ u.addrs.Nodup ∧ (∀ q ∈ u.addrs, q ∉ addrsAll G2 ∧ F q = none) ∧ (∀ π w, pv G2 π = some w → pv G π = some w) := by
  unfold childF at e
  split at e
  · rename_i d
    cases e
    exact ⟨G, us, .py d, r, rfl, .py hv, by simp [TL.addrs], fun q hq => by simp [TL.addrs] at hq, fun _ _ h => h⟩
  · split at e
    · rename_i a h cs et
      split at e
      · rename_i hb
        cases e
        obtain ⟨G0, u, us0, rfl, rfl, eu, hl⟩ := r.lastRoot hv et
        obtain ⟨r1, h1, h2, h3, _⟩ := r.rl.last
        exact ⟨G0, us0, u, r.dropLast hb r1 (Evl.Ex.refl _), eu, h1, h2, h3, fun π w hw => pv_append hw⟩
      · cases e
    · cases e
  · cases e
theorem nodc {π : List Nat} {p : Addr} {h : Hd} {cs : List LT} (r : Rl K cl B F H G us) (e : gget G π = some (.nd p h cs)) : (addrsAll cs).Nodup := by
  obtain ⟨A1, A2, e1, _, _⟩ := at_root (cl := fun _ => 0) G π _ e
  have nod := r.nod
  rw [e1] at nod
  simp only [TL.addrs] at nod
  exact (List.nodup_append.mp (List.nodup_append.mp (List.nodup_append.mp nod).1).2.1).2.1
theorem er_set (cs : List LT) (i : Nat) (u : LT) : (erAll cs).set i u.er = erAll (cs.set i u) := by rw [erAll_map, erAll_map, List.map_set]
theorem er_app (cs es : List LT) : erAll cs ++ erAll es = erAll (cs ++ es) := by rw [erAll_map, erAll_map, erAll_map, List.map_append]
theorem sub_of {cs : List LT} {u : LT} {π : List Nat} {p : Addr} {h : Hd} (e : gget G π = some (.nd p h cs)) : ∀ q ∈ addrsAll cs, q ∈ addrsAll G := fun q hq => in_rootX e q (by simp [TL.addrs, hq])
/-- one child instead of another -/
theorem set_ok {π : List Nat} {p : Addr} {h h' : Hd} {cs : List LT} {vs : List V} {o : HO} {u : LT} {v : V} {k : Nat} (r : Rg K cl B F H ul σ tv ρ G us) (e : gget G π = some (.nd p h cs)) (ho : h.own = true) (ho' : h'.own = true) (own : OwnO o)
    (hn : Node K cl B (upd H p o) p h' (vs.set k v)) (hc : LtAll K cl B H vs cs) (hu : LtAt K cl B H v u) (nu : u.addrs.Nodup) (hq : ∀ q ∈ u.addrs, q ∉ addrsAll G ∧ F q = none) :
    ∃ G', Rg K cl B F (upd H p o) ul σ tv (putAt π (kidF π k) (.nd () h' ((erAll cs).set k u.er)) ρ) G' us := by
  rw [er_set]
  refine ⟨_, r.mutAt e ho ho' own hn (hc.setAt hu) (nod_set cs k u (nodc r.rl e) nu fun q h1 h2 => (hq q h1).1 (sub_of (u := u) e q h2)) (fun q h => ?_) fun j s hb c hc => ?_⟩
  · rcases mem_set cs k u q h with h | h
    · exact .inl h
    · exact .inr (hq q h)
  · have : k ≠ j := fun z => by
      subst z
      unfold kidF at hb
      rw [pre_iff.mpr (show π ++ [k] <+: π ++ k :: s from ⟨s, by simp⟩)] at hb
      cases hb
    rw [List.getElem?_set_ne this]
    exact hc
/-- some more children -/
theorem app_ok {π : List Nat} {p : Addr} {h h' : Hd} {cs es : List LT} {vs ws : List V} {o : HO} (r : Rg K cl B F H ul σ tv ρ G us) (e : gget G π = some (.nd p h cs)) (ho : h.own = true) (ho' : h'.own = true) (own : OwnO o)
    (hn : Node K cl B (upd H p o) p h' (vs ++ ws)) (hc : LtAll K cl B H vs cs) (hu : LtAll K cl B H ws es) (nu : (addrsAll es).Nodup) (hq : ∀ q ∈ addrsAll es, q ∉ addrsAll G ∧ F q = none) :
    ∃ G', Rg K cl B F (upd H p o) ul σ tv (putAt π (fun _ => false) (.nd () h' (erAll cs ++ erAll es)) ρ) G' us := by
  rw [er_app]
  refine ⟨_, r.mutAt e ho ho' own hn (hc.append hu) ?_ (fun q h => ?_) fun j s hb c hc => ?_⟩
  · rw [addrsAll_append]
    exact List.nodup_append.mpr ⟨nodc r.rl e, nu, fun a ha b hb z => (hq b hb).1 (z ▸ sub_of (u := .un .non) e a ha)⟩
  · rw [addrsAll_append] at h
    rcases List.mem_append.mp h with h | h
    · exact .inl h
    · exact .inr (hq q h)
  · rw [List.getElem?_append_left (List.getElem?_eq_some_iff.mp hc).1]
    exact hc
theorem one_at {u : LT} {v : V} (h : LtAt K cl B H v u) : LtAll K cl B H [v] [u] := .cons h .nil
theorem one_addr {u : LT} : addrsAll [u] = u.addrs := by simp [addrsAll]
theorem erAll_one {u : LT} : erAll [u] = [u.er] := rfl
theorem sx_fl {C : String} {n : Str} (hC : Cls K (cl C)) (hA : NoAttr K (cl C) n) (ho : Pv K cl ta pf) (h : Fv K cl W te f) : Sx K cl W (sFld K ta te n) (sFl C n pf f) := fun B F H ul σ tv ρ G us D r p => by
  refine h B F H ul σ tv ρ G us r _ ?_
  unfold sFl at p
  split at p
  · rename_i x ρ1 e
    rw [e]
    intro v B1 H1 G1 us1 k1 r1 hv
    split at p
    · rename_i π eπ
      refine ho B1 F H1 ul σ tv ρ1 G1 us1 _ r1 eπ _ fun y B2 H2 w hy => ?_
      have hy : pv G1 π = some y := hy
      have r2 := r1.grow w
      split at p
      · rename_i c ρ2 ec
        obtain ⟨G2, us2, u, r3, rfl, hu, nu, hq, hs⟩ := child_ok r2 (by
          cases x with
          | s s => exact SvAt.keep w.b (fun _ _ => rfl) hv
          | own => exact hv) ec
        split at p
        · rename_i D' fs cs hg
          obtain ⟨u2, g1, g2⟩ := r3.get hg
          cases u2 with
          | un => cases g2
          | py => cases g2
          | nd q hd cs' =>
            simp only [TL.er, TL.nd.injEq] at g2
            obtain ⟨_, rfl, rfl⟩ := g2
            have ey : y = .ref q := by
              have := hs π (.ref q) (by unfold pv; rw [g1]; rfl)
              rw [hy] at this; cases this; rfl
            subst ey
            obtain ⟨vs, hn, hc⟩ := r3.rl.node g1
            obtain ⟨hB, hl, dx, hh⟩ := hn
            split at p
            · rename_i hD
              obtain ⟨rfl, hlen⟩ := hD
              have hfl : (fs.zip vs).length < 1000 := by rw [List.length_zip]; omega
              have kk : Kp F B B2 := k1.trans (w.kp r1.rl.exF)
              split at p
              · rename_i k hk
                have ep : HO.ins (cl D') dx (putF n v (fs.zip vs)) = .ins (cl D') dx (fs.zip (vs.set k v)) := by rw [put_zip hk hl]
                obtain ⟨G', r4⟩ := set_ok (h' := .ins D' fs) (vs := vs) (v := v) (u := u) (k := k) (o := .ins (cl D') dx (putF n v (fs.zip vs))) r3 g1 rfl rfl (.inr (.inr (.inr (.inl ⟨_, _, _, rfl⟩)))) ⟨hB, by simp [hl], dx, by rw [upd_same, ep]⟩ hc hu nu hq
                exact ⟨q, cl D', dx, _, rfl, hh, hC, hA, hfl, p B2 _ σ G' us2 kk r4⟩
              · rename_i hk
                have ep : HO.ins (cl D') dx (putF n v (fs.zip vs)) = .ins (cl D') dx ((fs ++ [n]).zip (vs ++ [v])) := by rw [put_zipN hk hl]
                obtain ⟨G', r4⟩ := app_ok (h' := .ins D' (fs ++ [n])) (vs := vs) (ws := [v]) (es := [u]) (o := .ins (cl D') dx (putF n v (fs.zip vs))) r3 g1 rfl rfl (.inr (.inr (.inr (.inl ⟨_, _, _, rfl⟩)))) ⟨hB, by simp [hl], dx, by rw [upd_same, ep]⟩ hc (one_at hu) (by rw [one_addr]; exact nu) (by rw [one_addr]; exact hq)
                exact ⟨q, cl D', dx, _, rfl, hh, hC, hA, hfl, p B2 _ σ G' us2 kk r4⟩
            · exact p.elim
        · exact p.elim
      · exact p.elim
    · exact p.elim
  · rename_i C' ρ1 e
    rw [e]
    exact fun B1 H1 G1 us1 k1 r1 => p B1 H1 σ G1 us1 k1 r1
  · exact p.elim
theorem sx_pu (ho : Pv K cl ta pf) (hk : Dv K cl tk kf) (h : Fv K cl W te f) : Sx K cl W (sDPut ta tk te) (sPu pf kf f) := fun B F H ul σ tv ρ G us D r p => by
  refine h B F H ul σ tv ρ G us r _ ?_
  unfold sPu at p
  split at p
  · rename_i x ρ1 e
    rw [e]
    intro v B1 H1 G1 us1 k1 r1 hv
    split at p
    · rename_i π dk eπ ek
      refine ho B1 F H1 ul σ tv ρ1 G1 us1 _ r1 eπ _ fun y B2 H2 w hy => hk B2 F H2 ul σ tv ρ1 G1 us1 _ (r1.grow w) ek _ fun z B3 H3 w3 hz => ?_
      have hy : pv G1 π = some y := hy
      have r2 := (r1.grow w).grow w3
      split at p
      · rename_i c ρ2 ec
        obtain ⟨G2, us2, u, r3, rfl, hu, nu, hq, hs⟩ := child_ok r2 (by
          cases x with
          | s s => exact SvAt.keep (w.b.trans w3.b) (fun _ _ => rfl) hv
          | own => exact hv) ec
        split at p
        · rename_i key _ ks cs hkey hg
          have := key_val hkey hz
          subst this
          obtain ⟨u2, g1, g2⟩ := r3.get hg
          cases u2 with
          | un => cases g2
          | py => cases g2
          | nd q hd cs' =>
            simp only [TL.er, TL.nd.injEq] at g2
            obtain ⟨_, rfl, rfl⟩ := g2
            have ey : y = .ref q := by
              have := hs π (.ref q) (by unfold pv; rw [g1]; rfl)
              rw [hy] at this; cases this; rfl
            subst ey
            obtain ⟨vs, hn, hc⟩ := r3.rl.node g1
            obtain ⟨hB, hl, hnd, hh⟩ := hn
            split at p
            · rename_i hlen
              have hfl : (ks.zip vs).length < sizeLine := by rw [List.length_zip]; exact Nat.lt_of_le_of_lt (Nat.min_le_left _ _) (Nat.lt_of_lt_of_le hlen (by decide))
              have kk : Kp F B B3 := k1.trans ((w.trans w3).kp r1.rl.exF)
              split at p
              · rename_i k hk'
                have ep : HO.dK (putK (ks.zip vs) key v) = .dK (ks.zip (vs.set k v)) := by rw [putK_zip hk' hnd hl]
                obtain ⟨G', r4⟩ := set_ok (h' := .dct ks) (vs := vs) (v := v) (u := u) (k := k) (o := .dK (putK (ks.zip vs) key v)) r3 g1 rfl rfl (.inr (.inl ⟨_, rfl⟩)) ⟨hB, by simp [hl], hnd, by rw [upd_same, ep]⟩ hc hu nu hq
                exact ⟨q, _, rfl, DPut.k hh hfl, p B3 _ σ G' us2 kk r4⟩
              · rename_i hk'
                have ep : HO.dK (putK (ks.zip vs) key v) = .dK ((ks ++ [key]).zip (vs ++ [v])) := by rw [putK_new hk' hl]
                have hnd2 : (ks ++ [key]).Nodup := List.nodup_append.mpr ⟨hnd, by simp, fun a ha b hb z => by simp at hb; subst hb z; exact ixK_not hk' ha⟩
                obtain ⟨G', r4⟩ := app_ok (h' := .dct (ks ++ [key])) (vs := vs) (ws := [v]) (es := [u]) (o := .dK (putK (ks.zip vs) key v)) r3 g1 rfl rfl (.inr (.inl ⟨_, rfl⟩)) ⟨hB, by simp [hl], hnd2, by rw [upd_same, ep]⟩ hc (one_at hu) (by rw [one_addr]; exact nu) (by rw [one_addr]; exact hq)
                exact ⟨q, _, rfl, DPut.k hh hfl, p B3 _ σ G' us2 kk r4⟩
            · exact p.elim
        · exact p.elim
      · exact p.elim
    · exact p.elim
  · rename_i C' ρ1 e
    rw [e]
    exact fun B1 H1 G1 us1 k1 r1 => p B1 H1 σ G1 us1 k1 r1
  · exact p.elim
theorem sx_sl (ho : Pv K cl ta pf) (hk : Dv K cl tk kf) (h : Fv K cl W te f) : Sx K cl W (tAsg te (gSub ta tk rSetL)) (sSL pf kf f) := fun B F H ul σ tv ρ G us D r p => by
  refine h B F H ul σ tv ρ G us r _ ?_
  unfold sSL at p
  split at p
  · rename_i x ρ1 e
    rw [e]
    intro v B1 H1 G1 us1 k1 r1 hv
    split at p
    · rename_i π k0 eπ ek
      refine ho B1 F H1 ul σ tv ρ1 G1 us1 _ r1 eπ _ fun y B2 H2 w hy => hk B2 F H2 ul σ tv ρ1 G1 us1 _ (r1.grow w) ek _ fun z B3 H3 w3 hz => ?_
      have hy : pv G1 π = some y := hy
      cases hz
      have r2 := (r1.grow w).grow w3
      split at p
      · rename_i c ρ2 ec
        obtain ⟨G2, us2, u, r3, rfl, hu, nu, hq, hs⟩ := child_ok r2 (by
          cases x with
          | s s => exact SvAt.keep (w.b.trans w3.b) (fun _ _ => rfl) hv
          | own => exact hv) ec
        split at p
        · rename_i cs hg
          obtain ⟨u2, g1, g2⟩ := r3.get hg
          cases u2 with
          | un => cases g2
          | py => cases g2
          | nd q hd cs' =>
            simp only [TL.er, TL.nd.injEq] at g2
            obtain ⟨_, rfl, rfl⟩ := g2
            have ey : y = .ref q := by
              have := hs π (.ref q) (by unfold pv; rw [g1]; rfl)
              rw [hy] at this; cases this; rfl
            subst ey
            obtain ⟨vs, hn, hc⟩ := r3.rl.node g1
            obtain ⟨hB, hh⟩ := hn
            have kk : Kp F B B3 := k1.trans ((w.trans w3).kp r1.rl.exF)
            split at p
            · rename_i k hk'
              have hl : vs.length = (erAll cs').length := by rw [hc.length, erAll_map, List.length_map]
              obtain ⟨G', r4⟩ := set_ok (h' := .lst) (vs := vs) (v := v) (u := u) (k := k) (o := .lst (vs.set k v)) r3 g1 rfl rfl (.inl ⟨_, rfl⟩) ⟨hB, by rw [upd_same]⟩ hc hu nu hq
              exact ⟨q, vs, k0, k, rfl, rfl, hh, by rw [hl]; exact hk', p B3 _ σ G' us2 kk r4⟩
            · exact p.elim
        · exact p.elim
      · exact p.elim
    · exact p.elim
  · rename_i C' ρ1 e
    rw [e]
    exact fun B1 H1 G1 us1 k1 r1 => p B1 H1 σ G1 us1 k1 r1
  · exact p.elim
end
end Fx

/-! Lists that grow and shrink. -/
namespace Fx
open PySem L2
open Evl (Ex)
variable {cl : String → Addr}
/-- xs.pop(i), data -/
def fPop (pf : Rh → Option Sv) (kf : Rh → Option PyData) (ρ : Rh) : Option Ev := match pf ρ, kf ρ with
  | some (.pt π), some (.int i) => match gget ρ.g π with
    | some (.nd _ .lst cs) => if -(2 ^ 63) ≤ i ∧ i < 2 ^ 63 then match seqIndex? i cs.length with
        | some k => match cs[k]? with
          | some (.py d) => some (.vl (.s (.py d)) (putAt π (belowF π) (.nd () .lst (cs.eraseIdx k)) ρ))
          | _ => none
        | none => none
      else none
    | _ => none
  | _, _ => none
/-- del xs[i] -/
def sDe (pf : Rh → Option Sv) (kf : Rh → Option PyData) (ρ : Rh) : Option Oc := match pf ρ, kf ρ with
  | some (.pt π), some (.int i) => match gget ρ.g π with
    | some (.nd _ .lst cs) => if -(2 ^ 63) ≤ i ∧ i < 2 ^ 63 then match seqIndex? i cs.length with
        | some k => some (.nx (putAt π (belowF π) (.nd () .lst (cs.eraseIdx k)) ρ))
        | none => none
      else none
    | _ => none
  | _, _ => none
section
variable {K : PySem.W.Frag} {W : WX} {te ta tb tk to : TE} {f g : Rh → Option Ev} {pf : Rh → Option Sv} {kf : Rh → Option PyData} {t u : TS} {c : TT} {sf sg : Rh → Option Oc} {n i : Nat}
variable {B F H : Hp} {ul tv us : List V} {σ : St} {ρ : Rh} {G : List LT}
theorem er_erase : ∀ (cs : List LT) (k : Nat), (erAll cs).eraseIdx k = erAll (cs.eraseIdx k)
  | [], _ => rfl
  | c :: cs, 0 => rfl
  | c :: cs, k + 1 => by simp [erAll, er_erase cs k]
theorem top_ok {x : V} {π : List Nat} (r : Rg K cl B F H ul σ (tv ++ [x]) ρ G us) (e : topPt ρ = some π) : pv G π = some x := by
  unfold topPt at e
  split at e
  · rename_i π' h
    cases e
    have hne : ρ.tm ≠ [] := fun z => by rw [z] at h; cases h
    have hl := r.tm.len
    simp only [List.length_map, List.length_append, List.length_singleton] at hl
    have hi : ρ.tm[tv.length]? = some (some (.pt π)) := by
      rw [List.getLast?_eq_some_getLast hne] at h
      simp only [Option.some.injEq] at h
      rw [List.getElem?_eq_some_iff]
      refine ⟨by omega, ?_⟩
      rw [← h, List.getLast_eq_getElem]
      congr 1
      omega
    obtain ⟨v, h1, h2⟩ := r.tm.has _ _ hi
    rw [List.getElem?_map, List.getElem?_append_right (Nat.le_refl _)] at h1
    simp at h1
    subst h1
    exact h2
  · cases e
theorem pop_ok {x : V} (r : Rg K cl B F H ul σ (tv ++ [x]) ρ G us) : Rg K cl B F H ul σ tv (popTm ρ) G us := by
  refine ⟨r.er, r.rl, r.bs, r.le, r.ul, r.sl, ?_⟩
  have a := r.tm
  rw [List.map_append] at a
  have h := a.left
  have hl := a.len
  simp only [List.length_append, List.length_map, List.length_singleton] at hl
  have : ρ.tm.take (tv.map some).length = ρ.tm.dropLast := by
    rw [List.dropLast_eq_take, List.length_map]
    congr 1
    omega
  rw [this] at h
  exact h
theorem fv_pop (ho : Pv K cl to pf) (hk : Dv K cl tk kf) : Fv K cl W (tBM K "list" rPopAt to (tCons tk tNil)) (fPop pf kf) := fun B F H ul σ tv ρ G us r Q p => by
  unfold fPop at p
  split at p
  · rename_i π i eπ ek
    refine ho B F H ul σ tv ρ G us _ r eπ _ fun y B2 H2 w hy => ?_
    have hy : pv G π = some y := hy
    have r2 := r.grow w
    split at p
    · rename_i cs hg
      obtain ⟨q, cs', g1, rfl, rfl⟩ := node_of r hg hy
      obtain ⟨vs0, hn0, hc0⟩ := r2.rl.node g1
      refine ⟨.inl ⟨rfl, _, SqL.of hn0.2⟩, hk B2 F H2 ul σ tv ρ G us _ r2 ek _ fun z B3 H3 w3 hz => ?_⟩
      cases hz
      have r3 := r2.grow w3
      obtain ⟨vs, hn, hc⟩ := r3.rl.node g1
      split at p
      · rename_i hi
        split at p
        · rename_i k hk'
          split at p
          · rename_i d hd
            have hl : vs.length = (erAll cs').length := by rw [hc.length, erAll_map, List.length_map]
            rw [erAll_map, List.getElem?_map] at hd
            cases ec : cs'[k]? with
            | none => rw [ec] at hd; cases hd
            | some c =>
              rw [ec] at hd
              obtain ⟨v, h1, h2⟩ := hc.get ec
              cases c with
              | un => cases hd
              | nd => cases hd
              | py d' =>
                cases hd
                cases h2 with
                | py h2 =>
                  have er_er : (erAll cs').eraseIdx k = erAll (cs'.eraseIdx k) := er_erase cs' k
                  have r4 := r3.mutAt (h' := .lst) (vs' := vs.eraseIdx k) (cs' := cs'.eraseIdx k) (o := .lst (vs.eraseIdx k)) (bad := belowF π) g1 rfl rfl (.inl ⟨_, rfl⟩) ⟨hn.1, upd_same⟩ (hc.erase k) ((mem_erase cs' k).nodup (nodc r3.rl g1)) (fun q hq => .inl ((mem_erase cs' k).subset hq)) (fun j s hb c hc => by
                    unfold belowF at hb
                    rw [pre_iff.mpr (show π <+: π ++ j :: s from ⟨_, rfl⟩)] at hb
                    simp at hb)
                  rw [← er_er] at r4
                  refine ⟨q, vs, i, k, v, rfl, rfl, hn.2, hi.1, hi.2, by rw [hl]; exact hk', h1, ?_⟩
                  exact p v B3 _ _ us ((w.trans w3).kp r.rl.exF) r4 h2
          · exact p.elim
        · exact p.elim
      · exact p.elim
    · exact p.elim
  · exact p.elim
theorem sx_de (ho : Pv K cl to pf) (hk : Dv K cl tk kf) : Sx K cl W (tDelL to tk) (sDe pf kf) := fun B F H ul σ tv ρ G us D r p => by
  unfold sDe at p
  split at p
  · rename_i π i eπ ek
    refine ho B F H ul σ tv ρ G us _ r eπ _ fun y B2 H2 w hy => hk B2 F H2 ul σ tv ρ G us _ (r.grow w) ek _ fun z B3 H3 w3 hz => ?_
    have hy : pv G π = some y := hy
    cases hz
    have r3 := (r.grow w).grow w3
    split at p
    · rename_i cs hg
      obtain ⟨q, cs', g1, rfl, rfl⟩ := node_of r hg hy
      obtain ⟨vs, hn, hc⟩ := r3.rl.node g1
      split at p
      · rename_i hi
        split at p
        · rename_i k hk'
          have hl : vs.length = (erAll cs').length := by rw [hc.length, erAll_map, List.length_map]
          have er_er : (erAll cs').eraseIdx k = erAll (cs'.eraseIdx k) := er_erase cs' k
          have r4 := r3.mutAt (h' := .lst) (vs' := vs.eraseIdx k) (cs' := cs'.eraseIdx k) (o := .lst (vs.eraseIdx k)) (bad := belowF π) g1 rfl rfl (.inl ⟨_, rfl⟩) ⟨hn.1, upd_same⟩ (hc.erase k) ((mem_erase cs' k).nodup (nodc r3.rl g1)) (fun q hq => .inl ((mem_erase cs' k).subset hq)) (fun j s hb c hc => by
            unfold belowF at hb
            rw [pre_iff.mpr (show π <+: π ++ j :: s from ⟨_, rfl⟩)] at hb
            simp at hb)
          rw [← er_er] at r4
          exact ⟨q, vs, i, k, rfl, rfl, hn.2, hi.1, hi.2, by rw [hl]; exact hk', p B3 _ σ _ us ((w.trans w3).kp r.rl.exF) r4⟩
        · exact p.elim
      · exact p.elim
    · exact p.elim
  · exact p.elim
theorem sx_ap (ho : Pv K cl to pf) (h : Fv K cl W te f) : Sx K cl W (tDrop (tBM K "list" rAppend to (tCons te tNil))) (sAp pf f) := fun B F H ul σ tv ρ G us D r p => by
  unfold sAp at p
  split at p
  · rename_i π0 eπ
    refine ho B F H ul σ tv ρ G us _ r eπ _ fun y B2 H2 w hy => ?_
    have hy : pv G π0 = some y := hy
    have r2 := r.grow w
    split at p
    · rename_i cs0 hg0
      obtain ⟨q, cs0', g0, rfl, rfl⟩ := node_of r hg0 hy
      obtain ⟨vs0, hn0, hc0⟩ := r2.rl.node g0
      refine ⟨.inl ⟨rfl, _, SqL.of hn0.2⟩, ?_⟩
      have r2p : Rg K cl B2 F H2 ul σ (tv ++ [.ref q]) (pushPt π0 ρ) G us := push_ok (x := .s (.pt π0)) r2 hy rfl
      refine h B2 F H2 ul σ _ _ G us r2p _ ?_
      split at p
      · rename_i x ρ1 e
        rw [e]
        intro v B3 H3 G1 us1 k1 r1 hv
        split at p
        · rename_i c ρ2 ec
          obtain ⟨G2, us2, u, r3, rfl, hu, nu, hq, hs⟩ := child_ok r1 hv ec
          split at p
          · rename_i π eπ2
            have hp := top_ok r3 eπ2
            split at p
            · rename_i cs hg
              obtain ⟨q2, cs', g1, rfl, eq⟩ := node_of r3 hg hp
              cases eq
              obtain ⟨vs, hn, hc⟩ := r3.rl.node g1
              split at p
              · rename_i hlen
                have hl : vs.length = (erAll cs').length := by rw [hc.length, erAll_map, List.length_map]
                obtain ⟨G', r4⟩ := app_ok (h' := .lst) (vs := vs) (ws := [v]) (es := [u]) (o := .lst (vs ++ [v])) r3 g1 rfl rfl (.inl ⟨_, rfl⟩) ⟨hn.1, by rw [upd_same]⟩ hc (one_at hu) (by rw [one_addr]; exact nu) (by rw [one_addr]; exact hq)
                exact ⟨q, vs, v, rfl, rfl, hn.2, by rw [hl]; exact Nat.lt_of_lt_of_le hlen (by decide), p B3 _ σ G' us2 ((w.kp r.rl.exF).trans k1) (pop_ok r4)⟩
              · exact p.elim
            · exact p.elim
          · exact p.elim
        · exact p.elim
      · rename_i C' ρ1 e
        rw [e]
        exact fun B1 H1 G1 us1 k1 r1 => p B1 H1 σ G1 us1 ((w.kp r.rl.exF).trans k1) (pop_ok r1)
      · exact p.elim
    · exact p.elim
  · exact p.elim
theorem addrs_data : ∀ {cs : List LT} {ds : List PyData}, cs.map TL.er = ds.map TL.py → addrsAll cs = []
  | [], _, _ => rfl
  | c :: cs, [], h => by cases h
  | c :: cs, d :: ds, h => by
    simp only [List.map_cons, List.cons.injEq] at h
    cases c with
    | un => cases h.1
    | nd => cases h.1
    | py x => simp [addrsAll, TL.addrs, addrs_data h.2]
/-- a list of data as children -/
def pyAll : List T → Option (List PyData)
  | [] => some []
  | .py d :: r => match pyAll r with
    | some ds => some (d :: ds)
    | none => none
  | _ :: _ => none
theorem pyAll_of : ∀ {cs : List LT} {ds : List PyData}, pyAll (erAll cs) = some ds → cs = ds.map TL.py
  | [], ds, h => by simp only [erAll, pyAll, Option.some.injEq] at h; subst h; rfl
  | .un _ :: cs, ds, h => by simp [erAll, TL.er, pyAll] at h
  | .nd _ _ _ :: cs, ds, h => by simp [erAll, TL.er, pyAll] at h
  | .py d :: cs, ds, h => by
    simp only [erAll, TL.er, pyAll] at h
    split at h
    · rename_i es e1
      cases h
      rw [pyAll_of e1]; rfl
    · cases h
theorem pyAll_py : ∀ (ds : List PyData), pyAll (ds.map TL.py) = some ds
  | [] => rfl
  | d :: ds => by simp [pyAll, pyAll_py ds]
end
/-- xs.extend(e), e a list of data: a new one, or a tree -/
def sEt (pf : Rh → Option Sv) (f : Rh → Option Ev) (ρ : Rh) : Option Oc := match pf ρ with
  | some (.pt π0) => match gget ρ.g π0 with
    | some (.nd _ .lst _) => match f (pushPt π0 ρ) with
      | some (.vl .own ρ1) => match ρ1.g.getLast? with
        | some (.nd _ .lst es) => match pyAll es with
          | some ds => if ρ1.bs < ρ1.g.length then match topPt (dropLastF ρ1) with
              | some π => match gget (dropLastF ρ1).g π with
                | some (.nd _ .lst cs) => if cs.length + ds.length ≤ 100000 then some (.nx (popTm (putAt π (fun _ => false) (.nd () .lst (cs ++ ds.map TL.py)) (dropLastF ρ1)))) else none
                | _ => none
              | none => none
            else none
          | none => none
        | _ => none
      | some (.vl (.s (.pt π1)) ρ1) => match gget ρ1.g π1 with
        | some (.nd _ .lst es) => match pyAll es with
          | some ds => match topPt ρ1 with
            | some π => match gget ρ1.g π with
              | some (.nd _ .lst cs) => if cs.length + ds.length ≤ 100000 then some (.nx (popTm (putAt π (fun _ => false) (.nd () .lst (cs ++ ds.map TL.py)) ρ1))) else none
              | _ => none
            | none => none
          | none => none
        | _ => none
      | some (.ex C ρ1) => some (.ex C (popTm ρ1))
      | _ => none
    | _ => none
  | _ => none
section
variable {K : PySem.W.Frag} {W : WX} {te ta tb tk to : TE} {f g : Rh → Option Ev} {pf : Rh → Option Sv} {kf : Rh → Option PyData} {t u : TS} {c : TT} {sf sg : Rh → Option Oc} {n i : Nat}
theorem sx_et (ho : Pv K cl to pf) (h : Fv K cl W te f) : Sx K cl W (tDrop (tBM K "list" rExtend to (tCons te tNil))) (sEt pf f) := fun B F H ul σ tv ρ G us D r p => by
  unfold sEt at p
  split at p
  · rename_i π0 eπ
    refine ho B F H ul σ tv ρ G us _ r eπ _ fun y B2 H2 w hy => ?_
    have hy : pv G π0 = some y := hy
    have r2 := r.grow w
    split at p
    · rename_i cs0 hg0
      obtain ⟨q, cs0', g0, rfl, rfl⟩ := node_of r hg0 hy
      obtain ⟨vs0, hn0, hc0⟩ := r2.rl.node g0
      refine ⟨.inl ⟨rfl, _, SqL.of hn0.2⟩, ?_⟩
      have r2p : Rg K cl B2 F H2 ul σ (tv ++ [.ref q]) (pushPt π0 ρ) G us := push_ok (x := .s (.pt π0)) r2 hy rfl
      refine h B2 F H2 ul σ _ _ G us r2p _ ?_
      split at p
      · rename_i ρ1 e
        rw [e]
        intro v B3 H3 G1 us1 k1 r1 hv
        split at p
        · rename_i es et
          obtain ⟨G0, ul0, us0, rfl, rfl, eu, hl0⟩ := r1.lastRoot hv et
          split at p
          · rename_i ds eds
            split at p
            · rename_i hb
              obtain ⟨rl0, hu, _, _, _⟩ := r1.rl.last
              have r3 := r1.dropLast hb rl0 (Evl.Ex.refl _)
              cases ul0 with
              | un => cases eu
              | py => cases eu
              | nd q1 hd1 es' =>
                simp only [TL.er, TL.nd.injEq] at eu
                obtain ⟨_, rfl, rfl⟩ := eu
                have := pyAll_of eds
                subst this
                cases hu with
                | nd hn1 hc1 =>
                  rename_i zs
                  split at p
                  · rename_i π eπ2
                    have hp := top_ok r3 eπ2
                    split at p
                    · rename_i cs hg
                      obtain ⟨q2, cs', g1, rfl, eq⟩ := node_of r3 hg hp
                      cases eq
                      obtain ⟨vs, hn, hc⟩ := r3.rl.node g1
                      split at p
                      · rename_i hlen
                        have hl : vs.length = (erAll cs').length := by rw [hc.length, erAll_map, List.length_map]
                        have hz : zs.length = ds.length := by rw [hc1.length, List.length_map]
                        obtain ⟨G', r4⟩ := app_ok (h' := .lst) (vs := vs) (ws := zs) (es := ds.map TL.py) (o := .lst (vs ++ zs)) r3 g1 rfl rfl (.inl ⟨_, rfl⟩) ⟨hn.1, by rw [upd_same]⟩ hc hc1 (by rw [addrsAll_py]; simp) (fun q hq => by rw [addrsAll_py] at hq; simp at hq)
                        rw [erAll_py] at r4
                        exact ⟨q, q1, vs, zs, rfl, rfl, hn.2, hn1.2, by rw [hl, hz]; exact Nat.le_trans hlen (by decide), p B3 _ σ G' us0 ((w.kp r.rl.exF).trans k1) (pop_ok r4)⟩
                      · exact p.elim
                    · exact p.elim
                  · exact p.elim
            · exact p.elim
          · exact p.elim
        · exact p.elim
      · rename_i π1 ρ1 e
        rw [e]
        intro v B3 H3 G1 us1 k1 r3 hv
        have hv : pv G1 π1 = some v := hv
        split at p
        · rename_i es hg1
          obtain ⟨q1, es', g1', rfl, rfl⟩ := node_of r3 hg1 hv
          obtain ⟨zs, hn1, hc1⟩ := r3.rl.node g1'
          split at p
          · rename_i ds eds
            have := pyAll_of eds
            subst this
            split at p
            · rename_i π eπ2
              have hp := top_ok r3 eπ2
              split at p
              · rename_i cs hg
                obtain ⟨q2, cs', g1, rfl, eq⟩ := node_of r3 hg hp
                cases eq
                obtain ⟨vs, hn, hc⟩ := r3.rl.node g1
                split at p
                · rename_i hlen
                  have hl : vs.length = (erAll cs').length := by rw [hc.length, erAll_map, List.length_map]
                  have hz : zs.length = ds.length := by rw [hc1.length, List.length_map]
                  obtain ⟨G', r4⟩ := app_ok (h' := .lst) (vs := vs) (ws := zs) (es := ds.map TL.py) (o := .lst (vs ++ zs)) r3 g1 rfl rfl (.inl ⟨_, rfl⟩) ⟨hn.1, by rw [upd_same]⟩ hc hc1 (by rw [addrsAll_py]; simp) (fun q hq => by rw [addrsAll_py] at hq; simp at hq)
                  rw [erAll_py] at r4
                  exact ⟨q, q1, vs, zs, rfl, rfl, hn.2, hn1.2, by rw [hl, hz]; exact Nat.le_trans hlen (by decide), p B3 _ σ G' us1 ((w.kp r.rl.exF).trans k1) (pop_ok r4)⟩
                · exact p.elim
              · exact p.elim
            · exact p.elim
          · exact p.elim
        · exact p.elim
      · rename_i C' ρ1 e
        rw [e]
        exact fun B1 H1 G1 us1 k1 r1 => p B1 H1 σ G1 us1 ((w.kp r.rl.exF).trans k1) (pop_ok r1)
      · exact p.elim
    · exact p.elim
  · exact p.elim
end
end Fx

/-! Loops; defs. -/
namespace Fx
open PySem L2
open Evl (Ex)
variable {cl : String → Addr}
def loopD (tg : Sv → Rh → Option Rh) (b : Rh → Option Oc) : List PyData → Rh → Option Oc
  | [], ρ => some (.nx ρ)
  | d :: ds, ρ => match tg (.py d) ρ with
    | some ρ1 => match b ρ1 with
      | some (.nx ρ2) => loopD tg b ds ρ2
      | some (.ct ρ2) => loopD tg b ds ρ2
      | some (.bk ρ2) => some (.nx ρ2)
      | some (.rt r ρ2) => some (.rt r ρ2)
      | some (.ex C ρ2) => some (.ex C ρ2)
      | none => none
    | none => none
def loopT (tg : Sv → Rh → Option Rh) (b : Rh → Option Oc) : Nat → Nat → Rh → Option Oc
  | 0, i, ρ => match topPt ρ with
    | some π => match gget ρ.g π with
      | some (.nd _ .lst cs) => if cs.length = i then some (.nx (popTm ρ)) else none
      | _ => none
    | none => none
  | k + 1, i, ρ => match topPt ρ with
    | some π => match gget ρ.g π with
      | some (.nd _ .lst cs) => if cs.length = i + (k + 1) then match kidAt π cs i with
          | some s => match tg s ρ with
            | some ρ1 => match b ρ1 with
              | some (.nx ρ2) => loopT tg b k (i + 1) ρ2
              | some (.ct ρ2) => loopT tg b k (i + 1) ρ2
              | some (.bk ρ2) => some (.nx (popTm ρ2))
              | some (.rt r ρ2) => some (.rt r (popTm ρ2))
              | some (.ex C ρ2) => some (.ex C (popTm ρ2))
              | none => none
            | none => none
          | none => none
        else none
      | _ => none
    | none => none
def sFo (f : Rh → Option Ev) (tg : Sv → Rh → Option Rh) (b : Rh → Option Oc) (ρ : Rh) : Option Oc := match f ρ with
  | some (.vl (.s (.py (.list ds))) ρ1) => loopD tg b ds ρ1
  | some (.vl (.s (.pt π)) ρ1) => match gget ρ1.g π with
    | some (.nd _ .lst cs) => loopT tg b cs.length 0 (pushPt π ρ1)
    | _ => none
  | some (.ex C ρ1) => some (.ex C ρ1)
  | _ => none
def sFu (f : Rh → Option Ev) (tg : Sv → Rh → Option Rh) (b : Rh → Option Oc) (ρ : Rh) : Option Oc := match f ρ with
  | some (.vl (.s (.py (.tuple ds))) ρ1) => loopD tg b ds ρ1
  | some (.ex C ρ1) => some (.ex C ρ1)
  | _ => none
def rngF : List PyData → Option (List PyData)
  | [.int n] => if -(2 ^ 62) ≤ n ∧ n < 2 ^ 62 then some ((List.range n.toNat).map fun i : Nat => .int (i : Int)) else none
  | _ => none
def sFr (f : Rh → Option (List PyData)) (tg : Sv → Rh → Option Rh) (b : Rh → Option Oc) (ρ : Rh) : Option Oc := match f ρ with
  | some as => match rngF as with
    | some ds => loopD tg b ds ρ
    | none => none
  | none => none
def whileF (c : Rh → Option Ev) (b : Rh → Option Oc) : Nat → Rh → Option Oc
  | 0, _ => none
  | n + 1, ρ => match c ρ with
    | some (.vl (.s (.py (.bool true))) ρ1) => match b ρ1 with
      | some (.nx ρ2) => whileF c b n ρ2
      | some (.ct ρ2) => whileF c b n ρ2
      | some (.bk ρ2) => some (.nx ρ2)
      | some (.rt r ρ2) => some (.rt r ρ2)
      | some (.ex C ρ2) => some (.ex C ρ2)
      | none => none
    | some (.vl (.s (.py (.bool false))) ρ1) => some (.nx ρ1)
    | some (.ex C ρ1) => some (.ex C ρ1)
    | _ => none
section
variable {K : PySem.W.Frag} {W : WX} {te ta tb tk to : TE} {f g : Rh → Option Ev} {t u : TS} {c : TT} {sf sg : Rh → Option Oc} {n i : Nat} {tg : TG} {fg : Sv → Rh → Option Rh} {tr : TA} {af : Rh → Option (List PyData)}
/-- the turns over data, one by one -/
theorem loopD_turn {B B0 F H : Hp} {ul tv us : List V} {σ : St} {ρ : Rh} {G : List LT} {D : Ends} {d : PyData} {ds : List PyData} {x : V} {N : St → Hp → Prop} (ht : Tg K cl tg fg) (hb : Sx K cl W t sf) (r : Rg K cl B F H ul σ tv ρ G us) (k : Kp F B0 B) (hx : Dp K B x d) (p : OcP K cl B0 F ul tv W D (loopD fg sf (d :: ds) ρ))
    (hN : ∀ B' H' σ' ρ' G' us', Kp F B0 B' → Rg K cl B' F H' ul σ' tv ρ' G' us' → OcP K cl B0 F ul tv W D (loopD fg sf ds ρ') → N σ' H') : tg x σ H fun σ2 H2 => t { D with nx := N, ct := N, bk := D.nx } σ2 H2 := by
  simp only [loopD] at p
  split at p
  · rename_i ρ1 e1
    refine ht B F H ul σ tv ρ ρ1 G us x (.py d) r hx e1 _ fun σ1 r1 => ?_
    refine hb B F H ul σ1 tv ρ1 G us _ r1 ?_
    split at p
    · rename_i ρ2 e2; rw [e2]
      exact fun B' H' σ' G' us' k' r' => hN B' H' σ' ρ2 G' us' (k.trans k') r' p
    · rename_i ρ2 e2; rw [e2]
      exact fun B' H' σ' G' us' k' r' => hN B' H' σ' ρ2 G' us' (k.trans k') r' p
    · rename_i ρ2 e2; rw [e2]
      exact fun B' H' σ' G' us' k' r' => p B' H' σ' G' us' (k.trans k') r'
    · rename_i y ρ2 e2; rw [e2]
      exact fun v B' H' σ' G' us' k' r' => p v B' H' σ' G' us' (k.trans k') r'
    · rename_i C ρ2 e2; rw [e2]
      exact fun B' H' σ' G' us' k' r' => p B' H' σ' G' us' (k.trans k') r'
    · exact p.elim
  · exact p.elim
theorem loopD_list {B F H : Hp} {ul tv us : List V} {σ : St} {ρ : Rh} {G : List LT} {D : Ends} {ds : List PyData} {a : Addr} {xs : List V} (ht : Tg K cl tg fg) (hb : Sx K cl W t sf) (r : Rg K cl B F H ul σ tv ρ G us) (s1 : SqL K B a xs) (a1 : DpAll K B xs ds) (p : OcP K cl B F ul tv W D (loopD fg sf ds ρ)) :
    ∃ Wn : Nat → Nat → St → Hp → Prop, (∃ m, Wn 0 m σ H) ∧ ∀ i m σ H, Wn i m σ H → ((Itl K a).stop i H ∧ D.nx σ H) ∨ ((Itl K a).go i H ∧ ∃ N : St → Hp → Prop, (∀ σ' H', N σ' H' → ∃ m', m' < m ∧ Wn (i + 1) m' σ' H') ∧ ∀ x H', (Itl K a).yld i H x H' → tg x σ H' fun σ2 H2 => t { D with nx := N, ct := N, bk := D.nx } σ2 H2) := by
  have hl := DpAll.length a1
  refine ⟨fun i m σ' H' => ∃ B' ρ' G' us', m = (ds.drop i).length ∧ i ≤ ds.length ∧ Kp F B B' ∧ Rg K cl B' F H' ul σ' tv ρ' G' us' ∧ OcP K cl B F ul tv W D (loopD fg sf (ds.drop i) ρ'), ⟨_, B, ρ, G, us, rfl, Nat.zero_le _, Kp.refl F B, r, by simpa using p⟩, ?_⟩
  rintro i m σ' H' ⟨B', ρ', G', us', rfl, hi, k', r', p'⟩
  have sq : SqL K H' a xs := Evl.ex_l (k'.b.trans r'.rl.exB) s1
  by_cases hlt : i < ds.length
  · rw [List.drop_eq_getElem_cons hlt] at p'
    obtain ⟨x', h1, h2⟩ := DpAll.get a1 (List.getElem?_eq_getElem hlt)
    refine .inr ⟨⟨xs, x', sq, h1⟩, fun σ2 H2 => ∃ B2 ρ2 G2 us2, Kp F B B2 ∧ Rg K cl B2 F H2 ul σ2 tv ρ2 G2 us2 ∧ OcP K cl B F ul tv W D (loopD fg sf (ds.drop (i + 1)) ρ2), fun σ2 H2 ⟨B2, ρ2, G2, us2, k2, r2, p2⟩ => ⟨(ds.drop (i + 1)).length, by simp; omega, B2, ρ2, G2, us2, rfl, hlt, k2, r2, p2⟩, fun x H2 ⟨e1, e2⟩ => ?_⟩
    subst e1
    have := e2 xs sq
    rw [h1] at this; cases this
    exact loopD_turn ht hb r' k' (Dp.mono k'.b _ _ h2) p' fun B2 H2 σ2 ρ2 G2 us2 k2 r2 p2 => ⟨B2, ρ2, G2, us2, k2, r2, p2⟩
  · have : i = ds.length := by omega
    subst this
    rw [List.drop_length] at p'
    exact .inl ⟨⟨xs, sq, by omega⟩, p' B' H' σ' G' us' k' r'⟩
theorem loopD_tup {B F H : Hp} {ul tv us : List V} {σ : St} {ρ : Rh} {G : List LT} {D : Ends} {ds : List PyData} {a : Addr} {xs : List V} (ht : Tg K cl tg fg) (hb : Sx K cl W t sf) (r : Rg K cl B F H ul σ tv ρ G us) (s1 : SqT K B a xs) (a1 : DpAll K B xs ds) (p : OcP K cl B F ul tv W D (loopD fg sf ds ρ)) :
    ∃ Wn : Nat → Nat → St → Hp → Prop, (∃ m, Wn 0 m σ H) ∧ ∀ i m σ H, Wn i m σ H → ((Itt K a).stop i H ∧ D.nx σ H) ∨ ((Itt K a).go i H ∧ ∃ N : St → Hp → Prop, (∀ σ' H', N σ' H' → ∃ m', m' < m ∧ Wn (i + 1) m' σ' H') ∧ ∀ x H', (Itt K a).yld i H x H' → tg x σ H' fun σ2 H2 => t { D with nx := N, ct := N, bk := D.nx } σ2 H2) := by
  have hl := DpAll.length a1
  refine ⟨fun i m σ' H' => ∃ B' ρ' G' us', m = (ds.drop i).length ∧ i ≤ ds.length ∧ Kp F B B' ∧ Rg K cl B' F H' ul σ' tv ρ' G' us' ∧ OcP K cl B F ul tv W D (loopD fg sf (ds.drop i) ρ'), ⟨_, B, ρ, G, us, rfl, Nat.zero_le _, Kp.refl F B, r, by simpa using p⟩, ?_⟩
  rintro i m σ' H' ⟨B', ρ', G', us', rfl, hi, k', r', p'⟩
  have sq : SqT K H' a xs := Evl.ex_t (k'.b.trans r'.rl.exB) s1
  by_cases hlt : i < ds.length
  · rw [List.drop_eq_getElem_cons hlt] at p'
    obtain ⟨x', h1, h2⟩ := DpAll.get a1 (List.getElem?_eq_getElem hlt)
    refine .inr ⟨⟨xs, x', sq, h1⟩, fun σ2 H2 => ∃ B2 ρ2 G2 us2, Kp F B B2 ∧ Rg K cl B2 F H2 ul σ2 tv ρ2 G2 us2 ∧ OcP K cl B F ul tv W D (loopD fg sf (ds.drop (i + 1)) ρ2), fun σ2 H2 ⟨B2, ρ2, G2, us2, k2, r2, p2⟩ => ⟨(ds.drop (i + 1)).length, by simp; omega, B2, ρ2, G2, us2, rfl, hlt, k2, r2, p2⟩, fun x H2 ⟨e1, e2⟩ => ?_⟩
    subst e1
    have := e2 xs sq
    rw [h1] at this; cases this
    exact loopD_turn ht hb r' k' (Dp.mono k'.b _ _ h2) p' fun B2 H2 σ2 ρ2 G2 us2 k2 r2 p2 => ⟨B2, ρ2, G2, us2, k2, r2, p2⟩
  · have : i = ds.length := by omega
    subst this
    rw [List.drop_length] at p'
    exact .inl ⟨⟨xs, sq, by omega⟩, p' B' H' σ' G' us' k' r'⟩
theorem sx_fr (ha : Da K cl tr af) (ht : Tg K cl tg fg) (hb : Sx K cl W t sf) : Sx K cl W (tFor (iRng1 tr) tg t) (sFr af fg sf) := fun B F H ul σ tv ρ G us D r p => by
  unfold sFr at p
  split at p
  · rename_i as e1
    split at p
    · rename_i ds e2
      refine ha B F H ul σ tv ρ G us as r e1 _ fun vs B1 H1 w hv => ?_
      unfold rngF at e2
      split at e2
      · rename_i n
        split at e2
        · rename_i hn
          cases e2
          cases hv with
          | cons a b =>
            cases a
            cases b
            have r1 := r.grow w
            have p := p.imp (w.kp r.rl.exF)
            refine ⟨n, rfl, hn.1, hn.2, ?_⟩
            have hl : ((List.range n.toNat).map fun i : Nat => PyData.int (i : Int)).length = n.toNat := by simp
            generalize hds : ((List.range n.toNat).map fun i : Nat => PyData.int (i : Int)) = ds at p hl
            refine ⟨fun i m σ' H' => ∃ B' ρ' G' us', m = (ds.drop i).length ∧ i ≤ ds.length ∧ Kp F B1 B' ∧ Rg K cl B' F H' ul σ' tv ρ' G' us' ∧ OcP K cl B1 F ul tv W D (loopD fg sf (ds.drop i) ρ'), ⟨_, B1, ρ, G, us, rfl, Nat.zero_le _, Kp.refl F B1, r1, by simpa using p⟩, ?_⟩
            rintro i m σ' H' ⟨B', ρ', G', us', rfl, hi, k', r', p'⟩
            by_cases hlt : i < ds.length
            · rw [List.drop_eq_getElem_cons hlt] at p'
              refine .inr ⟨show i < n.toNat by omega, fun σ2 H2 => ∃ B2 ρ2 G2 us2, Kp F B1 B2 ∧ Rg K cl B2 F H2 ul σ2 tv ρ2 G2 us2 ∧ OcP K cl B1 F ul tv W D (loopD fg sf (ds.drop (i + 1)) ρ2), fun σ2 H2 ⟨B2, ρ2, G2, us2, k2, r2, p2⟩ => ⟨(ds.drop (i + 1)).length, by simp; omega, B2, ρ2, G2, us2, rfl, hlt, k2, r2, p2⟩, fun x H2 ⟨e1, e2⟩ => ?_⟩
              subst e1
              subst e2
              refine loopD_turn ht hb r' k' ?_ p' fun B2 H2 σ2 ρ2 G2 us2 k2 r2 p2 => ⟨B2, ρ2, G2, us2, k2, r2, p2⟩
              subst hds
              simp
              exact .int _
            · have : i = ds.length := by omega
              subst this
              rw [List.drop_length] at p'
              exact .inl ⟨show n.toNat ≤ ds.length by omega, p' B' H' σ' G' us' k' r'⟩
        · cases e2
      · cases e2
    · exact p.elim
  · exact p.elim
theorem sx_fu (h : Fv K cl W te f) (ht : Tg K cl tg fg) (hb : Sx K cl W t sf) : Sx K cl W (tFor (iTup K te) tg t) (sFu f fg sf) := fun B F H ul σ tv ρ G us D r p => by
  refine h B F H ul σ tv ρ G us r _ ?_
  unfold sFu at p
  split at p
  · rename_i ds ρ1 e
    rw [e]
    intro v B1 H1 G1 us1 k1 r1 hv
    have hv : Dp K B1 v (.tuple ds) := hv
    cases hv with
    | tup s1 a1 => exact ⟨_, rfl, ⟨_, Evl.ex_t r1.rl.exB s1⟩, loopD_tup ht hb r1 s1 a1 (p.imp k1)⟩
  · rename_i C ρ1 e
    rw [e]
    exact fun B1 H1 G1 us1 k1 r1 => p B1 H1 σ G1 us1 k1 r1
  · exact p.elim
theorem loopT_list {B F H : Hp} {ul tv us : List V} {σ : St} {ρ : Rh} {G : List LT} {D : Ends} {a : Addr} {n : Nat} (ht : Tg K cl tg fg) (hb : Sx K cl W t sf) (r : Rg K cl B F H ul σ (tv ++ [.ref a]) ρ G us) (p : OcP K cl B F ul tv W D (loopT fg sf n 0 ρ)) :
    ∃ Wn : Nat → Nat → St → Hp → Prop, (∃ m, Wn 0 m σ H) ∧ ∀ i m σ H, Wn i m σ H → ((Itl K a).stop i H ∧ D.nx σ H) ∨ ((Itl K a).go i H ∧ ∃ N : St → Hp → Prop, (∀ σ' H', N σ' H' → ∃ m', m' < m ∧ Wn (i + 1) m' σ' H') ∧ ∀ x H', (Itl K a).yld i H x H' → tg x σ H' fun σ2 H2 => t { D with nx := N, ct := N, bk := D.nx } σ2 H2) := by
  refine ⟨fun i m σ' H' => ∃ B' ρ' G' us', Kp F B B' ∧ Rg K cl B' F H' ul σ' (tv ++ [.ref a]) ρ' G' us' ∧ OcP K cl B F ul tv W D (loopT fg sf m i ρ'), ⟨n, B, ρ, G, us, Kp.refl F B, r, p⟩, ?_⟩
  rintro i m σ' H' ⟨B', ρ', G', us', k', r', p'⟩
  cases m with
  | zero =>
    simp only [loopT] at p'
    split at p'
    · rename_i π e1
      have hp := top_ok r' e1
      split at p'
      · rename_i cs hg
        obtain ⟨q, cs', g1, rfl, eq⟩ := node_of r' hg hp
        cases eq
        obtain ⟨vs, hn, hc⟩ := r'.rl.node g1
        split at p'
        · rename_i hl
          have : vs.length = i := by rw [hc.length, ← hl, erAll_map, List.length_map]
          exact .inl ⟨⟨vs, SqL.of hn.2, by omega⟩, p' B' H' σ' G' us' k' (pop_ok r')⟩
        · exact p'.elim
      · exact p'.elim
    · exact p'.elim
  | succ m =>
    simp only [loopT] at p'
    split at p'
    · rename_i π e1
      have hp := top_ok r' e1
      split at p'
      · rename_i cs hg
        obtain ⟨q, cs', g1, rfl, eq⟩ := node_of r' hg hp
        cases eq
        obtain ⟨vs, hn, hc⟩ := r'.rl.node g1
        split at p'
        · rename_i hl
          split at p'
          · rename_i s hs
            obtain ⟨v, h1, h2⟩ := kid_of r' g1 hc hs
            refine .inr ⟨⟨vs, v, SqL.of hn.2, h1⟩, fun σ2 H2 => ∃ B2 ρ2 G2 us2, Kp F B B2 ∧ Rg K cl B2 F H2 ul σ2 (tv ++ [.ref a]) ρ2 G2 us2 ∧ OcP K cl B F ul tv W D (loopT fg sf m (i + 1) ρ2), fun σ2 H2 ⟨B2, ρ2, G2, us2, k2, r2, p2⟩ => ⟨m, by omega, B2, ρ2, G2, us2, k2, r2, p2⟩, fun x H2 ⟨e1, e2⟩ => ?_⟩
            subst e1
            have := e2 vs (SqL.of hn.2)
            rw [h1] at this; cases this
            split at p'
            · rename_i ρ1 e3
              refine ht B' F H2 ul σ' _ ρ' ρ1 G' us' v s r' h2 e3 _ fun σ1 r1 => ?_
              refine hb B' F H2 ul σ1 _ ρ1 G' us' _ r1 ?_
              split at p'
              · rename_i ρ2 e2; rw [e2]
                exact fun B2 H2 σ2 G2 us2 k2 r2 => ⟨B2, ρ2, G2, us2, k'.trans k2, r2, p'⟩
              · rename_i ρ2 e2; rw [e2]
                exact fun B2 H2 σ2 G2 us2 k2 r2 => ⟨B2, ρ2, G2, us2, k'.trans k2, r2, p'⟩
              · rename_i ρ2 e2; rw [e2]
                exact fun B2 H2 σ2 G2 us2 k2 r2 => p' B2 H2 σ2 G2 us2 (k'.trans k2) (pop_ok r2)
              · rename_i y ρ2 e2; rw [e2]
                exact fun v B2 H2 σ2 G2 us2 k2 r2 hv => p' v B2 H2 σ2 G2 us2 (k'.trans k2) (pop_ok r2) (by cases y <;> exact hv)
              · rename_i C ρ2 e2; rw [e2]
                exact fun B2 H2 σ2 G2 us2 k2 r2 => p' B2 H2 σ2 G2 us2 (k'.trans k2) (pop_ok r2)
              · exact p'.elim
            · exact p'.elim
          · exact p'.elim
        · exact p'.elim
      · exact p'.elim
    · exact p'.elim
theorem sx_fo (h : Fv K cl W te f) (ht : Tg K cl tg fg) (hb : Sx K cl W t sf) : Sx K cl W (tFor (iList K te) tg t) (sFo f fg sf) := fun B F H ul σ tv ρ G us D r p => by
  refine h B F H ul σ tv ρ G us r _ ?_
  unfold sFo at p
  split at p
  · rename_i ds ρ1 e
    rw [e]
    intro v B1 H1 G1 us1 k1 r1 hv
    have hv : Dp K B1 v (.list ds) := hv
    cases hv with
    | lst s1 a1 => exact ⟨_, rfl, ⟨_, Evl.ex_l r1.rl.exB s1⟩, loopD_list ht hb r1 s1 a1 (p.imp k1)⟩
  · rename_i π ρ1 e
    rw [e]
    intro v B1 H1 G1 us1 k1 r1 hv
    have hv : pv G1 π = some v := hv
    split at p
    · rename_i cs hg
      obtain ⟨q, cs', g1, rfl, rfl⟩ := node_of r1 hg hv
      obtain ⟨vs, hn, hc⟩ := r1.rl.node g1
      have r2 : Rg K cl B1 F H1 ul σ (tv ++ [.ref q]) (pushPt π ρ1) G1 us1 := push_ok (x := .s (.pt π)) r1 hv rfl
      exact ⟨_, rfl, ⟨_, SqL.of hn.2⟩, loopT_list ht hb r2 (p.imp k1)⟩
    · exact p.elim
  · rename_i C ρ1 e
    rw [e]
    exact fun B1 H1 G1 us1 k1 r1 => p B1 H1 σ G1 us1 k1 r1
  · exact p.elim
theorem sx_wh (n : Nat) (hc : Ft K cl W c f) (hb : Sx K cl W t sf) : Sx K cl W (tWhile c t) (whileF f sf n) := fun B F H ul σ tv ρ G us D r p => by
  refine ⟨fun m σ' H' => ∃ B' ρ' G' us', Kp F B B' ∧ Rg K cl B' F H' ul σ' tv ρ' G' us' ∧ OcP K cl B F ul tv W D (whileF f sf m ρ'), ⟨n, B, ρ, G, us, Kp.refl F B, r, p⟩, ?_⟩
  rintro m σ' H' ⟨B', ρ', G', us', k', r', p'⟩
  refine hc B' F H' ul σ' tv ρ' G' us' r' _ ?_
  cases m with
  | zero => exact p'.elim
  | succ m =>
    simp only [whileF] at p'
    split at p'
    · rename_i ρ1 e; rw [e]
      intro B1 H1 G1 us1 k1 r1
      refine iteT ⟨fun σ2 H2 => ∃ B2 ρ2 G2 us2, Kp F B B2 ∧ Rg K cl B2 F H2 ul σ2 tv ρ2 G2 us2 ∧ OcP K cl B F ul tv W D (whileF f sf m ρ2), fun σ2 H2 h => ⟨m, by omega, h⟩, hb B1 F H1 ul σ' tv ρ1 G1 us1 _ r1 ?_⟩
      split at p'
      · rename_i ρ2 e2; rw [e2]
        exact fun B2 H2 σ2 G2 us2 k2 r2 => ⟨B2, ρ2, G2, us2, (k'.trans k1).trans k2, r2, p'⟩
      · rename_i ρ2 e2; rw [e2]
        exact fun B2 H2 σ2 G2 us2 k2 r2 => ⟨B2, ρ2, G2, us2, (k'.trans k1).trans k2, r2, p'⟩
      · rename_i ρ2 e2; rw [e2]
        exact fun B2 H2 σ2 G2 us2 k2 r2 => p' B2 H2 σ2 G2 us2 ((k'.trans k1).trans k2) r2
      · rename_i y ρ2 e2; rw [e2]
        exact fun v B2 H2 σ2 G2 us2 k2 r2 => p' v B2 H2 σ2 G2 us2 ((k'.trans k1).trans k2) r2
      · rename_i C ρ2 e2; rw [e2]
        exact fun B2 H2 σ2 G2 us2 k2 r2 => p' B2 H2 σ2 G2 us2 ((k'.trans k1).trans k2) r2
      · exact p'.elim
    · rename_i ρ1 e; rw [e]
      exact fun B1 H1 G1 us1 k1 r1 => iteF (p' B1 H1 σ' G1 us1 (k'.trans k1) r1)
    · rename_i C ρ1 e; rw [e]
      exact fun B1 H1 G1 us1 k1 r1 => p' B1 H1 σ' G1 us1 (k'.trans k1) r1
    · exact p'.elim
end
/-! ### defs -/
def shiftS (N : Nat) : Sv → Sv
  | .pt (j :: r) => .pt ((N + j) :: r)
  | s => s
def lentF (N n : Nat) (ρ : Rh) : List T := (ρ.g.drop N).take n
/-- a def of np parameters, N slots, whose body is f -/
def runF (np N : Nat) (f : Rh → Option Oc) : Sem := fun ss g =>
  if ss.length = np then match f ⟨ss.map (fun s => some (shiftS N s)) ++ List.replicate (N - np) none, [], List.replicate N (.un ()) ++ g, N + g.length⟩ with
    | some (.nx ρ) => if ρ.bs = N + g.length then some (.vl (.s (.py .none)) (lentF N g.length ρ)) else none
    | some (.rt (.s (.py d)) ρ) => if ρ.bs = N + g.length then some (.vl (.s (.py d)) (lentF N g.length ρ)) else none
    | some (.rt (.s (.pt [i])) ρ) => if ρ.bs = N + g.length ∧ i < N then match ρ.g[i]? with
        | some (.nd a h cs) => some (.vl .own (lentF N g.length ρ ++ [.nd a h cs]))
        | _ => none
      else none
    | some (.rt .own ρ) => match ρ.g.getLast? with
      | some t => if ρ.bs = N + g.length ∧ ρ.bs < ρ.g.length then some (.vl .own (lentF N g.length ρ ++ [t])) else none
      | none => none
    | some (.ex C ρ) => if ρ.bs = N + g.length then some (.ex C (lentF N g.length ρ)) else none
    | _ => none
  else none
section
open PySem.Spec PyProof.Rows
variable {P : Program} {w : World} {K : PySem.W.Frag} {mg : Str → Option Value} {base : Heap}
/-- a def that may raise, by any wish about what leaves it -/
theorem Fun.okG {CX : CXT} {x qual : Str} {st : Stmt} {f : Addr} {fd : FuncData} {N ps : List Str} {k : Nat} {sp : Sp} (F : Fun K x qual st f fd) (S : FnScope N ps (defScope st)) (len : ∀ vs H Q E, sp vs H Q E → vs.length = ps.length)
    (hb : ∀ (cdv : Value) (A : Around) (outer : List Env) (s : Shared) (H : Hp) (vs : List V) (Q : VK) (E : XK), Room k (A.deeper (envOfC qual (defScope st) s.heap.objs.size f cdv)) → sp vs H Q E →
      ∃ t, PSs (cxOf CX P w K mg base N qual (defScope st) f cdv A outer s H E) (defBody st) t ∧ t { nx := fun _ H' => Q .non H', rt := Q } (L2.start N vs) H) : FnOk P w K mg base CX (k + 1) f fd ps sp := by
  obtain ⟨oc, od, kV, doc, pm, an, cdv, ct, osl, e, lk, hcd⟩ := F.ex
  subst e
  exact fn_of lk hcd S len (fun A outer s H vs Q E hr h => hb cdv A outer s H vs Q E hr h)
theorem ltall_un : ∀ (N : Nat) {B H : Hp}, LtAll K cl B H (List.replicate N V.non) (List.replicate N (TL.un V.non))
  | 0, _, _ => .nil
  | N + 1, _, _ => .cons .un (ltall_un N)
theorem addrs_un : ∀ (N : Nat) (G : List LT), addrsAll (List.replicate N (TL.un V.non) ++ G) = addrsAll G
  | 0, G => rfl
  | N + 1, G => by
    rw [List.replicate_succ, List.cons_append]
    simp only [addrsAll, TL.addrs, List.nil_append]
    exact addrs_un N G
theorem LtAll.take {B H : Hp} : ∀ (n : Nat) {vs : List V} {cs : List LT}, LtAll K cl B H vs cs → LtAll K cl B H (vs.take n) (cs.take n)
  | n, _, [], h => by cases h; simp; exact .nil
  | 0, _, c :: cs, h => by cases h; exact .nil
  | n + 1, _, c :: cs, h => by cases h with | cons a b => exact .cons a (LtAll.take n b)
theorem LtAll.drop {B H : Hp} : ∀ (n : Nat) {vs : List V} {cs : List LT}, LtAll K cl B H vs cs → LtAll K cl B H (vs.drop n) (cs.drop n)
  | n, _, [], h => by cases h; simp; exact .nil
  | 0, _, c :: cs, h => by cases h with | cons a b => exact .cons a b
  | n + 1, _, c :: cs, h => by cases h with | cons a b => exact LtAll.drop n b
theorem sub_take : ∀ (n : Nat) (cs : List LT), (addrsAll (cs.take n)).Sublist (addrsAll cs)
  | _, [] => by simp
  | 0, c :: cs => by simp [addrsAll]
  | n + 1, c :: cs => by simp only [List.take_succ_cons, addrsAll]; exact List.Sublist.append (List.Sublist.refl _) (sub_take n cs)
theorem sub_drop : ∀ (n : Nat) (cs : List LT), (addrsAll (cs.drop n)).Sublist (addrsAll cs)
  | _, [] => by simp
  | 0, c :: cs => by simp
  | n + 1, c :: cs => by simp only [List.drop_succ_cons, addrsAll]; exact (sub_drop n cs).trans (List.sublist_append_right _ _)
/-- the lent roots behind a body -/
theorem lent_back {B F H : Hp} {ul us : List V} {σ : L2.St} {ρ : Rh} {G : List LT} {N n : Nat} (r : Rg K cl B F H ul σ [] ρ G us) (hb : ρ.bs = N + n) (hn : ul.length = n) : Rl K cl B F H ((G.drop N).take n) ul ∧ ((G.drop N).take n).map TL.er = lentF N n ρ := by
  have h1 := r.bs
  have : σ.length = N := by omega
  subst this hn
  refine ⟨?_, by unfold lentF; rw [← r.er, List.map_take, List.map_drop]⟩
  have := LtAll.take ul.length (LtAll.drop σ.length r.rl.at_)
  rw [r.ul] at this
  have s := (sub_take ul.length (G.drop σ.length)).trans (sub_drop σ.length G)
  exact r.rl.re this (s.nodup r.rl.nod) fun q hq => s.subset hq
/-- and one more -/
theorem lent_more {B F H : Hp} {ul us : List V} {σ : L2.St} {ρ : Rh} {G : List LT} {N n i : Nat} {u : LT} {v : V} (r : Rg K cl B F H ul σ [] ρ G us) (hb : ρ.bs = N + n) (hn : ul.length = n) (hi : i < N ∨ N + n ≤ i) (hu : G[i]? = some u) (hv : us[i]? = some v) :
    Rl K cl B F H ((G.drop N).take n ++ [u]) (ul ++ [v]) := by
  obtain ⟨a1, a2⟩ := lent_back r hb hn
  obtain ⟨v', h1, h2⟩ := r.rl.at_.get hu
  rw [hv] at h1; cases h1
  have iG : i < G.length := (List.getElem?_eq_some_iff.mp hu).1
  have gi : G[i] = u := (List.getElem?_eq_some_iff.mp hu).2
  -- u stands apart
  have apart : (addrsAll ((G.drop N).take n) ++ u.addrs).Nodup := by
    have nod := r.rl.nod
    rcases hi with hi | hi
    · have e : G = G.take N ++ G.drop N := (List.take_append_drop N G).symm
      rw [e, addrsAll_append] at nod
      have m := List.nodup_append.mp nod
      have s1 := sub_take n (G.drop N)
      have uin : ∀ q ∈ u.addrs, q ∈ addrsAll (G.take N) := fun q hq => by
        have : (G.take N)[i]? = some u := by rw [List.getElem?_take_of_lt hi]; exact hu
        have := at_list (cl := fun _ => 0) (G.take N) i u this
        obtain ⟨A1, A2, e1, _⟩ := this
        rw [e1]; simp [hq]
      have nu : u.addrs.Nodup := by
        have : (G.take N)[i]? = some u := by rw [List.getElem?_take_of_lt hi]; exact hu
        obtain ⟨A1, A2, e1, _⟩ := at_list (cl := fun _ => 0) (G.take N) i u this
        have := m.1
        rw [e1] at this
        exact (List.nodup_append.mp (List.nodup_append.mp this).1).2.1
      exact List.nodup_append.mpr ⟨s1.nodup m.2.1, nu, fun a ha b hb z => m.2.2 b (uin b hb) a (s1.subset ha) z.symm⟩
    · have e : G = G.take (N + n) ++ G.drop (N + n) := (List.take_append_drop (N + n) G).symm
      rw [e, addrsAll_append] at nod
      have m := List.nodup_append.mp nod
      have e2 : (G.drop N).take n = (G.take (N + n)).drop N := by rw [List.drop_take]; congr 1; omega
      have s1 : (addrsAll ((G.drop N).take n)).Sublist (addrsAll (G.take (N + n))) := by rw [e2]; exact sub_drop N _
      have hd : (G.drop (N + n))[i - (N + n)]? = some u := by rw [List.getElem?_drop]; rw [show N + n + (i - (N + n)) = i by omega]; exact hu
      obtain ⟨A1, A2, e1, _⟩ := at_list (cl := fun _ => 0) _ _ u hd
      have nu : u.addrs.Nodup := by
        have := m.2.1
        rw [e1] at this
        exact (List.nodup_append.mp (List.nodup_append.mp this).1).2.1
      exact List.nodup_append.mpr ⟨s1.nodup m.1, nu, fun a ha b hb z => m.2.2 a (s1.subset ha) b (by rw [e1]; simp [hb]) z⟩
  refine r.rl.re (a1.at_.append (.cons h2 .nil)) (by rw [addrsAll_append]; simpa [addrsAll] using apart) fun q hq => ?_
  rw [addrsAll_append] at hq
  rcases List.mem_append.mp hq with h | h
  · exact ((sub_take n (G.drop N)).trans (sub_drop N G)).subset h
  · simp only [addrsAll, List.append_nil] at h
    obtain ⟨A1, A2, e1, _⟩ := at_list (cl := fun _ => 0) G i u hu
    rw [e1]; simp [h]
theorem def_ok {x qual : Str} {st : Stmt} {f : Addr} {fd : FuncData} {N ps : List Str} {k : Nat} {bf : Rh → Option Oc} (F : Fun K x qual st f fd) (S : FnScope N ps (defScope st)) (hN : ps.length ≤ N.length)
    (hbody : ∀ (cdv : Value) (A : Around) (outer : List Env) (s : Shared) (H : Hp) (E : XK), Room k (A.deeper (envOfC qual (defScope st) s.heap.objs.size f cdv)) →
      ∃ t, PSs (cxOf (L2N.CX P w) P w K mg base N qual (defScope st) f cdv A outer s H E) (defBody st) t ∧ Sx K cl (fun c d _ H => E c d H) t bf) :
    FnOk P w K mg base (L2N.CX P w) (k + 1) f fd ps (PSf K cl (runF ps.length N.length bf)) := by
  refine Fun.okG F S (fun vs H Q E h => ?_) (fun cdv A outer s H vs Q E hr h => ?_)
  · obtain ⟨B, F', G, us, ss, _, hl, _, hp⟩ := h
    rw [hl]
    unfold runF at hp
    split at hp
    · rename_i z; exact z
    · exact hp.elim
  · obtain ⟨t, ht, hx⟩ := hbody cdv A outer s H E hr
    refine ⟨t, ht, ?_⟩
    obtain ⟨B, F', G, us, ss, rl, hl, ha, hp⟩ := h
    unfold runF at hp
    split at hp
    · rename_i hss
      have hus : us.length = G.length := rl.at_.length
      have hst : (L2.start N vs).length = N.length := by
        simp [L2.start]; omega
      have r0 : Rg K cl B F' H us (L2.start N vs) [] ⟨ss.map (fun s => some (shiftS N.length s)) ++ List.replicate (N.length - ps.length) none, [], List.replicate N.length (.un ()) ++ G.map TL.er, N.length + (G.map TL.er).length⟩ (List.replicate N.length (TL.un V.non) ++ G) (List.replicate N.length V.non ++ us) := by
        refine ⟨by simp [TL.er], ⟨rl.exB, rl.exF, rl.out, (ltall_un N.length).append rl.at_, by rw [addrs_un]; exact rl.nod, fun q hq => rl.off q (by rw [addrs_un] at hq; exact hq)⟩, by simp [hst, hus], by simp, ?_, ⟨by simp [L2.start]; omega, fun i s h => ?_⟩, ⟨rfl, fun i s h => by simp at h⟩⟩
        · rw [hst, List.drop_left' (by simp)]; simp
        · have hi : i < ss.length := by
            refine Classical.byContradiction fun z => ?_
            rw [List.getElem?_append_right (by simp; omega)] at h
            rw [List.getElem?_replicate] at h
            split at h <;> cases h
          rw [List.getElem?_append_left (by simpa using hi), List.getElem?_map] at h
          rw [List.getElem?_eq_getElem hi] at h
          simp only [Option.map_some, Option.some.injEq] at h
          obtain ⟨v, h1, h2⟩ := ha i _ (List.getElem?_eq_getElem hi)
          refine ⟨v, ?_, ?_⟩
          · show (vs.map some ++ _)[i]? = _
            have hiv : i < vs.length := (List.getElem?_eq_some_iff.mp h1).1
            rw [List.getElem?_append_left (by simpa using hiv), List.getElem?_map, h1]; rfl
          · cases es : ss[i] with
            | py d => rw [es] at h h2; subst h; exact h2
            | «at» u => rw [es] at h h2; subst h; exact h2
            | pt π =>
              rw [es] at h h2
              cases π with
              | nil => subst h; simp [SvAt, pv, gget] at h2
              | cons j π =>
                subst h
                show pv _ ((N.length + j) :: π) = some v
                have h2 : pv G (j :: π) = some v := h2
                unfold pv at h2 ⊢
                simp only [gget] at h2 ⊢
                rw [List.getElem?_append_right (by simp)]
                simpa using h2
      refine hx B F' H us _ [] _ _ _ _ r0 ?_
      have hgl : (G.map TL.er).length = us.length := by simp [hus]
      split at hp
      · rename_i ρ e; rw [e]
        intro B' H' σ' G' us' kp r'
        split at hp
        · rename_i hb
          obtain ⟨a1, a2⟩ := lent_back r' hb hgl.symm
          exact hp .non B' H' _ us kp a1 a2 ⟨rfl, .non⟩
        · exact hp.elim
      · rename_i d ρ e; rw [e]
        intro v B' H' σ' G' us' kp r' hv
        split at hp
        · rename_i hb
          obtain ⟨a1, a2⟩ := lent_back r' hb hgl.symm
          exact hp v B' H' _ us kp a1 a2 ⟨rfl, hv⟩
        · exact hp.elim
      · rename_i i ρ e; rw [e]
        intro v B' H' σ' G' us' kp r' hv
        have hv : pv G' [i] = some v := hv
        split at hp
        · rename_i hb
          split at hp
          · rename_i a h cs eg
            obtain ⟨a1, a2⟩ := lent_back r' hb.1 hgl.symm
            unfold pv at hv
            simp only [gget] at hv
            cases eu : G'[i]? with
            | none => rw [eu] at hv; cases hv
            | some u =>
              rw [eu] at hv
              obtain ⟨v', h1, h2⟩ := r'.rl.at_.get eu
              have ev : v' = v := by
                cases u with
                | un => cases hv
                | py => cases hv
                | nd q hd c => cases h2; simp only [TL.get, Option.bind, lref] at hv; cases hv; rfl
              subst ev
              have rl2 := lent_more r' hb.1 hgl.symm (.inl hb.2) eu h1
              refine hp v' B' H' _ (us ++ [v']) kp rl2 ?_ rfl
              rw [List.map_append, a2]
              have : u.er = .nd a h cs := by
                have := r'.er
                rw [← this, List.getElem?_map, eu] at eg
                simpa using eg
              simp [this]
          · exact hp.elim
        · exact hp.elim
      · rename_i ρ e; rw [e]
        intro v B' H' σ' G' us' kp r' hv
        split at hp
        · rename_i t' et
          split at hp
          · rename_i hb
            obtain ⟨a1, a2⟩ := lent_back r' hb.1 hgl.symm
            obtain ⟨G0, u, us0, rfl, rfl, eu, hl0⟩ := r'.lastRoot hv et
            have hgl2 : ρ.g.length = G0.length + 1 := by rw [r'.gl]; simp
            have rl2 := lent_more (i := G0.length) (u := u) (v := v) r' hb.1 hgl.symm (.inr (by have := hb.1; have := hb.2; omega)) (by simp) (by rw [← hl0]; simp)
            refine hp v B' H' _ (us ++ [v]) kp rl2 ?_ rfl
            rw [List.map_append, a2]
            simp [eu]
          · exact hp.elim
        · exact hp.elim
      · rename_i C ρ e; rw [e]
        intro B' H' σ' G' us' kp r'
        split at hp
        · rename_i hb
          obtain ⟨a1, a2⟩ := lent_back r' hb hgl.symm
          exact hp B' H' _ kp a1 a2
        · exact hp.elim
      · exact hp.elim
    · exact hp.elim
end
end Fx

/-! Calls that change nothing; comprehensions. -/
namespace Fx
open PySem L2
open Evl (Ex)
variable {cl : String → Addr}
def minus (H : Hp) (D : Addr) : Hp := fun q => if q = D then none else H q
theorem minus_same {H : Hp} {D : Addr} : minus H D D = none := if_pos rfl
theorem minus_ne {H : Hp} {D q : Addr} (h : q ≠ D) : minus H D q = H q := if_neg h
theorem minus_upd {H : Hp} {D : Addr} {o : HO} (h : H D = some o) : upd (minus H D) D o = H := by
  funext q
  by_cases z : q = D
  · subst z; rw [upd_same, h]
  · rw [upd_ne z, minus_ne z]
theorem upd_minus {H : Hp} {D : Addr} {o u : HO} : upd (minus (upd H D o) D) D u = upd H D u := by
  funext q
  by_cases z : q = D
  · subst z; rw [upd_same, upd_same]
  · rw [upd_ne z, upd_ne z, minus_ne z, upd_ne z]
theorem Gw.minus {B H B' H' : Hp} {D : Addr} (g : Gw B H B' H') (h : H D = none) (hb : B' D = none) : Gw B H B' (Fx.minus H' D) := ⟨g.b, fun q o e => by
    have z : q ≠ D := fun z => by subst z; rw [h] at e; cases e
    rw [minus_ne z]; exact g.h q o e, fun q o e => by
    have z : q ≠ D := fun z => by subst z; rw [hb] at e; cases e
    rw [minus_ne z]; exact g.exB q o e, g.new, fun q o e1 e2 => by
    have z : q ≠ D := fun z => by subst z; rw [minus_same] at e1; cases e1
    rw [minus_ne z] at e1; exact g.out q o e1 e2⟩
theorem Node.keep' {K : PySem.W.Frag} {B H B' : Hp} {p : Addr} {vs : List V} (hb : B' p = none) : ∀ {h : Hd}, h.own = true → Node K cl B H p h vs → Node K cl B' H p h vs
  | .lst, _, ⟨a, b⟩ => ⟨hb, b⟩
  | .dct ks, _, ⟨a, l, n, b⟩ => ⟨hb, l, n, b⟩
  | .ddt ks, _, ⟨a, l, n, b⟩ => ⟨hb, l, n, b⟩
  | .lok ks, _, ⟨a, l, n, b⟩ => ⟨hb, l, n, b⟩
  | .ins C fs, _, ⟨a, l, b⟩ => ⟨hb, l, b⟩
  | .tup, z, _ => by cases z
section
variable {K : PySem.W.Frag} {W : WX} {te ta tb tk tv to : TE} {tr : TA} {af : Rh → Option (List PyData)} {sem : Sem} {E : St → XK} {f g : Rh → Option Sv} {bf : Rh → Option Bool} {tt : TT} {wi : TI} {gt : TG}
/-! ### calls of defs over data -/
def dCall (sem : Sem) (af : Rh → Option (List PyData)) (ρ : Rh) : Option PyData := match af ρ with
  | some ds => match sem (ds.map Sv.py) [] with
    | some (.vl (.s (.py d)) []) => some d
    | _ => none
  | none => none
def nCall (sem : Sem) (af : Rh → Option (List PyData)) (ρ : Rh) : Option (Hd × List PyData) := match af ρ with
  | some ds => match sem (ds.map Sv.py) [] with
    | some (.vl .own [.nd _ h cs]) => match pyAll cs with
      | some es => if noLists es && h.own then some (h, es) else none
      | none => none
    | _ => none
  | none => none
/-- what is new behind a call that was shown all that stood -/
noncomputable def joinB (B H B2 : Hp) : Hp := fun q => if (H q).isNone then B2 q else B q
theorem joinB_new {B H B2 : Hp} {q : Addr} (h : H q = none) : joinB B H B2 q = B2 q := by unfold joinB; rw [h]; rfl
theorem joinB_old {B H B2 : Hp} {q : Addr} (h : H q ≠ none) : joinB B H B2 q = B q := by
  unfold joinB
  rw [if_neg]
  cases z : H q with
  | none => exact absurd z h
  | some => simp
theorem join_gw {B F H B2 H2 : Hp} {G G2 : List LT} {us us2 : List V} (r : Rl K cl B F H G us) (k : Kp H H B2) (r2 : Rl K cl B2 H H2 G2 us2) : Gw B H (joinB B H B2) H2 := by
  have eH : Ex H H2 := k.b.trans r2.exB
  refine ⟨fun q o e => ?_, eH, fun q o e => ?_, fun q h1 h2 => by rw [joinB_old h1]; exact h2, fun q o h1 h2 => ?_⟩
  · rw [joinB_old (by rw [r.exB q o e]; simp)]; exact e
  · cases z : H q with
    | none => rw [joinB_new z] at e; exact r2.exB q o e
    | some u => rw [joinB_old (by rw [z]; simp)] at e; exact eH q o (r.exB q o e)
  · cases z : H q with
    | none => rw [joinB_new z] at h2; exact .inr (r2.out q o h1 h2)
    | some u => rw [eH q u z] at h1; cases h1; exact .inl rfl
theorem map_get {ds : List PyData} {vs : List V} {H : Hp} {G : List LT} (a : DpAll K H vs ds) : vs.length = (ds.map Sv.py).length ∧ ∀ (i : Nat) (s : Sv), (ds.map Sv.py)[i]? = some s → ∃ v, vs[i]? = some v ∧ SvAt K H G v s := by
  refine ⟨by rw [List.length_map]; exact DpAll.length a, fun i s h => ?_⟩
  rw [List.getElem?_map] at h
  cases e : ds[i]? with
  | none => rw [e] at h; cases h
  | some d =>
    rw [e] at h
    cases h
    obtain ⟨v, h1, h2⟩ := DpAll.get a e
    exact ⟨v, h1, h2⟩
theorem dv_call (ha : Da K cl tr af) : Dv K cl (tCallSD (PSf K cl sem) [] E tr) (dCall sem af) := fun B F H ul σ tv ρ G us d r e Q q => by
  unfold dCall at e
  split at e
  · rename_i ds h1
    refine ha B F H ul σ tv ρ G us ds r h1 _ fun vs B1 H1 w hv => ?_
    rw [List.append_nil]
    split at e
    · rename_i d' es
      cases e
      obtain ⟨m1, m2⟩ := map_get (G := []) hv
      refine ⟨H1, H1, [], [], ds.map Sv.py, ⟨Evl.Ex.refl _, Evl.Ex.refl _, (fun q o e1 e2 => by rw [e1] at e2; cases e2), .nil, List.nodup_nil, fun q h => by simp [addrsAll] at h⟩, m1, m2, ?_⟩
      rw [show ([] : List LT).map TL.er = [] from rfl, es]
      rintro v B2 H2 G2 us2 k r2 em ⟨hu, hd⟩
      exact q v _ H2 (w.trans (join_gw (r.grow w).rl k r2)) (r2.up hd)
    · cases e
  · cases e
theorem nv_call (ha : Da K cl tr af) : Nv K cl (tCallSD (PSf K cl sem) [] E tr) (nCall sem af) := fun B F H ul σ tv ρ G us hd ds0 r e Q q => by
  unfold nCall at e
  split at e
  · rename_i ds h1
    refine ha B F H ul σ tv ρ G us ds r h1 _ fun vs B1 H1 w hv => ?_
    rw [List.append_nil]
    split at e
    · rename_i a h cs es
      split at e
      · rename_i es' ee
        split at e
        · rename_i hc
          simp only [Bool.and_eq_true] at hc
          cases e
          obtain ⟨m1, m2⟩ := map_get (G := []) hv
          refine ⟨H1, H1, [], [], ds.map Sv.py, ⟨Evl.Ex.refl _, Evl.Ex.refl _, (fun q o e1 e2 => by rw [e1] at e2; cases e2), .nil, List.nodup_nil, fun q h => by simp [addrsAll] at h⟩, m1, m2, ?_⟩
          rw [show ([] : List LT).map TL.er = [] from rfl, es]
          intro v B2 H2 G2 us2 k r2 em hu
          have hu : us2 = [] ++ [v] := hu
          subst hu
          have r1 := r.grow w
          have gw := join_gw r1.rl k r2
          cases G2 with
          | nil => cases em
          | cons u G3 =>
            simp only [List.map_cons, List.cons.injEq] at em
            obtain ⟨eu, em⟩ := em
            have : G3 = [] := by simpa using em
            subst this
            cases u with
            | un => cases eu
            | py => cases eu
            | nd p hd' cs' =>
              simp only [TL.er, TL.nd.injEq] at eu
              obtain ⟨_, rfl, rfl⟩ := eu
              have := pyAll_of ee
              subst this
              have hat := r2.at_
              cases hat with
              | cons x1 x2 =>
                cases x1 with
                | nd hn hcs =>
                  rename_i zs
                  have hpf : H1 p = none := r2.off p (by simp [addrsAll, TL.addrs, hc.2])
                  obtain ⟨hb2, o, ho, own⟩ := hn.own hc.2
                  have hj : joinB B1 H1 B2 p = none := by rw [joinB_new hpf]; exact hb2
                  have gm := gw.minus hpf hj
                  have kt : KeepT K B2 (joinB B1 H1 B2) := fun a xs h => by
                    have step : ∀ o, B2 a = some o → (∀ ys, o = .tup ys → True) → (SqT K B2 a xs → SqT K (joinB B1 H1 B2) a xs) := by
                      intro o e1 _ h
                      cases z : H1 a with
                      | none =>
                        rcases h with (h | ⟨ob, h⟩) | h
                        · exact .inl (.inl (by rw [joinB_new z]; exact h))
                        · exact .inl (.inr ⟨ob, by rw [joinB_new z]; exact h⟩)
                        · exact .inr h
                      | some u =>
                        have e2 := k.b a u z
                        have : SqT K H1 a xs := by
                          rcases h with (h | ⟨ob, h⟩) | h
                          · rw [e2] at h; exact .inl (.inl (by rw [z]; exact h))
                          · rw [e2] at h; exact .inl (.inr ⟨ob, by rw [z]; exact h⟩)
                          · exact .inr h
                        rcases r1.rl.keepT a xs this with (h | ⟨ob, h⟩) | h
                        · exact .inl (.inl (by rw [joinB_old (by rw [z]; simp)]; exact h))
                        · exact .inl (.inr ⟨ob, by rw [joinB_old (by rw [z]; simp)]; exact h⟩)
                        · exact .inr h
                    rcases h with (h | ⟨ob, h⟩) | h
                    · exact step _ h (fun _ _ => trivial) (.inl (.inl h))
                    · exact step _ h (fun _ _ => trivial) (.inl (.inr ⟨ob, h⟩))
                    · exact .inr h
                  have := q p zs (joinB B1 H1 B2) (minus H2 p) o (w.trans gm) minus_same hc.2 own (by rw [minus_upd ho]; exact Node.keep' hj hc.2 hn) (DpAll.keepT kt _ _ hc.1 hcs.py)
                  rw [minus_upd ho] at this
                  exact this
        · cases e
      · cases e
    · cases e
  · cases e
/-! ### what is walked -/
/-- the data ds, one after the other, while what stood in H1 stands -/
def IsIt (K : PySem.W.Frag) (J : It) (B1 H1 : Hp) (ds : List PyData) : Prop := ∀ B' H', Ex B1 B' → Ex H1 H' → Ex B' H' → (∀ q o, H' q = some o → B' q = none → OwnO o) →
  (∀ (i : Nat) (d : PyData), ds[i]? = some d → J.go i H' ∧ ∀ x H2, J.yld i H' x H2 → ∃ B2, Gw B' H' B2 H2 ∧ Dp K B2 x d) ∧ J.stop ds.length H'
/-- the same, while what stood in B1 stands -/
def IsItS (K : PySem.W.Frag) (J : It) (B1 : Hp) (ds : List PyData) : Prop := ∀ B' H', Ex B1 B' → Ex B' H' → (∀ q o, H' q = some o → B' q = none → OwnO o) →
  (∀ (i : Nat) (d : PyData), ds[i]? = some d → J.go i H' ∧ ∀ x H2, J.yld i H' x H2 → ∃ B2, Gw B' H' B2 H2 ∧ Dp K B2 x d) ∧ J.stop ds.length H'
def Iv (K : PySem.W.Frag) (cl : String → Addr) (wi : TI) (f : Rh → Option (List PyData)) : Prop := ∀ (B F H : Hp) (ul : List V) (σ : St) (tv : List V) (ρ : Rh) (G : List LT) (us : List V) (ds : List PyData), Rg K cl B F H ul σ tv ρ G us → f ρ = some ds →
  ∀ R : It → Hp → Prop, (∀ J B1 H1, Gw B H B1 H1 → IsIt K J B1 H1 ds → R J H1) → wi σ H R
def IvS (K : PySem.W.Frag) (cl : String → Addr) (wi : TI) (f : Rh → Option (List PyData)) : Prop := ∀ (B F H : Hp) (ul : List V) (σ : St) (tv : List V) (ρ : Rh) (G : List LT) (us : List V) (ds : List PyData), Rg K cl B F H ul σ tv ρ G us → f ρ = some ds →
  ∀ R : It → Hp → Prop, (∀ J B1 H1, Gw B H B1 H1 → IsItS K J B1 ds → R J H1) → wi σ H R
theorem Iv.of {f : Rh → Option (List PyData)} (h : IvS K cl wi f) : Iv K cl wi f := fun B F H ul σ tv ρ G us ds r e R q => h B F H ul σ tv ρ G us ds r e R fun J B1 H1 w k => q J B1 H1 w fun B' H' a b c d => k B' H' a c d
def iL (f : Rh → Option PyData) (ρ : Rh) : Option (List PyData) := match f ρ with
  | some (.list ds) => some ds
  | _ => none
def iLn (f : Rh → Option PyData) (ρ : Rh) : Option (List PyData) := match f ρ with
  | some (.list ds) => if noLists ds then some ds else none
  | _ => none
def iT (f : Rh → Option PyData) (ρ : Rh) : Option (List PyData) := match f ρ with
  | some (.tuple ds) => some ds
  | _ => none
def iR (f : Rh → Option (List PyData)) (ρ : Rh) : Option (List PyData) := match f ρ with
  | some as => rngF as
  | none => none
theorem iv_l (h : Pv K cl te f) : IvS K cl (iList K te) (iL (vPy f)) := fun B F H ul σ tv ρ G us ds r e R q => by
  unfold iL vPy at e
  split at e
  · rename_i ds' e1
    cases e
    split at e1
    · rename_i d e2
      cases e1
      refine h B F H ul σ tv ρ G us _ r e2 _ fun v B1 H1 w hv => ?_
      have hv : Dp K B1 v (.list ds) := hv
      cases hv with
      | @lst a xs _ s1 a1 =>
        refine ⟨_, rfl, ⟨_, Evl.ex_l (r.grow w).rl.exB s1⟩, q _ B1 H1 w fun B' H' e1 e3 e4 => ⟨fun i d hd => ?_, ?_⟩⟩
        · obtain ⟨x, h1, h2⟩ := DpAll.get a1 hd
          have sq := Evl.ex_l (e1.trans e3) s1
          exact ⟨⟨xs, x, sq, h1⟩, fun y H2 ⟨z1, z2⟩ => by
            subst z1
            have := z2 xs sq
            rw [h1] at this; cases this
            exact ⟨B', Gw.refl e3, Dp.mono e1 _ _ h2⟩⟩
        · exact ⟨xs, Evl.ex_l (e1.trans e3) s1, by rw [DpAll.length a1]; exact Nat.le_refl _⟩
    · cases e1
  · cases e
theorem own_ne {o : HO} (h : OwnO o) : (∀ ys, o ≠ .tup ys) ∧ ∀ ob ys, o ≠ .frz ob (.tup ys) := by
  refine ⟨fun ys z => ?_, fun ob ys z => ?_⟩ <;> subst z <;> rcases h with ⟨_, z⟩ | ⟨_, z⟩ | ⟨_, z⟩ | ⟨_, _, _, z⟩ | ⟨_, _, z⟩ <;> cases z
theorem keepT_out {B H : Hp} (e : Ex B H) (o : ∀ q o, H q = some o → B q = none → OwnO o) : KeepT K H B := fun a xs h => by
  rcases h with (h | ⟨ob, h⟩) | h
  · refine .inl (.inl ?_)
    cases z : B a with
    | none => exact absurd rfl ((own_ne (o a _ h z)).1 xs)
    | some u => rw [e a u z] at h; exact h
  · refine .inl (.inr ⟨ob, ?_⟩)
    cases z : B a with
    | none => exact absurd rfl ((own_ne (o a _ h z)).2 ob xs)
    | some u => rw [e a u z] at h; exact h
  · exact .inr h
theorem iv_ln {df : Rh → Option PyData} (h : Dv K cl te df) : Iv K cl (iList K te) (iLn df) := fun B F H ul σ tv ρ G us ds r e R q => by
  unfold iLn at e
  split at e
  · rename_i ds' e1
    split at e
    · rename_i hn
      cases e
      refine h B F H ul σ tv ρ G us _ r e1 _ fun v B1 H1 w hv => ?_
      cases hv with
      | @lst a xs _ s1 a1 =>
        refine ⟨_, rfl, ⟨_, s1⟩, q _ B1 H1 w fun B' H' e1 e2 e3 e4 => ⟨fun i d hd => ?_, ?_⟩⟩
        · obtain ⟨x, h1, h2⟩ := DpAll.get a1 hd
          have sq := Evl.ex_l e2 s1
          exact ⟨⟨xs, x, sq, h1⟩, fun y H2 ⟨z1, z2⟩ => by
            subst z1
            have := z2 xs sq
            rw [h1] at this; cases this
            exact ⟨B', Gw.refl e3, Dp.keepT (keepT_out e3 e4) _ _ (noLists_mem hn (List.mem_of_getElem? hd)) (Dp.mono e2 _ _ h2)⟩⟩
        · exact ⟨xs, Evl.ex_l e2 s1, by rw [DpAll.length a1]; exact Nat.le_refl _⟩
    · cases e
  · cases e
theorem iv_t (h : Pv K cl te f) : IvS K cl (iTup K te) (iT (vPy f)) := fun B F H ul σ tv ρ G us ds r e R q => by
  unfold iT vPy at e
  split at e
  · rename_i ds' e1
    cases e
    split at e1
    · rename_i d e2
      cases e1
      refine h B F H ul σ tv ρ G us _ r e2 _ fun v B1 H1 w hv => ?_
      have hv : Dp K B1 v (.tuple ds) := hv
      cases hv with
      | @tup a xs _ s1 a1 =>
        refine ⟨_, rfl, ⟨_, Evl.ex_t (r.grow w).rl.exB s1⟩, q _ B1 H1 w fun B' H' e1 e3 e4 => ⟨fun i d hd => ?_, ?_⟩⟩
        · obtain ⟨x, h1, h2⟩ := DpAll.get a1 hd
          have sq := Evl.ex_t (e1.trans e3) s1
          exact ⟨⟨xs, x, sq, h1⟩, fun y H2 ⟨z1, z2⟩ => by
            subst z1
            have := z2 xs sq
            rw [h1] at this; cases this
            exact ⟨B', Gw.refl e3, Dp.mono e1 _ _ h2⟩⟩
        · exact ⟨xs, Evl.ex_t (e1.trans e3) s1, by rw [DpAll.length a1]; exact Nat.le_refl _⟩
    · cases e1
  · cases e
theorem iv_r (h : Da K cl tr af) : IvS K cl (iRng1 tr) (iR af) := fun B F H ul σ tv ρ G us ds r e R q => by
  unfold iR at e
  split at e
  · rename_i as e1
    unfold rngF at e
    split at e
    · rename_i n
      split at e
      · rename_i hn
        cases e
        refine h B F H ul σ tv ρ G us _ r e1 _ fun vs B1 H1 w hv => ?_
        cases hv with
        | cons a b =>
          cases a
          cases b
          refine ⟨n, rfl, hn.1, hn.2, q _ B1 H1 w fun B' H' e1 e3 e4 => ⟨fun i d hd => ?_, ?_⟩⟩
          · rw [List.getElem?_map] at hd
            cases hr : (List.range n.toNat)[i]? with
            | none => rw [hr] at hd; cases hd
            | some k =>
              rw [hr] at hd
              have hi : i < n.toNat := by have := (List.getElem?_eq_some_iff.mp hr).1; simpa using this
              have hk : k = i := by
                rw [List.getElem?_range hi] at hr; cases hr; rfl
              subst hk
              cases hd
              exact ⟨hi, fun x H2 ⟨z1, z2⟩ => by subst z1 z2; rw [Int.zero_add]; exact ⟨B', Gw.refl e3, .int _⟩⟩
          · show n.toNat ≤ _
            simp
      · cases e
    · cases e
  · cases e
/-! ### comprehensions whose parts change nothing -/
def wipeR (ρ : Rh) (vs : List Nat) : Rh := { ρ with sl := vs.foldr (fun i s => s.set i none) ρ.sl }
/-- a target of a comprehension with the names vs -/
def Tw (K : PySem.W.Frag) (cl : String → Addr) (g : TG) (vs : List Nat) (f : Sv → Rh → Option Rh) : Prop := ∀ (B F H : Hp) (ul : List V) (σ : St) (tv : List V) (ρ ρ' : Rh) (G : List LT) (us : List V) (v : V) (s : Sv), Rg K cl B F H ul (L2.wipe σ vs) tv ρ G us → SvAt K B G v s → f s ρ = some ρ' →
  ∀ Q : St → Hp → Prop, (∀ σ', L2.wipe σ' vs = L2.wipe σ vs → Rg K cl B F H ul σ' tv ρ' G us → Q σ' H) → g v (L2.wipe σ vs) H Q
theorem Rg.wipe {B F H : Hp} {ul tv us : List V} {σ : St} {ρ : Rh} {G : List LT} (r : Rg K cl B F H ul σ tv ρ G us) : ∀ vs : List Nat, Rg K cl B F H ul (L2.wipe σ vs) tv (wipeR ρ vs) G us
  | [] => r
  | v :: vs => by
    have h := Rg.wipe r vs
    exact ⟨h.er, h.rl, by show ((L2.wipe σ vs).set v none).length + _ = _; rw [List.length_set]; exact h.bs, h.le, by show (us.drop ((L2.wipe σ vs).set v none).length).take _ = _; rw [List.length_set]; exact h.ul, h.sl.forget, h.tm⟩
theorem wipe_one {σ : St} {j : Nat} {x : V} : L2.wipe ((L2.wipe σ [j]).set j (some x)) [j] = L2.wipe σ [j] := by
  show (((σ.set j none).set j (some x)).set j none) = σ.set j none
  rw [List.set_set, List.set_set]
theorem tw_n (j : Nat) : Tw K cl (gName j) [j] (gN j) := fun B F H ul σ tv ρ ρ' G us v s r hv e Q q => by
  cases e
  exact q _ wipe_one (r.set j hv)
theorem set_comm_none {l : List (Option V)} {i j : Nat} {a b : Option V} (h : i ≠ j) : (l.set i a).set j b = (l.set j b).set i a := List.set_comm _ _ h
theorem wipe_two {σ : St} {i j : Nat} (h : i ≠ j) {x y : V} : L2.wipe (((L2.wipe σ [i, j]).set i (some x)).set j (some y)) [i, j] = L2.wipe σ [i, j] := by
  show ((((((σ.set j none).set i none).set i (some x)).set j (some y)).set j none).set i none) = (σ.set j none).set i none
  rw [List.set_set, List.set_set, List.set_comm _ _ h, List.set_set, List.set_set]
/-- a, b -/
theorem tw_2 {i j : Nat} (h : i ≠ j) : Tw K cl (gTup K 2 (gCons (gName i) (gCons (gName j) gNil))) [i, j] (gTu 2 (gTC (gN i) (gTC (gN j) gT0))) := fun B F H ul σ tv ρ ρ' G us v s r hv e Q q => by
  unfold gTu at e
  split at e
  · rename_i ds
    split at e
    · rename_i hn
      have hv : Dp K B v (.tuple ds) := hv
      match ds, hn with
      | [d1, d2], _ =>
        simp only [gTC, gN, gT0, Option.some.injEq] at e
        subst e
        cases hv with
        | tup s1 a1 =>
          cases a1 with
          | cons x1 a1 =>
            cases a1 with
            | cons x2 a1 =>
              cases a1
              refine ⟨_, _, rfl, Evl.ex_t r.rl.exB s1, rfl, _, _, rfl, _, _, rfl, rfl, ?_⟩
              have r1 := r.set (s := .py d1) i x1
              have r2 := r1.set (s := .py d2) j x2
              exact q _ (wipe_two h) r2
    · cases e
  · cases e
def collect (tg : Sv → Rh → Option Rh) (c : Rh → Option Bool) (e : Rh → Option Sv) (ρ : Rh) : List PyData → Option (List PyData)
  | [] => some []
  | d :: ds => match tg (.py d) ρ with
    | some ρ1 => match c ρ1 with
      | some true => match e ρ1 with
        | some (.py x) => match collect tg c e ρ ds with
          | some xs => some (x :: xs)
          | none => none
        | _ => none
      | some false => collect tg c e ρ ds
      | none => none
    | none => none
def bYes (_ : Rh) : Option Bool := some true
theorem pt_yes : Pt K cl tYes bYes := fun B F H ul σ tv ρ G us b r e Q q => by cases e; exact q B H (Gw.refl r.rl.exB)
def nLc (vs : List Nat) (it : Rh → Option (List PyData)) (tg : Sv → Rh → Option Rh) (c : Rh → Option Bool) (e : Rh → Option Sv) (ρ : Rh) : Option (Hd × List PyData) := match it ρ with
  | some ds => if ds.length ≤ 100000 then match collect tg c e (wipeR ρ vs) ds with
      | some xs => some (.lst, xs)
      | none => none
    else none
  | none => none
theorem collect_take {tg : Sv → Rh → Option Rh} {c : Rh → Option Bool} {e : Rh → Option Sv} {ρ : Rh} : ∀ {ds : List PyData} {xs : List PyData}, collect tg c e ρ ds = some xs → xs.length ≤ ds.length
  | [], xs, h => by simp only [collect, Option.some.injEq] at h; subst h; simp
  | d :: ds, xs, h => by
    simp only [collect] at h
    split at h
    · split at h
      · split at h
        · split at h
          · rename_i ys hy
            cases h
            have := collect_take hy
            simp; omega
          · cases h
        · cases h
      · have := collect_take h
        simp; omega
      · cases h
    · cases h
theorem nv_lc {vs : List Nat} {it : Rh → Option (List PyData)} {fg : Sv → Rh → Option Rh} (hi : Iv K cl wi it) (hg : Tw K cl gt vs fg) (hc : Pt K cl tt bf) (he : Pv K cl te f) : Nv K cl (tLc wi gt tt te vs) (nLc vs it fg bf f) := fun B F H ul σ tv ρ G us hd ds0 r e0 Q q => by
  unfold nLc at e0
  split at e0
  · rename_i ds e1
    split at e0
    · rename_i hlen
      split at e0
      · rename_i xs0 e2
        cases e0
        refine hi B F H ul σ tv ρ G us ds r e1 _ fun J B1 H1 w hJ => ?_
        intro D hD
        have r1 := r.grow w
        -- what holds between the turns
        refine ⟨fun i m H' => ∃ B' H0 as xs done, m = ds.length - i ∧ i ≤ ds.length ∧ Gw B1 H1 B' H0 ∧ H0 D = none ∧ H' = upd H0 D (.lst xs) ∧ DpAll K B' xs done ∧ done.length ≤ i ∧ collect fg bf f (wipeR ρ vs) (ds.drop i) = some as ∧ ds0 = done ++ as,
          ⟨_, B1, H1, ds0, [], [], rfl, Nat.zero_le _, Gw.refl r1.rl.exB, hD, rfl, .nil, Nat.le_refl _, by simpa using e2, rfl⟩, ?_⟩
        rintro i m H' ⟨B', H0, as, xs, done, rfl, hi, g0, h0, rfl, a0, hdl, ec, ed⟩
        have ow : OwnO (.lst xs) := .inl ⟨_, rfl⟩
        have g1 : Gw B' H0 B' (upd H0 D (.lst xs)) := Gw.ow g0.exB h0 ow
        have r2 := (r1.grow g0).grow g1
        have hJ' := hJ B' (upd H0 D (.lst xs)) g0.b (g0.h.trans g1.h) r2.rl.exB r2.rl.out
        by_cases hlt : i < ds.length
        · rw [List.drop_eq_getElem_cons hlt] at ec
          obtain ⟨go, yl⟩ := hJ'.1 i _ (List.getElem?_eq_getElem hlt)
          refine .inr ⟨go, fun H' => ∃ B' H0 as xs done, Gw B1 H1 B' H0 ∧ H0 D = none ∧ H' = upd H0 D (.lst xs) ∧ DpAll K B' xs done ∧ done.length ≤ i + 1 ∧ collect fg bf f (wipeR ρ vs) (ds.drop (i + 1)) = some as ∧ ds0 = done ++ as,
            fun H' ⟨B', H0, as, xs, done, z1, z2, z3, z4, z5, z6, z7⟩ => ⟨ds.length - (i + 1), by omega, B', H0, as, xs, done, rfl, by omega, z1, z2, z3, z4, z5, z6, z7⟩, fun x H2 hy => ?_⟩
          obtain ⟨B2, w2, hx⟩ := yl x H2 hy
          have r3 := r2.grow w2
          simp only [collect] at ec
          split at ec
          · rename_i ρ1 et
            refine hg B2 F H2 ul σ tv _ ρ1 G us x (.py ds[i]) (r3.wipe vs) hx et _ fun σ2 hw2 r4 => ⟨hw2, ?_⟩
            have hD2 : H2 D = some (.lst xs) := w2.h D _ upd_same
            have hB' : B' D = none := free_of g0.exB h0
            have fin : ∀ {B3 H3 : Hp}, Gw B2 H2 B3 H3 → H3 D = some (.lst xs) ∧ B3 D = none ∧ Gw B1 H1 B3 (minus H3 D) := fun {B3 H3} w3 => by
              have hB2 : B2 D = none := w2.new D (by rw [upd_same]; simp) hB'
              have hB3 : B3 D = none := w3.new D (by rw [hD2]; simp) hB2
              exact ⟨w3.h D _ hD2, hB3, ((g0.trans g1).trans (w2.trans w3)).minus hD hB3⟩
            split at ec
            · rename_i ebt
              refine hc B2 F H2 ul σ2 tv ρ1 G us true r4 ebt _ fun B3 H3 w3 => ?_
              rw [if_pos rfl]
              split at ec
              · rename_i y ey
                split at ec
                · rename_i ys eys
                  cases ec
                  refine he B3 F H3 ul σ2 tv ρ1 G us _ (r4.grow w3) ey _ fun v B4 H4 w4 hv => ?_
                  obtain ⟨f1, f2, f3⟩ := fin (w3.trans w4)
                  have hl := DpAll.length a0
                  refine ⟨xs, f1, Nat.lt_of_le_of_lt (m := 100000) (by omega) (by decide), B4, minus H4 D, ys, xs ++ [v], done ++ [y], f3, minus_same, ?_, ?_, by simp; omega, eys, by simp [ed]⟩
                  · have := minus_upd f1
                    conv => lhs; rw [← this]
                    funext q
                    by_cases z : q = D
                    · subst z; rw [upd_same, upd_same]
                    · rw [upd_ne z, upd_ne z, upd_ne z]
                  · exact DpAll.snoc_of (DpAll.mono ((w2.trans w3).trans w4).b _ _ a0) hv
                · cases ec
              · cases ec
            · rename_i ebf
              refine hc B2 F H2 ul σ2 tv ρ1 G us false r4 ebf _ fun B3 H3 w3 => ?_
              rw [if_neg (by simp)]
              obtain ⟨f1, f2, f3⟩ := fin w3
              exact ⟨B3, minus H3 D, as, xs, done, f3, minus_same, (minus_upd f1).symm, DpAll.mono (w2.trans w3).b _ _ a0, by omega, ec, ed⟩
            · cases ec
          · cases ec
        · have : i = ds.length := by omega
          subst this
          rw [List.drop_length] at ec
          simp only [collect, Option.some.injEq] at ec
          subst ec
          rw [List.append_nil] at ed
          subst ed
          exact .inl ⟨hJ'.2, q D xs B' H0 (.lst xs) (w.trans g0) h0 rfl ow ⟨free_of g0.exB h0, upd_same⟩ a0⟩
      · cases e0
    · cases e0
  · cases e0
end
end Fx

/-! Rules for calls whose errors hang on the slots; built-ins; raise, try. -/
namespace Fx
open PySem L2
open PySem.Spec PyProof.Rows
open Evl (Ex)
variable {cl : String → Addr}
section
variable {X : Cx} {CX : CXT} {k : Nat} {f C : Addr} {fd : FuncData} {ps : List Str} {sp : Sp} {dvs : List V} {ds : List Value} {E : L2.St → XK} {x m : Str} {p pos apos : Pos} {e o : Expr} {es : List Expr} {ta : TE} {t : TA}
theorem pe_call0SD (F : FnOk X.prog X.w X.K X.mg X.base CX k f fd ps sp) (hr : Room k X.A) (hg : Gl X x) (hm : X.mg x = some (.ref f)) (hk : PySem.W.keepIn X.K (.ref f) = true) (hb : Binds X.K fd ps ds) (hd : Vals dvs ds) (hx : ∀ σ, PassesAt CX X σ (E σ))
    (hdb : (x == ("__debug__" : Str)) = false := by decide) : PE X (.Call (.Name x p) [] [] pos) (tCallSD sp dvs E tNil) := by
  refine ⟨fun pins s σ H Q I h => ?_⟩
  refine wpAny_Call_Name_kw (ld_glob I hg hm ?_ hdb)
  exact PySem.W.callWith_K0 I.kIn hk (run_fnSD (us := []) F hr hb hd (hx σ) I .nil h)
theorem pe_methSD {pl : PySem.Sem Bool} (he : PE X o ta) (c : Cls X.K C) (hm : Meth X.K C m f) (F : FnOk X.prog X.w X.K X.mg X.base CX k f fd ps sp) (hr : Room k X.A) (hb : Binds X.K fd ps ds) (hd : Vals dvs ds) (hx : ∀ σ, PassesAt CX X σ (E σ)) (ha : PA X (e :: es) t)
    (hst : starEach (e :: es) X.env = (false, eval e X.env) :: starEach es X.env := by rfl) (hpl : (backTo pos (starEach es X.env)).any (·.1) = false := by rfl)
    (ht : eval (.Call (.Attribute o m apos) (e :: es) [] pos) X.env = (do
      let ov ← eval o X.env
      standAt apos.atName
      let (f, first) ← holding [ov] (getMethod ov m pl)
      callWith pos f first (backTo pos (starEach (e :: es) X.env)) (backToKw pos (keywordEach [] X.env))) := by rfl) :
    PE X (.Call (.Attribute o m apos) (e :: es) [] pos) (tMethSD C m sp dvs E ta t) := by
  refine ⟨fun pins s σ H Q I h => ?_⟩
  refine PySem.W.methodCall_KW (pl := pl) (thn (he.run pins s σ H _ I h) fun u s1 ⟨x, H1, I1, rx, a, dx, fs, ex, ea, l, q⟩ => ?_) ht
  subst ex
  obtain rfl : u = Value.ref a := rx
  refine getmeth_ok I1 ea c hm l ?_
  refine PySem.W.callWith_K (first := [.ref a]) (h₀ := X.base) I.ok.mod.kin hm.kp (thn (ha.run pos pins s1 σ H1 _ I1 q) fun us s2 ⟨vs, H2, I2, r, q2⟩ => ⟨I2.kIn, ?_⟩) hst hpl
  exact run_fnSD (us := .ref a :: us) (vs := .ref a :: vs) F hr hb hd (hx σ) I2 (.cons rfl r) q2
theorem pe_meth0SD {pl : PySem.Sem Bool} (he : PE X o ta) (c : Cls X.K C) (hm : Meth X.K C m f) (F : FnOk X.prog X.w X.K X.mg X.base CX k f fd ps sp) (hr : Room k X.A) (hb : Binds X.K fd ps ds) (hd : Vals dvs ds) (hx : ∀ σ, PassesAt CX X σ (E σ))
    (ht : eval (.Call (.Attribute o m apos) [] [] pos) X.env = (do
      let ov ← eval o X.env
      standAt apos.atName
      let (f, first) ← holding [ov] (getMethod ov m pl)
      callWith pos f first (backTo pos (starEach [] X.env)) (backToKw pos (keywordEach [] X.env))) := by rfl) :
    PE X (.Call (.Attribute o m apos) [] [] pos) (tMethSD C m sp dvs E ta tNil) := by
  refine ⟨fun pins s σ H Q I h => ?_⟩
  refine PySem.W.methodCall_KW (pl := pl) (thn (he.run pins s σ H _ I h) fun u s1 ⟨x, H1, I1, rx, a, dx, fs, ex, ea, l, q⟩ => ?_) ht
  subst ex
  obtain rfl : u = Value.ref a := rx
  refine getmeth_ok I1 ea c hm l ?_
  exact PySem.W.callWith_K0 (first := [.ref a]) I1.kIn hm.kp (run_fnSD (us := [.ref a]) (vs := [.ref a]) F hr hb hd (hx σ) I1 (.cons rfl .nil) q)
/-- C(..), what is raised wished for at the slots -/
def tMakeSD (C : Addr) (sp : Sp) (dvs : List V) (E : L2.St → XK) (t : TA) : TE := fun σ H Q => t σ H fun vs H1 => ∀ x dx, H1 x = none → H1 dx = none → dx ≠ x →
  sp (.ref x :: (vs ++ dvs)) (upd (upd H1 dx (.own x)) x (.ins C dx [])) (fun v H2 => v = .non ∧ Q (.ref x) H2) (E σ)
theorem run_makeSD {pins : List (Addr × Obj)} {σ : L2.St} {H : Hp} {s : Shared} {Q : VK} {us : List Value} {vs : List V} (M : Mk X.K C f) (F : FnOk X.prog X.w X.K X.mg X.base CX k f fd ps sp) (hr : Room (k + 1) X.A) (hb : Binds X.K fd ps ds) (hd : Vals dvs ds)
    (hx : PassesAt CX X σ (E σ)) (I : Inv X pins σ H s) (r : Vals vs us)
    (h : ∀ x dx, H x = none → H dx = none → dx ≠ x → sp (.ref x :: (vs ++ dvs)) (upd (upd H dx (.own x)) x (.ins C dx [])) (fun v H2 => v = .non ∧ Q (.ref x) H2) (E σ)) :
    wpAny (model X.prog X.w) X.A (call (.ref C) us) (EP X pins σ Q) X.xe s := by
  have hq := h (s.heap.objs.size + 1) s.heap.objs.size (I.hok.fresh (Nat.le_succ _)) (I.hok.fresh (Nat.le_refl _)) (Nat.ne_of_lt (Nat.lt_succ_self _))
  have I2 := Inv.made (C := C) I
  have r2 : Vals (V.ref (s.heap.objs.size + 1) :: (vs ++ dvs)) (Value.ref (s.heap.objs.size + 1) :: (us ++ ds)) := .cons rfl (r.append hd)
  have hl : (Value.ref (s.heap.objs.size + 1) :: us ++ ds).length = ps.length := by
    have e := r2.length
    rw [F.len _ _ _ _ hq] at e
    exact e.symm
  refine wpAny_call (make_map (f := f) I.kIn M.makes M.init (beq_iff_eq.mp M.fn) (codeAny_mono (F.run _ X.stack _ _ ⟨Value.ref (s.heap.objs.size + 1) :: us, []⟩ (Value.ref (s.heap.objs.size + 1) :: (us ++ ds)) _ _ (E σ) (hr.make C us [])
    (I2.env0.make C us []) (hb _ (Value.ref (s.heap.objs.size + 1) :: us) I2.kIn hl) r2 hq) fun r s' hq' => ?_))
  cases r with
  | error e => exact hx pins _ _ e s' I2 hq'
  | ok fl =>
    cases fl with
    | ret u =>
      obtain ⟨v, H', I3, rv, ev, q3⟩ := I2.after hq'
      subst ev
      exact ⟨rv, ⟨V.ref (s.heap.objs.size + 1), H', I3, rfl, q3⟩⟩
    | next => exact False.elim hq'
    | brk => exact False.elim hq'
    | cont => exact False.elim hq'
theorem pe_makeSD (M : Mk X.K C f) (F : FnOk X.prog X.w X.K X.mg X.base CX k f fd ps sp) (hr : Room (k + 1) X.A) (hg : Gl X x) (hm : X.mg x = some (.ref C)) (hb : Binds X.K fd ps ds) (hd : Vals dvs ds) (hx : ∀ σ, PassesAt CX X σ (E σ))
    (ha : PA X (e :: es) t) (hdb : (x == ("__debug__" : Str)) = false := by decide) (he : starEach (e :: es) X.env = (false, eval e X.env) :: starEach es X.env := by rfl) (hpl : (backTo pos (starEach es X.env)).any (·.1) = false := by rfl) :
    PE X (.Call (.Name x p) (e :: es) [] pos) (tMakeSD C sp dvs E t) := by
  refine ⟨fun pins s σ H Q I h => ?_⟩
  refine wpAny_Call_Name_kw (ld_glob I hg hm ?_ hdb)
  refine PySem.W.callWith_K (h₀ := X.base) I.ok.mod.kin M.kp (thn (ha.run pos pins s σ H _ I h) fun us s1 ⟨vs, H1, I1, r, q⟩ => ⟨I1.kIn, ?_⟩) he hpl
  exact run_makeSD M F hr hb hd (hx σ) I1 r q
/-- nothing is let out -/
def wN : WX := fun _ _ _ _ => False
theorem passN {X : Cx} (σ : L2.St) : PassesAt (L2N.CX X.prog X.w) X σ (WE wN σ) := fun _ _ _ _ _ _ h => by
  obtain ⟨_, _, _, _, _, _, _, _, _, _, _, _, z⟩ := h
  exact z.elim
theorem takesN {X : Cx} : L2N.Takes X wN := fun _ _ h => by
  obtain ⟨_, _, _, _, _, _, _, _, _, _, _, _, _, _, _, _, z⟩ := h
  exact z.elim
end
section
variable {K : PySem.W.Frag} {W : WX} {te ta tb tk tv to : TE} {tr : TA} {af : Rh → Option (List PyData)} {sem : Sem} {E : L2.St → XK} {f g : Rh → Option Ev} {pf pg : Rh → Option Sv} {df dg : Rh → Option PyData} {bf : Rh → Option Bool} {nf : Rh → Option (Hd × List PyData)} {n : Nat} {ga : Rh → Option Rh}
theorem fv_makeSD {C : String} (ha : Fa K cl W n tr ga) : Fv K cl W (tMakeSD (cl C) (PSf K cl sem) [] (WE W) tr) (fMake C sem n ga) := fv_make ha
/-! ### built-ins over data -/
def boolsF : List PyData → Option (List Bool)
  | [] => some []
  | .bool b :: r => match boolsF r with
    | some bs => some (b :: bs)
    | none => none
  | _ :: _ => none
theorem bools_of : ∀ {ds : List PyData} {bs : List Bool}, boolsF ds = some bs → ds = bs.map PyData.bool
  | [], bs, h => by simp only [boolsF, Option.some.injEq] at h; subst h; rfl
  | d :: ds, bs, h => by
    unfold boolsF at h
    split at h
    · rename_i e; cases e
    · rename_i b r e
      split at h
      · rename_i bs' e2
        cases h
        cases e
        rw [bools_of e2]; rfl
      · cases h
    · cases h
theorem boolsF_map : ∀ bs : List Bool, boolsF (bs.map PyData.bool) = some bs
  | [] => rfl
  | b :: bs => by simp [boolsF, boolsF_map bs]
def allF : PyData → Option PyData
  | .list ds => match boolsF ds with
    | some bs => some (.bool (bs.all id))
    | none => none
  | _ => none
/-- f(x), x data, by a function of data -/
def d1 (o : PyData → Option PyData) (f : Rh → Option PyData) (ρ : Rh) : Option PyData := match f ρ with
  | some d => o d
  | none => none
theorem dv_all (h : Dv K cl te df) : Dv K cl (tCB (rAll K) (tCons te tNil)) (d1 allF df) := fun B F H ul σ tv ρ G us d r e Q q => by
  unfold d1 at e
  split at e
  · rename_i d' e1
    unfold allF at e
    split at e
    · rename_i ds
      split at e
      · rename_i bs eb
        cases e
        have := bools_of eb
        subst this
        refine h B F H ul σ tv ρ G us _ r e1 _ fun v B' H' w hv => ?_
        cases hv with
        | lst s1 a1 =>
          rw [DpAll.bls_inv a1] at s1
          exact ⟨_, bs, rfl, s1, q _ B' H' w (.bl _)⟩
      · cases e
    · cases e
  · cases e
def maxF : PyData → PyData → Option PyData
  | .int i, .int j => some (.int (if j > i then j else i))
  | _, _ => none
theorem dv_max (ha : Dv K cl ta df) (hb : Dv K cl tb dg) : Dv K cl (tCB (fun xs H Q => ∃ i j, xs = [.int i, .int j] ∧ Q (.int (if j > i then j else i)) H) (tCons ta (tCons tb tNil))) (d2 maxF df dg) := fun B F H ul σ tv ρ G us d r e Q q => by
  unfold d2 at e
  split at e
  · rename_i d1 d2 e1 e2
    unfold maxF at e
    split at e
    · rename_i i j
      cases e
      refine ha B F H ul σ tv ρ G us _ r e1 _ fun x B1 H1 w1 hx => hb B1 F H1 ul σ tv ρ G us _ (r.grow w1) e2 _ fun y B2 H2 w2 hy => ?_
      cases hx
      cases hy
      exact ⟨i, j, rfl, q _ B2 H2 (w1.trans w2) (.int _)⟩
    · cases e
  · cases e
def intF : PyData → Option PyData
  | .int i => some (.int i)
  | .bool b => some (.int (if b then 1 else 0))
  | _ => none
theorem dv_int (ha : Dv K cl ta df) : Dv K cl (tCB (fun xs H Q => (∃ i, xs = [.int i] ∧ Q (.int i) H) ∨ ∃ k, xs = [.bl k] ∧ Q (.int (if k then 1 else 0)) H) (tCons ta tNil)) (d1 intF df) := fun B F H ul σ tv ρ G us d r e Q q => by
  unfold d1 at e
  split at e
  · rename_i d' e1
    unfold intF at e
    split at e
    · cases e
      refine ha B F H ul σ tv ρ G us _ r e1 _ fun x B1 H1 w1 hx => ?_
      cases hx
      exact .inl ⟨_, rfl, q _ B1 H1 w1 (.int _)⟩
    · cases e
      refine ha B F H ul σ tv ρ G us _ r e1 _ fun x B1 H1 w1 hx => ?_
      cases hx
      exact .inr ⟨_, rfl, q _ B1 H1 w1 (.int _)⟩
    · cases e
  · cases e
/-- list(xs): a copy of a list of data -/
def nCopy (f : Rh → Option PyData) (ρ : Rh) : Option (Hd × List PyData) := match f ρ with
  | some (.list ds) => if noLists ds then some (.lst, ds) else none
  | some (.tuple ds) => if noLists ds then some (.lst, ds) else none
  | _ => none
theorem nv_copy (ha : Dv K cl ta df) : Nv K cl (tCB (fun xs H Q => ∃ p ys, xs = [V.ref p] ∧ (SqL K H p ys ∨ SqT K H p ys) ∧ ∀ l, H l = none → Q (.ref l) (upd H l (.lst ys))) (tCons ta tNil)) (nCopy df) := fun B F H ul σ tv ρ G us hd ds0 r e Q q => by
  unfold nCopy at e
  split at e
  · rename_i ds e1
    split at e
    · rename_i hn
      cases e
      refine ha B F H ul σ tv ρ G us _ r e1 _ fun x B1 H1 w1 hx => ?_
      cases hx with
      | lst s1 a1 => exact ⟨_, _, rfl, .inl s1, fun l hl => q l _ B1 H1 _ w1 hl rfl (.inl ⟨_, rfl⟩) ⟨free_of (r.grow w1).rl.exB hl, upd_same⟩ (DpAll.keepT (r.grow w1).rl.keepT _ _ hn a1)⟩
    · cases e
  · rename_i ds e1
    split at e
    · rename_i hn
      cases e
      refine ha B F H ul σ tv ρ G us _ r e1 _ fun x B1 H1 w1 hx => ?_
      cases hx with
      | tup s1 a1 => exact ⟨_, _, rfl, .inr s1, fun l hl => q l _ B1 H1 _ w1 hl rfl (.inl ⟨_, rfl⟩) ⟨free_of (r.grow w1).rl.exB hl, upd_same⟩ (DpAll.keepT (r.grow w1).rl.keepT _ _ hn a1)⟩
    · cases e
  · cases e
/-- "..".join(list of texts) -/
def strsF : List PyData → Option (List Str)
  | [] => some []
  | .str b :: r => match strsF r with
    | some bs => some (b :: bs)
    | none => none
  | _ :: _ => none
theorem strs_of : ∀ {ds : List PyData} {bs : List Str}, strsF ds = some bs → ds = bs.map PyData.str
  | [], bs, h => by simp only [strsF, Option.some.injEq] at h; subst h; rfl
  | d :: ds, bs, h => by
    unfold strsF at h
    split at h
    · rename_i e; cases e
    · rename_i b r e
      split at h
      · rename_i bs' e2
        cases h
        cases e
        rw [strs_of e2]; rfl
      · cases h
    · cases h
theorem strsF_map : ∀ bs : List Str, strsF (bs.map PyData.str) = some bs
  | [] => rfl
  | b :: bs => by simp [strsF, strsF_map bs]
def joinF : PyData → PyData → Option PyData
  | .str z, .list ds => match strsF ds with
    | some ys => if (ys.map (·.length)).sum + ys.length * z.length ≤ 16777216 then some (.str (Txt.join z ys)) else none
    | none => none
  | _, _ => none
theorem dv_join (ho : Dv K cl to df) (h : Dv K cl te dg) : Dv K cl (tM1 (fun x xs H Q => ∃ a p, ∃ ys : List Str, x = .str a ∧ xs = [.ref p] ∧ (SqL K H p (ys.map V.str) ∨ SqT K H p (ys.map V.str)) ∧ (ys.map (·.length)).sum + ys.length * a.length ≤ 16777216 ∧ Q (.str (Txt.join a ys)) H) to te) (d2 joinF df dg) := fun B F H ul σ tv ρ G us d r e Q q => by
  unfold d2 at e
  split at e
  · rename_i d1 d2 e1 e2
    unfold joinF at e
    split at e
    · rename_i z ds
      split at e
      · rename_i ys ey
        split at e
        · rename_i hl
          cases e
          have := strs_of ey
          subst this
          refine ho B F H ul σ tv ρ G us _ r e1 _ fun x B1 H1 w1 hx => ?_
          cases hx
          refine ⟨⟨z, rfl⟩, h B1 F H1 ul σ tv ρ G us _ (r.grow w1) e2 _ fun y B2 H2 w2 hy => ?_⟩
          cases hy with
          | lst s1 a1 =>
            rw [DpAll.strs_inv a1] at s1
            exact ⟨z, _, ys, rfl, rfl, .inl s1, hl, q _ B2 H2 (w1.trans w2) (.str _)⟩
        · cases e
      · cases e
    · cases e
  · cases e
/-! ### raise, try -/
def sRaise (C : String) (ρ : Rh) : Option Oc := some (.ex C ρ)
theorem sx_raise {C : String} : Sx K cl W (fun _ σ H => (fun σ H (Q : XK) => Q (.ref (cl C)) none H) σ H fun cls d H' => W cls d σ H') (sRaise C) := fun B F H ul σ tv ρ G us D r p => p B H σ G us (Kp.refl F B) r
end
end Fx

namespace Fx
open PySem L2
open PySem.Spec PyProof.Rows
open Evl (Ex)
theorem fnok_none {P : Program} {w : World} {K : PySem.W.Frag} {mg : Str → Option Value} {base : Heap} {CX : CXT} {cl : String → Addr} {f : Addr} {fd : FuncData} {ps : List Str} : FnOk P w K mg base CX 0 f fd ps (PSf K cl fun _ _ => none) :=
  ⟨fun vs H Q E ⟨_, _, _, _, _, _, _, _, h⟩ => h.elim, fun A outer s H args us vs Q E _ _ _ _ ⟨_, _, _, _, _, _, _, _, h⟩ => h.elim⟩
/-- a law that gives True -/
theorem law_in (cl : String → Addr) {K : PySem.W.Frag} {sem : Sem} {vs : List V} {H : Hp} {Q : VK} {E : XK} {a : Addr} {ns : List Int} (e : vs = [.ref a]) (hS : SqL K H a (ns.map V.int)) (h : sem [.py (.list (ns.map .int))] [] = some (.vl (.s (.py (.bool true))) [])) (hq : ∀ H', Q (.bl true) H') : PSf K cl sem vs H Q E := by
  subst e
  refine ⟨H, H, [], [], [.py (.list (ns.map .int))], ⟨Ex.refl H, Ex.refl H, (fun q o h1 h2 => by rw [h1] at h2; cases h2), LtAll.nil, List.nodup_nil, (fun q h => by simp [addrsAll] at h)⟩, rfl, fun i s hs => ?_, ?_⟩
  · cases i with
    | zero => simp at hs; subst hs; exact ⟨_, rfl, Dp.lst hS (DpAll.ints ns)⟩
    | succ i => simp at hs
  · rw [List.map_nil, h]
    intro v B' H' G' us' _ _ _ hv
    have hv := hv.2
    cases hv
    exact hq H'
end Fx

namespace Mo
open PySem L2 Fx
def b_Caller___init__ : Rh → Option Oc :=
  (sSq (sFl "Caller" "number" (vVar 0) (fP (vVar 1)))
    (sSq (sFl "Caller" "begun" (vVar 0) (fP (vC (.int 0))))
    (sSq (sFl "Caller" "current" (vVar 0) (fP (vC .none)))
    (sFl "Caller" "closed" (vVar 0) (fN (nLst aNil))))))
def S_Caller___init__ : Sem := runF 2 2 b_Caller___init__
def b_Caller_begin : Rh → Option Oc :=
  (sSq (sFl "Caller" "begun" (vVar 0) (fP (vS (d2 addF (vD (vFld "Caller" "begun" (vVar 0))) (vPy (vC (.int 1)))))))
    (sSq (sFl "Caller" "current" (vVar 0) (fP (vTup (aCons (vPy (vFld "Caller" "begun" (vVar 0))) (aCons (vPy (vVar 1)) (aCons (vPy (vVar 2)) aNil))))))
    (sRt (fP (vFld "Caller" "begun" (vVar 0))))))
def S_Caller_begin : Sem := runF 3 3 b_Caller_begin
def b_Caller_letter : Rh → Option Oc :=
  (sSq (sAt (gTu 3 (gTC (gN 2) (gTC (gN 3) (gTC (gN 4) gT0)))) (fP (vFld "Caller" "current" (vVar 0))))
    (sRt (fP (vTup (aCons (vPy (vC (.str "call"))) (aCons (vPy (vVar 1)) (aCons (vPy (vFld "Caller" "number" (vVar 0))) (aCons (vPy (vVar 2)) (aCons (vPy (vVar 3)) (aCons (vPy (vVar 4)) aNil))))))))))
def S_Caller_letter : Sem := runF 2 5 b_Caller_letter
def b_Caller_came : Rh → Option Oc :=
  (sIf (fB (bAnd (dB isntF (vD (vFld "Caller" "current" (vVar 0))) (vPy (vC .none))) (dB eqF (vD (vIdx (vFld "Caller" "current" (vVar 0)) (vPy (vC (.int 0))))) (vD (vVar 1))))) (sSq (sAp (vFld "Caller" "closed" (vVar 0)) (fP (vTup (aCons (vPy (vVar 1)) (aCons (vPy (vVar 2)) aNil)))))
    (sFl "Caller" "current" (vVar 0) (fP (vC .none)))) sNx)
def S_Caller_came : Sem := runF 3 3 b_Caller_came
def b_Caller_asking : Rh → Option Oc :=
  (sRt (fP (vFld "Caller" "current" (vVar 0))))
def S_Caller_asking : Sem := runF 1 1 b_Caller_asking
def b_Caller_answers : Rh → Option Oc :=
  (sRt (fN (nCopy (vD (vFld "Caller" "closed" (vVar 0))))))
def S_Caller_answers : Sem := runF 1 1 b_Caller_answers
def b__law_cell_at : Rh → Option Oc :=
  (sSq (sIf (fB (dB ltF (vD (vVar 1)) (vD (vLen (vVar 0))))) (sRt (fP (vIdx (vVar 0) (vD (vVar 1))))) sNx)
    (sRt (fP (vC (.int 0)))))
def S__law_cell_at : Sem := runF 2 2 b__law_cell_at
def h__law_alike_1 (S : Sem) : Rh → Option (Hd × List PyData) :=
  (nLc [2] (iR (aCons (vD (vLen (vVar 1))) aNil)) (gN 2) bYes (vS (dCall S (aCons (vD (vIdx (vVar 0) (vD (vVar 2)))) (aCons (vD (vIdx (vVar 1) (vD (vVar 2)))) aNil)))))
def b__law_alike (S : Sem) : Rh → Option Oc :=
  (sSq (sIf (fB (bV (vIsi2 "list" "tuple" (vVar 1)))) (sSq (sIf (fB (bOr (dB neF (vD (vIsi "list" (vVar 1))) (vD (vIsi "list" (vVar 0)))) (dB neF (vD (vIsi "tuple" (vVar 1))) (vD (vIsi "tuple" (vVar 0)))))) (sRt (fP (vC (.bool false)))) sNx)
    (sSq (sIf (fB (dB neF (vD (vLen (vVar 0))) (vD (vLen (vVar 1))))) (sRt (fP (vC (.bool false)))) sNx)
    (sRt (fP (vS (d1 allF (vD (vFz (h__law_alike_1 S))))))))) sNx)
    (sSq (sIf (fB (bV (vIsi "str" (vVar 1)))) (sRt (fP (vB (bAnd (bV (vIsi "str" (vVar 0))) (bV (vB (dB eqF (vD (vVar 0)) (vD (vVar 1))))))))) sNx)
    (sRt (fP (vB (bAnd (bV (vIsi "int" (vVar 0))) (bV (vB (bAnd (bV (vB (bNot (bV (vIsi "bool" (vVar 0)))))) (bV (vB (dB eqF (vD (vVar 0)) (vD (vVar 1))))))))))))))
def SL__law_alike : Nat → Sem
  | 0 => fun _ _ => none
  | n + 1 => runF 2 3 (b__law_alike (SL__law_alike n))
def S__law_alike : Sem := SL__law_alike 6
def b__law_wish : Rh → Option Oc :=
  (sSq (sAs 1 (fP (vS (d2 subF (d2 modF (d2 fdivF (vD (vVar 0)) (vPy (vC (.int 6)))) (vPy (vC (.int 7)))) (vPy (vC (.int 3)))))))
    (sSq (sIf (fB (dB eqF (d2 modF (d2 fdivF (vD (vVar 0)) (vPy (vC (.int 3)))) (vPy (vC (.int 2)))) (vPy (vC (.int 1))))) (sAs 1 (fP (vS (d2 subF (d2 modF (d2 fdivF (vD (vVar 0)) (vPy (vC (.int 6)))) (d2 addF (d2 mulF (vPy (vC (.int 2))) (d2 powF (vPy (vC (.int 10))) (vPy (vC (.int 30))))) (vPy (vC (.int 1))))) (d2 powF (vPy (vC (.int 10))) (vPy (vC (.int 30)))))))) sNx)
    (sRt (fP (vIdx (vFz (nLst (aCons (vPy (vTup (aCons (vPy (vC (.str "get"))) aNil))) (aCons (vPy (vTup (aCons (vPy (vC (.str "set"))) (aCons (vPy (vVar 1)) aNil)))) (aCons (vPy (vTup (aCons (vPy (vC (.str "add"))) (aCons (vPy (vVar 1)) aNil)))) aNil))))) (d2 modF (vD (vVar 0)) (vPy (vC (.int 3)))))))))
def S__law_wish : Sem := runF 1 2 b__law_wish
end Mo

/-! What the functions come to: lists. -/
namespace Mo
open PySem L2 Fx
theorem pyAll_py : ∀ ds : List PyData, pyAll (ds.map (TL.py : PyData → T)) = some ds
  | [] => rfl
  | d :: ds => by simp [pyAll, pyAll_py ds]
theorem atI_nat {α : Type} {ds : List α} {i : Nat} (h : i < ds.length) : atI ds (i : Int) = some ds[i] := by
  unfold atI
  rw [Evl.ixN_nat h]
  simp [h]
theorem at0 {α : Type} (a : α) (l : List α) : atI (a :: l) 0 = some a := atI_nat (ds := a :: l) (i := 0) (by simp)
theorem at1 {α : Type} (a b : α) (l : List α) : atI (a :: b :: l) 1 = some b := atI_nat (ds := a :: b :: l) (i := 1) (by simp)
theorem at2 {α : Type} (a b c : α) (l : List α) : atI (a :: b :: c :: l) 2 = some c := atI_nat (ds := a :: b :: c :: l) (i := 2) (by simp)
theorem at3 {α : Type} (a b c d : α) (l : List α) : atI (a :: b :: c :: d :: l) 3 = some d := atI_nat (ds := a :: b :: c :: d :: l) (i := 3) (by simp)
theorem ixN_of {n : Nat} {i : Int} (h0 : 0 ≤ i) (h : i < n) : ixN n i = some i.toNat := by
  unfold ixN
  rw [if_pos h0, if_pos h]
theorem atI_of {α : Type} {ds : List α} {i : Int} (h0 : 0 ≤ i) (h : i < ds.length) : atI ds i = ds[i.toNat]? := by
  unfold atI
  rw [ixN_of h0 h]
  rfl
/-- a comprehension without a condition -/
theorem collect_map {tg : Sv → Rh → Option Rh} {c : Rh → Option Bool} {e : Rh → Option Sv} {ρ : Rh} {f : PyData → PyData} : ∀ (ds : List PyData), (∀ d ∈ ds, ∃ ρ1, tg (.py d) ρ = some ρ1 ∧ c ρ1 = some true ∧ e ρ1 = some (.py (f d))) → collect tg c e ρ ds = some (ds.map f)
  | [], _ => rfl
  | d :: ds, h => by
    obtain ⟨ρ1, h1, h2, h3⟩ := h d (by simp)
    simp [Fx.collect, h1, h2, h3, collect_map ds fun x hx => h x (by simp [hx])]
theorem collect_filter {tg : Sv → Rh → Option Rh} {c : Rh → Option Bool} {e : Rh → Option Sv} {ρ : Rh} {p : PyData → Bool} {f : PyData → PyData} : ∀ (ds : List PyData), (∀ d ∈ ds, ∃ ρ1, tg (.py d) ρ = some ρ1 ∧ c ρ1 = some (p d) ∧ (p d = true → e ρ1 = some (.py (f d)))) → collect tg c e ρ ds = some ((ds.filter p).map f)
  | [], _ => rfl
  | d :: ds, h => by
    obtain ⟨ρ1, h1, h2, h3⟩ := h d (by simp)
    have ih := collect_filter ds fun x hx => h x (by simp [hx])
    cases hp : p d with
    | true => simp [Fx.collect, h1, h2, hp, h3 hp, ih]
    | false => simp [Fx.collect, h1, h2, hp, ih]
theorem nLc_some {vs : List Nat} {it : Rh → Option (List PyData)} {tg : Sv → Rh → Option Rh} {c : Rh → Option Bool} {e : Rh → Option Sv} {ρ : Rh} {ds xs : List PyData} (hi : it ρ = some ds) (hl : ds.length ≤ 100000) (hc : Fx.collect tg c e (wipeR ρ vs) ds = some xs) : nLc vs it tg c e ρ = some (.lst, xs) := by
  unfold nLc
  rw [hi]
  simp only [hl, if_true, hc]
theorem msk_py (bad : List Nat → Bool) (d : PyData) : msk1 bad (some (.py d)) = some (.py d) := rfl
theorem msk_no (bad : List Nat → Bool) : msk1 bad none = none := rfl
theorem msk_pt (bad : List Nat → Bool) (π : List Nat) : msk1 bad (some (.pt π)) = if bad π then none else some (.pt π) := rfl
theorem boolsF_map {α : Type} (l : List α) (b : α → Bool) : boolsF (l.map fun x => PyData.bool (b x)) = some (l.map b) := by
  induction l with
  | nil => rfl
  | cons a l ih => simp [boolsF, ih]
/-- a loop whose turns go on -/
theorem loopD_nx {tg : Sv → Rh → Option Rh} {b : Rh → Option Oc} (I : List PyData → Rh → Prop) (h : ∀ d ds ρ, I (d :: ds) ρ → ∃ ρ1 ρ2, tg (.py d) ρ = some ρ1 ∧ (b ρ1 = some (.nx ρ2) ∨ b ρ1 = some (.ct ρ2)) ∧ I ds ρ2) : ∀ ds ρ, I ds ρ → ∃ ρ', loopD tg b ds ρ = some (.nx ρ') ∧ I [] ρ'
  | [], ρ, i => ⟨ρ, rfl, i⟩
  | d :: ds, ρ, i => by
    obtain ⟨ρ1, ρ2, h1, h2, h3⟩ := h d ds ρ i
    obtain ⟨ρ', h4, h5⟩ := loopD_nx I h ds ρ2 h3
    refine ⟨ρ', ?_, h5⟩
    rcases h2 with h2 | h2 <;> simp [loopD, h1, h2, h4]
theorem mulOk_bits {i j : Int} {m n : Nat} (a : Builtin.Int.intBits i ≤ m) (b : Builtin.Int.intBits j ≤ n) (h : m + n ≤ 134217728) : mulOk i j = true := by
  unfold mulOk
  have : (Builtin.Int.intBits i : Int) + (Builtin.Int.intBits j : Int) ≤ 134217728 := by omega
  simp [this]
theorem mulOk_r {i j : Int} (h : -(2 ^ 64) < j ∧ j < 2 ^ 64) : mulOk i j = true := by
  unfold mulOk
  simp only [Bool.or_eq_true, Bool.and_eq_true, decide_eq_true_eq]
  exact .inl (.inr h)
theorem mulOk_l {i j : Int} (h : -(2 ^ 64) < i ∧ i < 2 ^ 64) : mulOk i j = true := by
  unfold mulOk
  simp only [Bool.or_eq_true, Bool.and_eq_true, decide_eq_true_eq]
  exact .inl (.inl h)
theorem bits_div {z : Int} {n : Nat} (h : Builtin.Int.intBits z ≤ n) (k : Int) (hk : 0 < k) : Builtin.Int.intBits (z / k) ≤ n := by
  have := intBits_fdiv_le (y := k) h
  rwa [Int.fdiv_eq_ediv_of_nonneg _ (by omega)] at this
end Mo


namespace Mo
open PySem L2 Fx
/-! ### the caller -/
def callerT (n b : Int) (cur : PyData) (cd : List PyData) : T := .nd () (.ins "Caller" ["number", "begun", "current", "closed"]) [.py (.int n), .py (.int b), .py cur, .nd () .lst (cd.map .py)]
theorem caller_init (n : Int) : S_Caller___init__ [.pt [0], .py (.int n)] [.nd () (.ins "Caller" []) []] = some (.vl (.s (.py .none)) [callerT n 0 .none []]) := by
  simp [S_Caller___init__, b_Caller___init__, runF, callerT, Fx.Hd.own, Fx.TL.er, Fx.erAll, Fx.TL.get, Fx.TL.put, Fx.gget, Fx.gput, Fx.TL.addrs, Fx.TL.data, Fx.dataAll, Fx.msk, Fx.mulOk, Fx.addF, Fx.subF, Fx.mulF, Fx.fdivF, Fx.modF, Fx.powF, Fx.ltF, Fx.leF, Fx.gtF, Fx.geF, Fx.eqD, Fx.eqF, Fx.neF, Fx.isF, Fx.isntF, Fx.idxF, Fx.lenF, Fx.kindF, Fx.kitF, Fx.keyF, Fx.ixS, Fx.ixK, Fx.vVar, Fx.vC, Fx.vAt, Fx.dat, Fx.vD, Fx.vS, Fx.vPy, Fx.d2, Fx.dB, Fx.vB, Fx.bV, Fx.child, Fx.kidAt, Fx.vIdx, Fx.vGet, Fx.vFld, Fx.vLen, Fx.kindS, Fx.vIsi, Fx.vIsi2, Fx.aNil, Fx.aCons, Fx.vTup, Fx.nLst, Fx.vFz, Fx.bAnd, Fx.bOr, Fx.bNot, Fx.vIf, Fx.oNo, Fx.oI, Fx.cutF, Fx.vSlc, Fx.nSlc, Fx.negF, Fx.dNeg, Fx.rLenN, Fx.rIsiN, Fx.rIsiN2, Fx.nDct0, Fx.nDdt0, Fx.lendF, Fx.backF, Fx.headLt, Fx.voidF, Fx.tidy, Fx.callF, Fx.makeF, Fx.fP, Fx.fN, Fx.fB, Fx.rootF, Fx.dropLastF, Fx.fZ, Fx.push, Fx.gNo, Fx.gCo, Fx.fCall, Fx.fMake, Fx.fMeth, Fx.fBin2, Fx.fCmp2, Fx.fAnd, Fx.fOr, Fx.fNot, Fx.fBo, Fx.fMv, Fx.fOn, Fx.sNx, Fx.sBk, Fx.sCt, Fx.sRN, Fx.sSq, Fx.sDr, Fx.sRt, Fx.sIf, Fx.gN, Fx.gT0, Fx.gTC, Fx.gTu, Fx.takeRoot, Fx.sAs, Fx.sAt, Fx.childF, Fx.kidF, Fx.belowF, Fx.putAt, Fx.sFl, Fx.sPu, Fx.sSL, Fx.topPt, Fx.popTm, Fx.pushPt, Fx.sAp, Fx.sEx, Fx.fPop, Fx.sDe, Fx.pyAll, Fx.sEt, Fx.sFo, Fx.sFu, Fx.rngF, Fx.sFr, Fx.shiftS, Fx.lentF, Fx.dCall, Fx.nCall, Fx.iL, Fx.iLn, Fx.iT, Fx.iR, Fx.wipeR, Fx.bYes, Fx.nLc, Fx.boolsF, Fx.allF, Fx.d1, Fx.maxF, Fx.intF, Fx.nCopy, Fx.strsF, Fx.joinF, Fx.sRaise, msk_py, msk_no, msk_pt, List.isPrefixOf, List.cons_prefix_cons, List.nil_prefix, ofString_inj]
theorem caller_asking (n b : Int) (cur : PyData) (cd : List PyData) : S_Caller_asking [.pt [0]] [callerT n b cur cd] = some (.vl (.s (.py cur)) [callerT n b cur cd]) := by
  simp [S_Caller_asking, b_Caller_asking, runF, callerT, Fx.Hd.own, Fx.TL.er, Fx.erAll, Fx.TL.get, Fx.TL.put, Fx.gget, Fx.gput, Fx.TL.addrs, Fx.TL.data, Fx.dataAll, Fx.msk, Fx.mulOk, Fx.addF, Fx.subF, Fx.mulF, Fx.fdivF, Fx.modF, Fx.powF, Fx.ltF, Fx.leF, Fx.gtF, Fx.geF, Fx.eqD, Fx.eqF, Fx.neF, Fx.isF, Fx.isntF, Fx.idxF, Fx.lenF, Fx.kindF, Fx.kitF, Fx.keyF, Fx.ixS, Fx.ixK, Fx.vVar, Fx.vC, Fx.vAt, Fx.dat, Fx.vD, Fx.vS, Fx.vPy, Fx.d2, Fx.dB, Fx.vB, Fx.bV, Fx.child, Fx.kidAt, Fx.vIdx, Fx.vGet, Fx.vFld, Fx.vLen, Fx.kindS, Fx.vIsi, Fx.vIsi2, Fx.aNil, Fx.aCons, Fx.vTup, Fx.nLst, Fx.vFz, Fx.bAnd, Fx.bOr, Fx.bNot, Fx.vIf, Fx.oNo, Fx.oI, Fx.cutF, Fx.vSlc, Fx.nSlc, Fx.negF, Fx.dNeg, Fx.rLenN, Fx.rIsiN, Fx.rIsiN2, Fx.nDct0, Fx.nDdt0, Fx.lendF, Fx.backF, Fx.headLt, Fx.voidF, Fx.tidy, Fx.callF, Fx.makeF, Fx.fP, Fx.fN, Fx.fB, Fx.rootF, Fx.dropLastF, Fx.fZ, Fx.push, Fx.gNo, Fx.gCo, Fx.fCall, Fx.fMake, Fx.fMeth, Fx.fBin2, Fx.fCmp2, Fx.fAnd, Fx.fOr, Fx.fNot, Fx.fBo, Fx.fMv, Fx.fOn, Fx.sNx, Fx.sBk, Fx.sCt, Fx.sRN, Fx.sSq, Fx.sDr, Fx.sRt, Fx.sIf, Fx.gN, Fx.gT0, Fx.gTC, Fx.gTu, Fx.takeRoot, Fx.sAs, Fx.sAt, Fx.childF, Fx.kidF, Fx.belowF, Fx.putAt, Fx.sFl, Fx.sPu, Fx.sSL, Fx.topPt, Fx.popTm, Fx.pushPt, Fx.sAp, Fx.sEx, Fx.fPop, Fx.sDe, Fx.pyAll, Fx.sEt, Fx.sFo, Fx.sFu, Fx.rngF, Fx.sFr, Fx.shiftS, Fx.lentF, Fx.dCall, Fx.nCall, Fx.iL, Fx.iLn, Fx.iT, Fx.iR, Fx.wipeR, Fx.bYes, Fx.nLc, Fx.boolsF, Fx.allF, Fx.d1, Fx.maxF, Fx.intF, Fx.nCopy, Fx.strsF, Fx.joinF, Fx.sRaise, msk_py, msk_no, msk_pt, List.isPrefixOf, List.cons_prefix_cons, List.nil_prefix, ofString_inj]
theorem caller_answers (n b : Int) (cur : PyData) (cd : List PyData) (h : noLists cd = true) : S_Caller_answers [.pt [0]] [callerT n b cur cd] = some (.vl .own [callerT n b cur cd, .nd () .lst (cd.map .py)]) := by
  simp [S_Caller_answers, b_Caller_answers, runF, callerT, Fx.Hd.own, Fx.TL.er, Fx.erAll, Fx.TL.get, Fx.TL.put, Fx.gget, Fx.gput, Fx.TL.addrs, Fx.TL.data, Fx.dataAll, Fx.msk, Fx.mulOk, Fx.addF, Fx.subF, Fx.mulF, Fx.fdivF, Fx.modF, Fx.powF, Fx.ltF, Fx.leF, Fx.gtF, Fx.geF, Fx.eqD, Fx.eqF, Fx.neF, Fx.isF, Fx.isntF, Fx.idxF, Fx.lenF, Fx.kindF, Fx.kitF, Fx.keyF, Fx.ixS, Fx.ixK, Fx.vVar, Fx.vC, Fx.vAt, Fx.dat, Fx.vD, Fx.vS, Fx.vPy, Fx.d2, Fx.dB, Fx.vB, Fx.bV, Fx.child, Fx.kidAt, Fx.vIdx, Fx.vGet, Fx.vFld, Fx.vLen, Fx.kindS, Fx.vIsi, Fx.vIsi2, Fx.aNil, Fx.aCons, Fx.vTup, Fx.nLst, Fx.vFz, Fx.bAnd, Fx.bOr, Fx.bNot, Fx.vIf, Fx.oNo, Fx.oI, Fx.cutF, Fx.vSlc, Fx.nSlc, Fx.negF, Fx.dNeg, Fx.rLenN, Fx.rIsiN, Fx.rIsiN2, Fx.nDct0, Fx.nDdt0, Fx.lendF, Fx.backF, Fx.headLt, Fx.voidF, Fx.tidy, Fx.callF, Fx.makeF, Fx.fP, Fx.fN, Fx.fB, Fx.rootF, Fx.dropLastF, Fx.fZ, Fx.push, Fx.gNo, Fx.gCo, Fx.fCall, Fx.fMake, Fx.fMeth, Fx.fBin2, Fx.fCmp2, Fx.fAnd, Fx.fOr, Fx.fNot, Fx.fBo, Fx.fMv, Fx.fOn, Fx.sNx, Fx.sBk, Fx.sCt, Fx.sRN, Fx.sSq, Fx.sDr, Fx.sRt, Fx.sIf, Fx.gN, Fx.gT0, Fx.gTC, Fx.gTu, Fx.takeRoot, Fx.sAs, Fx.sAt, Fx.childF, Fx.kidF, Fx.belowF, Fx.putAt, Fx.sFl, Fx.sPu, Fx.sSL, Fx.topPt, Fx.popTm, Fx.pushPt, Fx.sAp, Fx.sEx, Fx.fPop, Fx.sDe, Fx.pyAll, Fx.sEt, Fx.sFo, Fx.sFu, Fx.rngF, Fx.sFr, Fx.shiftS, Fx.lentF, Fx.dCall, Fx.nCall, Fx.iL, Fx.iLn, Fx.iT, Fx.iR, Fx.wipeR, Fx.bYes, Fx.nLc, Fx.boolsF, Fx.allF, Fx.d1, Fx.maxF, Fx.intF, Fx.nCopy, Fx.strsF, Fx.joinF, Fx.sRaise, msk_py, msk_no, msk_pt, List.isPrefixOf, List.cons_prefix_cons, List.nil_prefix, ofString_inj, Fx.dataAll_py, h]
theorem caller_begin (n b : Int) (cur key wish : PyData) (cd : List PyData) : S_Caller_begin [.pt [0], .py key, .py wish] [callerT n b cur cd] = some (.vl (.s (.py (.int (b + 1)))) [callerT n (b + 1) (.tuple [.int (b + 1), key, wish]) cd]) := by
  simp [S_Caller_begin, b_Caller_begin, runF, callerT, Fx.Hd.own, Fx.TL.er, Fx.erAll, Fx.TL.get, Fx.TL.put, Fx.gget, Fx.gput, Fx.TL.addrs, Fx.TL.data, Fx.dataAll, Fx.msk, Fx.mulOk, Fx.addF, Fx.subF, Fx.mulF, Fx.fdivF, Fx.modF, Fx.powF, Fx.ltF, Fx.leF, Fx.gtF, Fx.geF, Fx.eqD, Fx.eqF, Fx.neF, Fx.isF, Fx.isntF, Fx.idxF, Fx.lenF, Fx.kindF, Fx.kitF, Fx.keyF, Fx.ixS, Fx.ixK, Fx.vVar, Fx.vC, Fx.vAt, Fx.dat, Fx.vD, Fx.vS, Fx.vPy, Fx.d2, Fx.dB, Fx.vB, Fx.bV, Fx.child, Fx.kidAt, Fx.vIdx, Fx.vGet, Fx.vFld, Fx.vLen, Fx.kindS, Fx.vIsi, Fx.vIsi2, Fx.aNil, Fx.aCons, Fx.vTup, Fx.nLst, Fx.vFz, Fx.bAnd, Fx.bOr, Fx.bNot, Fx.vIf, Fx.oNo, Fx.oI, Fx.cutF, Fx.vSlc, Fx.nSlc, Fx.negF, Fx.dNeg, Fx.rLenN, Fx.rIsiN, Fx.rIsiN2, Fx.nDct0, Fx.nDdt0, Fx.lendF, Fx.backF, Fx.headLt, Fx.voidF, Fx.tidy, Fx.callF, Fx.makeF, Fx.fP, Fx.fN, Fx.fB, Fx.rootF, Fx.dropLastF, Fx.fZ, Fx.push, Fx.gNo, Fx.gCo, Fx.fCall, Fx.fMake, Fx.fMeth, Fx.fBin2, Fx.fCmp2, Fx.fAnd, Fx.fOr, Fx.fNot, Fx.fBo, Fx.fMv, Fx.fOn, Fx.sNx, Fx.sBk, Fx.sCt, Fx.sRN, Fx.sSq, Fx.sDr, Fx.sRt, Fx.sIf, Fx.gN, Fx.gT0, Fx.gTC, Fx.gTu, Fx.takeRoot, Fx.sAs, Fx.sAt, Fx.childF, Fx.kidF, Fx.belowF, Fx.putAt, Fx.sFl, Fx.sPu, Fx.sSL, Fx.topPt, Fx.popTm, Fx.pushPt, Fx.sAp, Fx.sEx, Fx.fPop, Fx.sDe, Fx.pyAll, Fx.sEt, Fx.sFo, Fx.sFu, Fx.rngF, Fx.sFr, Fx.shiftS, Fx.lentF, Fx.dCall, Fx.nCall, Fx.iL, Fx.iLn, Fx.iT, Fx.iR, Fx.wipeR, Fx.bYes, Fx.nLc, Fx.boolsF, Fx.allF, Fx.d1, Fx.maxF, Fx.intF, Fx.nCopy, Fx.strsF, Fx.joinF, Fx.sRaise, msk_py, msk_no, msk_pt, List.isPrefixOf, List.cons_prefix_cons, List.nil_prefix, ofString_inj, noList]
theorem caller_letter (n b k : Int) (house key wish : PyData) (cd : List PyData) : S_Caller_letter [.pt [0], .py house] [callerT n b (.tuple [.int k, key, wish]) cd] = some (.vl (.s (.py (.tuple [.str "call", house, .int n, .int k, key, wish]))) [callerT n b (.tuple [.int k, key, wish]) cd]) := by
  simp [S_Caller_letter, b_Caller_letter, runF, callerT, Fx.Hd.own, Fx.TL.er, Fx.erAll, Fx.TL.get, Fx.TL.put, Fx.gget, Fx.gput, Fx.TL.addrs, Fx.TL.data, Fx.dataAll, Fx.msk, Fx.mulOk, Fx.addF, Fx.subF, Fx.mulF, Fx.fdivF, Fx.modF, Fx.powF, Fx.ltF, Fx.leF, Fx.gtF, Fx.geF, Fx.eqD, Fx.eqF, Fx.neF, Fx.isF, Fx.isntF, Fx.idxF, Fx.lenF, Fx.kindF, Fx.kitF, Fx.keyF, Fx.ixS, Fx.ixK, Fx.vVar, Fx.vC, Fx.vAt, Fx.dat, Fx.vD, Fx.vS, Fx.vPy, Fx.d2, Fx.dB, Fx.vB, Fx.bV, Fx.child, Fx.kidAt, Fx.vIdx, Fx.vGet, Fx.vFld, Fx.vLen, Fx.kindS, Fx.vIsi, Fx.vIsi2, Fx.aNil, Fx.aCons, Fx.vTup, Fx.nLst, Fx.vFz, Fx.bAnd, Fx.bOr, Fx.bNot, Fx.vIf, Fx.oNo, Fx.oI, Fx.cutF, Fx.vSlc, Fx.nSlc, Fx.negF, Fx.dNeg, Fx.rLenN, Fx.rIsiN, Fx.rIsiN2, Fx.nDct0, Fx.nDdt0, Fx.lendF, Fx.backF, Fx.headLt, Fx.voidF, Fx.tidy, Fx.callF, Fx.makeF, Fx.fP, Fx.fN, Fx.fB, Fx.rootF, Fx.dropLastF, Fx.fZ, Fx.push, Fx.gNo, Fx.gCo, Fx.fCall, Fx.fMake, Fx.fMeth, Fx.fBin2, Fx.fCmp2, Fx.fAnd, Fx.fOr, Fx.fNot, Fx.fBo, Fx.fMv, Fx.fOn, Fx.sNx, Fx.sBk, Fx.sCt, Fx.sRN, Fx.sSq, Fx.sDr, Fx.sRt, Fx.sIf, Fx.gN, Fx.gT0, Fx.gTC, Fx.gTu, Fx.takeRoot, Fx.sAs, Fx.sAt, Fx.childF, Fx.kidF, Fx.belowF, Fx.putAt, Fx.sFl, Fx.sPu, Fx.sSL, Fx.topPt, Fx.popTm, Fx.pushPt, Fx.sAp, Fx.sEx, Fx.fPop, Fx.sDe, Fx.pyAll, Fx.sEt, Fx.sFo, Fx.sFu, Fx.rngF, Fx.sFr, Fx.shiftS, Fx.lentF, Fx.dCall, Fx.nCall, Fx.iL, Fx.iLn, Fx.iT, Fx.iR, Fx.wipeR, Fx.bYes, Fx.nLc, Fx.boolsF, Fx.allF, Fx.d1, Fx.maxF, Fx.intF, Fx.nCopy, Fx.strsF, Fx.joinF, Fx.sRaise, msk_py, msk_no, msk_pt, List.isPrefixOf, List.cons_prefix_cons, List.nil_prefix, ofString_inj, noList]
theorem caller_came_none (n b k : Int) (t : PyData) (cd : List PyData) : S_Caller_came [.pt [0], .py (.int k), .py t] [callerT n b .none cd] = some (.vl (.s (.py .none)) [callerT n b .none cd]) := by
  simp [S_Caller_came, b_Caller_came, runF, callerT, Fx.Hd.own, Fx.TL.er, Fx.erAll, Fx.TL.get, Fx.TL.put, Fx.gget, Fx.gput, Fx.TL.addrs, Fx.TL.data, Fx.dataAll, Fx.msk, Fx.mulOk, Fx.addF, Fx.subF, Fx.mulF, Fx.fdivF, Fx.modF, Fx.powF, Fx.ltF, Fx.leF, Fx.gtF, Fx.geF, Fx.eqD, Fx.eqF, Fx.neF, Fx.isF, Fx.isntF, Fx.idxF, Fx.lenF, Fx.kindF, Fx.kitF, Fx.keyF, Fx.ixS, Fx.ixK, Fx.vVar, Fx.vC, Fx.vAt, Fx.dat, Fx.vD, Fx.vS, Fx.vPy, Fx.d2, Fx.dB, Fx.vB, Fx.bV, Fx.child, Fx.kidAt, Fx.vIdx, Fx.vGet, Fx.vFld, Fx.vLen, Fx.kindS, Fx.vIsi, Fx.vIsi2, Fx.aNil, Fx.aCons, Fx.vTup, Fx.nLst, Fx.vFz, Fx.bAnd, Fx.bOr, Fx.bNot, Fx.vIf, Fx.oNo, Fx.oI, Fx.cutF, Fx.vSlc, Fx.nSlc, Fx.negF, Fx.dNeg, Fx.rLenN, Fx.rIsiN, Fx.rIsiN2, Fx.nDct0, Fx.nDdt0, Fx.lendF, Fx.backF, Fx.headLt, Fx.voidF, Fx.tidy, Fx.callF, Fx.makeF, Fx.fP, Fx.fN, Fx.fB, Fx.rootF, Fx.dropLastF, Fx.fZ, Fx.push, Fx.gNo, Fx.gCo, Fx.fCall, Fx.fMake, Fx.fMeth, Fx.fBin2, Fx.fCmp2, Fx.fAnd, Fx.fOr, Fx.fNot, Fx.fBo, Fx.fMv, Fx.fOn, Fx.sNx, Fx.sBk, Fx.sCt, Fx.sRN, Fx.sSq, Fx.sDr, Fx.sRt, Fx.sIf, Fx.gN, Fx.gT0, Fx.gTC, Fx.gTu, Fx.takeRoot, Fx.sAs, Fx.sAt, Fx.childF, Fx.kidF, Fx.belowF, Fx.putAt, Fx.sFl, Fx.sPu, Fx.sSL, Fx.topPt, Fx.popTm, Fx.pushPt, Fx.sAp, Fx.sEx, Fx.fPop, Fx.sDe, Fx.pyAll, Fx.sEt, Fx.sFo, Fx.sFu, Fx.rngF, Fx.sFr, Fx.shiftS, Fx.lentF, Fx.dCall, Fx.nCall, Fx.iL, Fx.iLn, Fx.iT, Fx.iR, Fx.wipeR, Fx.bYes, Fx.nLc, Fx.boolsF, Fx.allF, Fx.d1, Fx.maxF, Fx.intF, Fx.nCopy, Fx.strsF, Fx.joinF, Fx.sRaise, msk_py, msk_no, msk_pt, List.isPrefixOf, List.cons_prefix_cons, List.nil_prefix, ofString_inj, noList]
theorem caller_came_other (n b k j : Int) (key wish t : PyData) (cd : List PyData) (h : j ≠ k) : S_Caller_came [.pt [0], .py (.int k), .py t] [callerT n b (.tuple [.int j, key, wish]) cd] = some (.vl (.s (.py .none)) [callerT n b (.tuple [.int j, key, wish]) cd]) := by
  simp [S_Caller_came, b_Caller_came, runF, callerT, Fx.Hd.own, Fx.TL.er, Fx.erAll, Fx.TL.get, Fx.TL.put, Fx.gget, Fx.gput, Fx.TL.addrs, Fx.TL.data, Fx.dataAll, Fx.msk, Fx.mulOk, Fx.addF, Fx.subF, Fx.mulF, Fx.fdivF, Fx.modF, Fx.powF, Fx.ltF, Fx.leF, Fx.gtF, Fx.geF, Fx.eqD, Fx.eqF, Fx.neF, Fx.isF, Fx.isntF, Fx.idxF, Fx.lenF, Fx.kindF, Fx.kitF, Fx.keyF, Fx.ixS, Fx.ixK, Fx.vVar, Fx.vC, Fx.vAt, Fx.dat, Fx.vD, Fx.vS, Fx.vPy, Fx.d2, Fx.dB, Fx.vB, Fx.bV, Fx.child, Fx.kidAt, Fx.vIdx, Fx.vGet, Fx.vFld, Fx.vLen, Fx.kindS, Fx.vIsi, Fx.vIsi2, Fx.aNil, Fx.aCons, Fx.vTup, Fx.nLst, Fx.vFz, Fx.bAnd, Fx.bOr, Fx.bNot, Fx.vIf, Fx.oNo, Fx.oI, Fx.cutF, Fx.vSlc, Fx.nSlc, Fx.negF, Fx.dNeg, Fx.rLenN, Fx.rIsiN, Fx.rIsiN2, Fx.nDct0, Fx.nDdt0, Fx.lendF, Fx.backF, Fx.headLt, Fx.voidF, Fx.tidy, Fx.callF, Fx.makeF, Fx.fP, Fx.fN, Fx.fB, Fx.rootF, Fx.dropLastF, Fx.fZ, Fx.push, Fx.gNo, Fx.gCo, Fx.fCall, Fx.fMake, Fx.fMeth, Fx.fBin2, Fx.fCmp2, Fx.fAnd, Fx.fOr, Fx.fNot, Fx.fBo, Fx.fMv, Fx.fOn, Fx.sNx, Fx.sBk, Fx.sCt, Fx.sRN, Fx.sSq, Fx.sDr, Fx.sRt, Fx.sIf, Fx.gN, Fx.gT0, Fx.gTC, Fx.gTu, Fx.takeRoot, Fx.sAs, Fx.sAt, Fx.childF, Fx.kidF, Fx.belowF, Fx.putAt, Fx.sFl, Fx.sPu, Fx.sSL, Fx.topPt, Fx.popTm, Fx.pushPt, Fx.sAp, Fx.sEx, Fx.fPop, Fx.sDe, Fx.pyAll, Fx.sEt, Fx.sFo, Fx.sFu, Fx.rngF, Fx.sFr, Fx.shiftS, Fx.lentF, Fx.dCall, Fx.nCall, Fx.iL, Fx.iLn, Fx.iT, Fx.iR, Fx.wipeR, Fx.bYes, Fx.nLc, Fx.boolsF, Fx.allF, Fx.d1, Fx.maxF, Fx.intF, Fx.nCopy, Fx.strsF, Fx.joinF, Fx.sRaise, msk_py, msk_no, msk_pt, List.isPrefixOf, List.cons_prefix_cons, List.nil_prefix, ofString_inj, noList, atI, ixN, h]
theorem caller_came_own (n b k : Int) (key wish t : PyData) (cd : List PyData) (h : cd.length < 100000) : S_Caller_came [.pt [0], .py (.int k), .py t] [callerT n b (.tuple [.int k, key, wish]) cd] = some (.vl (.s (.py .none)) [callerT n b .none (cd ++ [.tuple [.int k, t]])]) := by
  simp [S_Caller_came, b_Caller_came, runF, callerT, Fx.Hd.own, Fx.TL.er, Fx.erAll, Fx.TL.get, Fx.TL.put, Fx.gget, Fx.gput, Fx.TL.addrs, Fx.TL.data, Fx.dataAll, Fx.msk, Fx.mulOk, Fx.addF, Fx.subF, Fx.mulF, Fx.fdivF, Fx.modF, Fx.powF, Fx.ltF, Fx.leF, Fx.gtF, Fx.geF, Fx.eqD, Fx.eqF, Fx.neF, Fx.isF, Fx.isntF, Fx.idxF, Fx.lenF, Fx.kindF, Fx.kitF, Fx.keyF, Fx.ixS, Fx.ixK, Fx.vVar, Fx.vC, Fx.vAt, Fx.dat, Fx.vD, Fx.vS, Fx.vPy, Fx.d2, Fx.dB, Fx.vB, Fx.bV, Fx.child, Fx.kidAt, Fx.vIdx, Fx.vGet, Fx.vFld, Fx.vLen, Fx.kindS, Fx.vIsi, Fx.vIsi2, Fx.aNil, Fx.aCons, Fx.vTup, Fx.nLst, Fx.vFz, Fx.bAnd, Fx.bOr, Fx.bNot, Fx.vIf, Fx.oNo, Fx.oI, Fx.cutF, Fx.vSlc, Fx.nSlc, Fx.negF, Fx.dNeg, Fx.rLenN, Fx.rIsiN, Fx.rIsiN2, Fx.nDct0, Fx.nDdt0, Fx.lendF, Fx.backF, Fx.headLt, Fx.voidF, Fx.tidy, Fx.callF, Fx.makeF, Fx.fP, Fx.fN, Fx.fB, Fx.rootF, Fx.dropLastF, Fx.fZ, Fx.push, Fx.gNo, Fx.gCo, Fx.fCall, Fx.fMake, Fx.fMeth, Fx.fBin2, Fx.fCmp2, Fx.fAnd, Fx.fOr, Fx.fNot, Fx.fBo, Fx.fMv, Fx.fOn, Fx.sNx, Fx.sBk, Fx.sCt, Fx.sRN, Fx.sSq, Fx.sDr, Fx.sRt, Fx.sIf, Fx.gN, Fx.gT0, Fx.gTC, Fx.gTu, Fx.takeRoot, Fx.sAs, Fx.sAt, Fx.childF, Fx.kidF, Fx.belowF, Fx.putAt, Fx.sFl, Fx.sPu, Fx.sSL, Fx.topPt, Fx.popTm, Fx.pushPt, Fx.sAp, Fx.sEx, Fx.fPop, Fx.sDe, Fx.pyAll, Fx.sEt, Fx.sFo, Fx.sFu, Fx.rngF, Fx.sFr, Fx.shiftS, Fx.lentF, Fx.dCall, Fx.nCall, Fx.iL, Fx.iLn, Fx.iT, Fx.iR, Fx.wipeR, Fx.bYes, Fx.nLc, Fx.boolsF, Fx.allF, Fx.d1, Fx.maxF, Fx.intF, Fx.nCopy, Fx.strsF, Fx.joinF, Fx.sRaise, msk_py, msk_no, msk_pt, List.isPrefixOf, List.cons_prefix_cons, List.nil_prefix, ofString_inj, noList, atI, ixN, h]
/-! ### the law's helpers -/
theorem cell_at_in (l : List Int) (k : Nat) (h : k < l.length) : S__law_cell_at [.py (.list (l.map .int)), .py (.int k)] [] = some (.vl (.s (.py (.int l[k]))) []) := by
  have e : atI (l.map PyData.int) (k : Int) = some (.int l[k]) := by rw [atI_nat (by simpa using h)]; simp
  simp [S__law_cell_at, b__law_cell_at, runF, Fx.Hd.own, Fx.TL.er, Fx.erAll, Fx.TL.get, Fx.TL.put, Fx.gget, Fx.gput, Fx.TL.addrs, Fx.TL.data, Fx.dataAll, Fx.msk, Fx.mulOk, Fx.addF, Fx.subF, Fx.mulF, Fx.fdivF, Fx.modF, Fx.powF, Fx.ltF, Fx.leF, Fx.gtF, Fx.geF, Fx.eqD, Fx.eqF, Fx.neF, Fx.isF, Fx.isntF, Fx.idxF, Fx.lenF, Fx.kindF, Fx.kitF, Fx.keyF, Fx.ixS, Fx.ixK, Fx.vVar, Fx.vC, Fx.vAt, Fx.dat, Fx.vD, Fx.vS, Fx.vPy, Fx.d2, Fx.dB, Fx.vB, Fx.bV, Fx.child, Fx.kidAt, Fx.vIdx, Fx.vGet, Fx.vFld, Fx.vLen, Fx.kindS, Fx.vIsi, Fx.vIsi2, Fx.aNil, Fx.aCons, Fx.vTup, Fx.nLst, Fx.vFz, Fx.bAnd, Fx.bOr, Fx.bNot, Fx.vIf, Fx.oNo, Fx.oI, Fx.cutF, Fx.vSlc, Fx.nSlc, Fx.negF, Fx.dNeg, Fx.rLenN, Fx.rIsiN, Fx.rIsiN2, Fx.nDct0, Fx.nDdt0, Fx.lendF, Fx.backF, Fx.headLt, Fx.voidF, Fx.tidy, Fx.callF, Fx.makeF, Fx.fP, Fx.fN, Fx.fB, Fx.rootF, Fx.dropLastF, Fx.fZ, Fx.push, Fx.gNo, Fx.gCo, Fx.fCall, Fx.fMake, Fx.fMeth, Fx.fBin2, Fx.fCmp2, Fx.fAnd, Fx.fOr, Fx.fNot, Fx.fBo, Fx.fMv, Fx.fOn, Fx.sNx, Fx.sBk, Fx.sCt, Fx.sRN, Fx.sSq, Fx.sDr, Fx.sRt, Fx.sIf, Fx.gN, Fx.gT0, Fx.gTC, Fx.gTu, Fx.takeRoot, Fx.sAs, Fx.sAt, Fx.childF, Fx.kidF, Fx.belowF, Fx.putAt, Fx.sFl, Fx.sPu, Fx.sSL, Fx.topPt, Fx.popTm, Fx.pushPt, Fx.sAp, Fx.sEx, Fx.fPop, Fx.sDe, Fx.pyAll, Fx.sEt, Fx.sFo, Fx.sFu, Fx.rngF, Fx.sFr, Fx.shiftS, Fx.lentF, Fx.dCall, Fx.nCall, Fx.iL, Fx.iLn, Fx.iT, Fx.iR, Fx.wipeR, Fx.bYes, Fx.nLc, Fx.boolsF, Fx.allF, Fx.d1, Fx.maxF, Fx.intF, Fx.nCopy, Fx.strsF, Fx.joinF, Fx.sRaise, msk_py, msk_no, msk_pt, List.isPrefixOf, List.cons_prefix_cons, List.nil_prefix, h, e]
theorem cell_at_out (l : List Int) (k : Nat) (h : ¬ k < l.length) : S__law_cell_at [.py (.list (l.map .int)), .py (.int k)] [] = some (.vl (.s (.py (.int 0))) []) := by
  simp [S__law_cell_at, b__law_cell_at, runF, Fx.Hd.own, Fx.TL.er, Fx.erAll, Fx.TL.get, Fx.TL.put, Fx.gget, Fx.gput, Fx.TL.addrs, Fx.TL.data, Fx.dataAll, Fx.msk, Fx.mulOk, Fx.addF, Fx.subF, Fx.mulF, Fx.fdivF, Fx.modF, Fx.powF, Fx.ltF, Fx.leF, Fx.gtF, Fx.geF, Fx.eqD, Fx.eqF, Fx.neF, Fx.isF, Fx.isntF, Fx.idxF, Fx.lenF, Fx.kindF, Fx.kitF, Fx.keyF, Fx.ixS, Fx.ixK, Fx.vVar, Fx.vC, Fx.vAt, Fx.dat, Fx.vD, Fx.vS, Fx.vPy, Fx.d2, Fx.dB, Fx.vB, Fx.bV, Fx.child, Fx.kidAt, Fx.vIdx, Fx.vGet, Fx.vFld, Fx.vLen, Fx.kindS, Fx.vIsi, Fx.vIsi2, Fx.aNil, Fx.aCons, Fx.vTup, Fx.nLst, Fx.vFz, Fx.bAnd, Fx.bOr, Fx.bNot, Fx.vIf, Fx.oNo, Fx.oI, Fx.cutF, Fx.vSlc, Fx.nSlc, Fx.negF, Fx.dNeg, Fx.rLenN, Fx.rIsiN, Fx.rIsiN2, Fx.nDct0, Fx.nDdt0, Fx.lendF, Fx.backF, Fx.headLt, Fx.voidF, Fx.tidy, Fx.callF, Fx.makeF, Fx.fP, Fx.fN, Fx.fB, Fx.rootF, Fx.dropLastF, Fx.fZ, Fx.push, Fx.gNo, Fx.gCo, Fx.fCall, Fx.fMake, Fx.fMeth, Fx.fBin2, Fx.fCmp2, Fx.fAnd, Fx.fOr, Fx.fNot, Fx.fBo, Fx.fMv, Fx.fOn, Fx.sNx, Fx.sBk, Fx.sCt, Fx.sRN, Fx.sSq, Fx.sDr, Fx.sRt, Fx.sIf, Fx.gN, Fx.gT0, Fx.gTC, Fx.gTu, Fx.takeRoot, Fx.sAs, Fx.sAt, Fx.childF, Fx.kidF, Fx.belowF, Fx.putAt, Fx.sFl, Fx.sPu, Fx.sSL, Fx.topPt, Fx.popTm, Fx.pushPt, Fx.sAp, Fx.sEx, Fx.fPop, Fx.sDe, Fx.pyAll, Fx.sEt, Fx.sFo, Fx.sFu, Fx.rngF, Fx.sFr, Fx.shiftS, Fx.lentF, Fx.dCall, Fx.nCall, Fx.iL, Fx.iLn, Fx.iT, Fx.iR, Fx.wipeR, Fx.bYes, Fx.nLc, Fx.boolsF, Fx.allF, Fx.d1, Fx.maxF, Fx.intF, Fx.nCopy, Fx.strsF, Fx.joinF, Fx.sRaise, msk_py, msk_no, msk_pt, List.isPrefixOf, List.cons_prefix_cons, List.nil_prefix, h]
def cell (l : List Int) (k : Nat) : Int := l.getD k 0
theorem cell_at (l : List Int) (k : Nat) : S__law_cell_at [.py (.list (l.map .int)), .py (.int k)] [] = some (.vl (.s (.py (.int (cell l k)))) []) := by
  by_cases h : k < l.length
  · rw [cell_at_in l k h]; simp [cell, h]
  · rw [cell_at_out l k h]; simp [cell, h]
theorem rngF_nat {n : Nat} (h : n ≤ 100000) : rngF [.int (n : Int)] = some ((List.range n).map fun i : Nat => .int (i : Int)) := by
  unfold rngF
  have : -(2 ^ 62) ≤ (n : Int) ∧ (n : Int) < 2 ^ 62 := by omega
  simp only [this, and_self, if_true, Int.toNat_natCast]
/-- plain data: whole numbers, texts, lists and tuples of them, not deeper than n -/
inductive Plain : Nat → PyData → Prop
  | int (n : Nat) (i : Int) : Plain n (.int i)
  | str (n : Nat) (x : Str) (h : x.length ≤ 16777216) : Plain n (.str x)
  | lst (n : Nat) (ds : List PyData) (h : ds.length ≤ 100000) (hd : ∀ d ∈ ds, Plain n d) : Plain (n + 1) (.list ds)
  | tup (n : Nat) (ds : List PyData) (h : ds.length ≤ 100000) (hd : ∀ d ∈ ds, Plain n d) : Plain (n + 1) (.tuple ds)
theorem Plain.up {n m : Nat} {d : PyData} (h : Plain n d) (hm : n ≤ m) : Plain m d := by
  induction h generalizing m with
  | int => exact .int _ _
  | str n x h => exact .str _ _ h
  | lst n ds h _ ih =>
    cases m with
    | zero => omega
    | succ m => exact .lst _ _ h fun d hd => ih d hd (by omega)
  | tup n ds h _ ih =>
    cases m with
    | zero => omega
    | succ m => exact .tup _ _ h fun d hd => ih d hd (by omega)
theorem yes_all (n : Nat) : boolsF ((List.range n).map fun i : Nat => PyData.bool true) = some ((List.range n).map fun _ => true) := boolsF_map _ fun _ => true
theorem alike_int (n : Nat) (i : Int) : SL__law_alike (n + 1) [.py (.int i), .py (.int i)] [] = some (.vl (.s (.py (.bool true))) []) := by
  rw [SL__law_alike]
  simp [b__law_alike, runF, Fx.Hd.own, Fx.TL.er, Fx.erAll, Fx.TL.get, Fx.TL.put, Fx.gget, Fx.gput, Fx.TL.addrs, Fx.TL.data, Fx.dataAll, Fx.msk, Fx.mulOk, Fx.addF, Fx.subF, Fx.mulF, Fx.fdivF, Fx.modF, Fx.powF, Fx.ltF, Fx.leF, Fx.gtF, Fx.geF, Fx.eqD, Fx.eqF, Fx.neF, Fx.isF, Fx.isntF, Fx.idxF, Fx.lenF, Fx.kindF, Fx.kitF, Fx.keyF, Fx.ixS, Fx.ixK, Fx.vVar, Fx.vC, Fx.vAt, Fx.dat, Fx.vD, Fx.vS, Fx.vPy, Fx.d2, Fx.dB, Fx.vB, Fx.bV, Fx.child, Fx.kidAt, Fx.vIdx, Fx.vGet, Fx.vFld, Fx.vLen, Fx.kindS, Fx.vIsi, Fx.vIsi2, Fx.aNil, Fx.aCons, Fx.vTup, Fx.nLst, Fx.vFz, Fx.bAnd, Fx.bOr, Fx.bNot, Fx.vIf, Fx.oNo, Fx.oI, Fx.cutF, Fx.vSlc, Fx.nSlc, Fx.negF, Fx.dNeg, Fx.rLenN, Fx.rIsiN, Fx.rIsiN2, Fx.nDct0, Fx.nDdt0, Fx.lendF, Fx.backF, Fx.headLt, Fx.voidF, Fx.tidy, Fx.callF, Fx.makeF, Fx.fP, Fx.fN, Fx.fB, Fx.rootF, Fx.dropLastF, Fx.fZ, Fx.push, Fx.gNo, Fx.gCo, Fx.fCall, Fx.fMake, Fx.fMeth, Fx.fBin2, Fx.fCmp2, Fx.fAnd, Fx.fOr, Fx.fNot, Fx.fBo, Fx.fMv, Fx.fOn, Fx.sNx, Fx.sBk, Fx.sCt, Fx.sRN, Fx.sSq, Fx.sDr, Fx.sRt, Fx.sIf, Fx.gN, Fx.gT0, Fx.gTC, Fx.gTu, Fx.takeRoot, Fx.sAs, Fx.sAt, Fx.childF, Fx.kidF, Fx.belowF, Fx.putAt, Fx.sFl, Fx.sPu, Fx.sSL, Fx.topPt, Fx.popTm, Fx.pushPt, Fx.sAp, Fx.sEx, Fx.fPop, Fx.sDe, Fx.pyAll, Fx.sEt, Fx.sFo, Fx.sFu, Fx.rngF, Fx.sFr, Fx.shiftS, Fx.lentF, Fx.dCall, Fx.nCall, Fx.iL, Fx.iLn, Fx.iT, Fx.iR, Fx.wipeR, Fx.bYes, Fx.nLc, Fx.boolsF, Fx.allF, Fx.d1, Fx.maxF, Fx.intF, Fx.nCopy, Fx.strsF, Fx.joinF, Fx.sRaise, msk_py, msk_no, msk_pt, List.isPrefixOf, List.cons_prefix_cons, List.nil_prefix]
theorem alike_str (n : Nat) (x : Str) : SL__law_alike (n + 1) [.py (.str x), .py (.str x)] [] = some (.vl (.s (.py (.bool true))) []) := by
  rw [SL__law_alike]
  simp [b__law_alike, runF, Fx.Hd.own, Fx.TL.er, Fx.erAll, Fx.TL.get, Fx.TL.put, Fx.gget, Fx.gput, Fx.TL.addrs, Fx.TL.data, Fx.dataAll, Fx.msk, Fx.mulOk, Fx.addF, Fx.subF, Fx.mulF, Fx.fdivF, Fx.modF, Fx.powF, Fx.ltF, Fx.leF, Fx.gtF, Fx.geF, Fx.eqD, Fx.eqF, Fx.neF, Fx.isF, Fx.isntF, Fx.idxF, Fx.lenF, Fx.kindF, Fx.kitF, Fx.keyF, Fx.ixS, Fx.ixK, Fx.vVar, Fx.vC, Fx.vAt, Fx.dat, Fx.vD, Fx.vS, Fx.vPy, Fx.d2, Fx.dB, Fx.vB, Fx.bV, Fx.child, Fx.kidAt, Fx.vIdx, Fx.vGet, Fx.vFld, Fx.vLen, Fx.kindS, Fx.vIsi, Fx.vIsi2, Fx.aNil, Fx.aCons, Fx.vTup, Fx.nLst, Fx.vFz, Fx.bAnd, Fx.bOr, Fx.bNot, Fx.vIf, Fx.oNo, Fx.oI, Fx.cutF, Fx.vSlc, Fx.nSlc, Fx.negF, Fx.dNeg, Fx.rLenN, Fx.rIsiN, Fx.rIsiN2, Fx.nDct0, Fx.nDdt0, Fx.lendF, Fx.backF, Fx.headLt, Fx.voidF, Fx.tidy, Fx.callF, Fx.makeF, Fx.fP, Fx.fN, Fx.fB, Fx.rootF, Fx.dropLastF, Fx.fZ, Fx.push, Fx.gNo, Fx.gCo, Fx.fCall, Fx.fMake, Fx.fMeth, Fx.fBin2, Fx.fCmp2, Fx.fAnd, Fx.fOr, Fx.fNot, Fx.fBo, Fx.fMv, Fx.fOn, Fx.sNx, Fx.sBk, Fx.sCt, Fx.sRN, Fx.sSq, Fx.sDr, Fx.sRt, Fx.sIf, Fx.gN, Fx.gT0, Fx.gTC, Fx.gTu, Fx.takeRoot, Fx.sAs, Fx.sAt, Fx.childF, Fx.kidF, Fx.belowF, Fx.putAt, Fx.sFl, Fx.sPu, Fx.sSL, Fx.topPt, Fx.popTm, Fx.pushPt, Fx.sAp, Fx.sEx, Fx.fPop, Fx.sDe, Fx.pyAll, Fx.sEt, Fx.sFo, Fx.sFu, Fx.rngF, Fx.sFr, Fx.shiftS, Fx.lentF, Fx.dCall, Fx.nCall, Fx.iL, Fx.iLn, Fx.iT, Fx.iR, Fx.wipeR, Fx.bYes, Fx.nLc, Fx.boolsF, Fx.allF, Fx.d1, Fx.maxF, Fx.intF, Fx.nCopy, Fx.strsF, Fx.joinF, Fx.sRaise, msk_py, msk_no, msk_pt, List.isPrefixOf, List.cons_prefix_cons, List.nil_prefix]
theorem alike_el (S : Sem) (d e : PyData) (ds es : List PyData) (i : Nat) (sl : List (Option Sv)) (tm : List (Option Sv)) (g : List T) (bs : Nat) (hd : d = .list ds ∨ d = .tuple ds) (he : e = .list es ∨ e = .tuple es) (hi : i < ds.length) (hj : i < es.length) (ih : S [.py ds[i], .py es[i]] [] = some (.vl (.s (.py (.bool true))) [])) : vS (dCall S (aCons (vD (vIdx (vVar 0) (vD (vVar 2)))) (aCons (vD (vIdx (vVar 1) (vD (vVar 2)))) aNil))) ⟨some (.py d) :: some (.py e) :: some (.py (.int i)) :: sl, tm, g, bs⟩ = some (.py (.bool true)) := by
  rcases hd with rfl | rfl <;> rcases he with rfl | rfl <;> simp [Fx.Hd.own, Fx.TL.er, Fx.erAll, Fx.TL.get, Fx.TL.put, Fx.gget, Fx.gput, Fx.TL.addrs, Fx.TL.data, Fx.dataAll, Fx.msk, Fx.mulOk, Fx.addF, Fx.subF, Fx.mulF, Fx.fdivF, Fx.modF, Fx.powF, Fx.ltF, Fx.leF, Fx.gtF, Fx.geF, Fx.eqD, Fx.eqF, Fx.neF, Fx.isF, Fx.isntF, Fx.idxF, Fx.lenF, Fx.kindF, Fx.kitF, Fx.keyF, Fx.ixS, Fx.ixK, Fx.vVar, Fx.vC, Fx.vAt, Fx.dat, Fx.vD, Fx.vS, Fx.vPy, Fx.d2, Fx.dB, Fx.vB, Fx.bV, Fx.child, Fx.kidAt, Fx.vIdx, Fx.vGet, Fx.vFld, Fx.vLen, Fx.kindS, Fx.vIsi, Fx.vIsi2, Fx.aNil, Fx.aCons, Fx.vTup, Fx.nLst, Fx.vFz, Fx.bAnd, Fx.bOr, Fx.bNot, Fx.vIf, Fx.oNo, Fx.oI, Fx.cutF, Fx.vSlc, Fx.nSlc, Fx.negF, Fx.dNeg, Fx.rLenN, Fx.rIsiN, Fx.rIsiN2, Fx.nDct0, Fx.nDdt0, Fx.lendF, Fx.backF, Fx.headLt, Fx.voidF, Fx.tidy, Fx.callF, Fx.makeF, Fx.fP, Fx.fN, Fx.fB, Fx.rootF, Fx.dropLastF, Fx.fZ, Fx.push, Fx.gNo, Fx.gCo, Fx.fCall, Fx.fMake, Fx.fMeth, Fx.fBin2, Fx.fCmp2, Fx.fAnd, Fx.fOr, Fx.fNot, Fx.fBo, Fx.fMv, Fx.fOn, Fx.sNx, Fx.sBk, Fx.sCt, Fx.sRN, Fx.sSq, Fx.sDr, Fx.sRt, Fx.sIf, Fx.gN, Fx.gT0, Fx.gTC, Fx.gTu, Fx.takeRoot, Fx.sAs, Fx.sAt, Fx.childF, Fx.kidF, Fx.belowF, Fx.putAt, Fx.sFl, Fx.sPu, Fx.sSL, Fx.topPt, Fx.popTm, Fx.pushPt, Fx.sAp, Fx.sEx, Fx.fPop, Fx.sDe, Fx.pyAll, Fx.sEt, Fx.sFo, Fx.sFu, Fx.rngF, Fx.sFr, Fx.shiftS, Fx.lentF, Fx.dCall, Fx.nCall, Fx.iL, Fx.iLn, Fx.iT, Fx.iR, Fx.wipeR, Fx.bYes, Fx.nLc, Fx.boolsF, Fx.allF, Fx.d1, Fx.maxF, Fx.intF, Fx.nCopy, Fx.strsF, Fx.joinF, Fx.sRaise, msk_py, msk_no, msk_pt, List.isPrefixOf, List.cons_prefix_cons, List.nil_prefix, atI_nat hi, atI_nat hj, ih, noList]
theorem alike_el2 (S : Sem) (d : PyData) (ds es : List PyData) (i : Nat) (sl : List (Option Sv)) (tm : List (Option Sv)) (g : List T) (bs : Nat) (hg : g[3]? = some (.nd () .lst (es.map .py))) (hd : d = .list ds ∨ d = .tuple ds) (hi : i < ds.length) (hj : i < es.length) (ih : S [.py ds[i], .py es[i]] [] = some (.vl (.s (.py (.bool true))) [])) : vS (dCall S (aCons (vD (vIdx (vVar 0) (vD (vVar 2)))) (aCons (vD (vIdx (vVar 1) (vD (vVar 2)))) aNil))) ⟨some (.py d) :: some (.pt [3]) :: some (.py (.int i)) :: sl, tm, g, bs⟩ = some (.py (.bool true)) := by
  have e : ixN (es.map (TL.py : PyData → T)).length (i : Int) = some i := Evl.ixN_nat (by simpa using hj)
  simp only [List.length_map] at e
  rcases hd with rfl | rfl <;> simp [Fx.Hd.own, Fx.TL.er, Fx.erAll, Fx.TL.get, Fx.TL.put, Fx.gget, Fx.gput, Fx.TL.addrs, Fx.TL.data, Fx.dataAll, Fx.msk, Fx.mulOk, Fx.addF, Fx.subF, Fx.mulF, Fx.fdivF, Fx.modF, Fx.powF, Fx.ltF, Fx.leF, Fx.gtF, Fx.geF, Fx.eqD, Fx.eqF, Fx.neF, Fx.isF, Fx.isntF, Fx.idxF, Fx.lenF, Fx.kindF, Fx.kitF, Fx.keyF, Fx.ixS, Fx.ixK, Fx.vVar, Fx.vC, Fx.vAt, Fx.dat, Fx.vD, Fx.vS, Fx.vPy, Fx.d2, Fx.dB, Fx.vB, Fx.bV, Fx.child, Fx.kidAt, Fx.vIdx, Fx.vGet, Fx.vFld, Fx.vLen, Fx.kindS, Fx.vIsi, Fx.vIsi2, Fx.aNil, Fx.aCons, Fx.vTup, Fx.nLst, Fx.vFz, Fx.bAnd, Fx.bOr, Fx.bNot, Fx.vIf, Fx.oNo, Fx.oI, Fx.cutF, Fx.vSlc, Fx.nSlc, Fx.negF, Fx.dNeg, Fx.rLenN, Fx.rIsiN, Fx.rIsiN2, Fx.nDct0, Fx.nDdt0, Fx.lendF, Fx.backF, Fx.headLt, Fx.voidF, Fx.tidy, Fx.callF, Fx.makeF, Fx.fP, Fx.fN, Fx.fB, Fx.rootF, Fx.dropLastF, Fx.fZ, Fx.push, Fx.gNo, Fx.gCo, Fx.fCall, Fx.fMake, Fx.fMeth, Fx.fBin2, Fx.fCmp2, Fx.fAnd, Fx.fOr, Fx.fNot, Fx.fBo, Fx.fMv, Fx.fOn, Fx.sNx, Fx.sBk, Fx.sCt, Fx.sRN, Fx.sSq, Fx.sDr, Fx.sRt, Fx.sIf, Fx.gN, Fx.gT0, Fx.gTC, Fx.gTu, Fx.takeRoot, Fx.sAs, Fx.sAt, Fx.childF, Fx.kidF, Fx.belowF, Fx.putAt, Fx.sFl, Fx.sPu, Fx.sSL, Fx.topPt, Fx.popTm, Fx.pushPt, Fx.sAp, Fx.sEx, Fx.fPop, Fx.sDe, Fx.pyAll, Fx.sEt, Fx.sFo, Fx.sFu, Fx.rngF, Fx.sFr, Fx.shiftS, Fx.lentF, Fx.dCall, Fx.nCall, Fx.iL, Fx.iLn, Fx.iT, Fx.iR, Fx.wipeR, Fx.bYes, Fx.nLc, Fx.boolsF, Fx.allF, Fx.d1, Fx.maxF, Fx.intF, Fx.nCopy, Fx.strsF, Fx.joinF, Fx.sRaise, msk_py, msk_no, msk_pt, List.isPrefixOf, List.cons_prefix_cons, List.nil_prefix, atI_nat hi, hg, e, hj, ih, noList]
theorem alike_bod (S : Sem) (f : Rh → Option (Hd × List PyData)) (hf : h__law_alike_1 S = f) (n : Nat) (d : PyData) (ds : List PyData) (hd : d = .list ds ∨ d = .tuple ds) (hc : f ⟨[some (.py d), some (.py d), none], [], [.un (), .un (), .un ()], 3⟩ = some (.lst, (List.range n).map fun i : Nat => PyData.bool true)) : runF 2 3 (b__law_alike S) [.py d, .py d] [] = some (.vl (.s (.py (.bool true))) []) := by
  unfold b__law_alike
  rw [hf]
  rcases hd with rfl | rfl <;> simp [runF, Fx.Hd.own, Fx.TL.er, Fx.erAll, Fx.TL.get, Fx.TL.put, Fx.gget, Fx.gput, Fx.TL.addrs, Fx.TL.data, Fx.dataAll, Fx.msk, Fx.mulOk, Fx.addF, Fx.subF, Fx.mulF, Fx.fdivF, Fx.modF, Fx.powF, Fx.ltF, Fx.leF, Fx.gtF, Fx.geF, Fx.eqD, Fx.eqF, Fx.neF, Fx.isF, Fx.isntF, Fx.idxF, Fx.lenF, Fx.kindF, Fx.kitF, Fx.keyF, Fx.ixS, Fx.ixK, Fx.vVar, Fx.vC, Fx.vAt, Fx.dat, Fx.vD, Fx.vS, Fx.vPy, Fx.d2, Fx.dB, Fx.vB, Fx.bV, Fx.child, Fx.kidAt, Fx.vIdx, Fx.vGet, Fx.vFld, Fx.vLen, Fx.kindS, Fx.vIsi, Fx.vIsi2, Fx.aNil, Fx.aCons, Fx.vTup, Fx.nLst, Fx.vFz, Fx.bAnd, Fx.bOr, Fx.bNot, Fx.vIf, Fx.oNo, Fx.oI, Fx.cutF, Fx.vSlc, Fx.nSlc, Fx.negF, Fx.dNeg, Fx.rLenN, Fx.rIsiN, Fx.rIsiN2, Fx.nDct0, Fx.nDdt0, Fx.lendF, Fx.backF, Fx.headLt, Fx.voidF, Fx.tidy, Fx.callF, Fx.makeF, Fx.fP, Fx.fN, Fx.fB, Fx.rootF, Fx.dropLastF, Fx.fZ, Fx.push, Fx.gNo, Fx.gCo, Fx.fCall, Fx.fMake, Fx.fMeth, Fx.fBin2, Fx.fCmp2, Fx.fAnd, Fx.fOr, Fx.fNot, Fx.fBo, Fx.fMv, Fx.fOn, Fx.sNx, Fx.sBk, Fx.sCt, Fx.sRN, Fx.sSq, Fx.sDr, Fx.sRt, Fx.sIf, Fx.gN, Fx.gT0, Fx.gTC, Fx.gTu, Fx.takeRoot, Fx.sAs, Fx.sAt, Fx.childF, Fx.kidF, Fx.belowF, Fx.putAt, Fx.sFl, Fx.sPu, Fx.sSL, Fx.topPt, Fx.popTm, Fx.pushPt, Fx.sAp, Fx.sEx, Fx.fPop, Fx.sDe, Fx.pyAll, Fx.sEt, Fx.sFo, Fx.sFu, Fx.rngF, Fx.sFr, Fx.shiftS, Fx.lentF, Fx.dCall, Fx.nCall, Fx.iL, Fx.iLn, Fx.iT, Fx.iR, Fx.wipeR, Fx.bYes, Fx.nLc, Fx.boolsF, Fx.allF, Fx.d1, Fx.maxF, Fx.intF, Fx.nCopy, Fx.strsF, Fx.joinF, Fx.sRaise, msk_py, msk_no, msk_pt, List.isPrefixOf, List.cons_prefix_cons, List.nil_prefix, hc, yes_all, noList]
theorem alike_bod2 (S : Sem) (f : Rh → Option (Hd × List PyData)) (hf : h__law_alike_1 S = f) (n : Nat) (ds : List PyData) (hc : f ⟨[some (.py (.list ds)), some (.pt [3]), none], [], [.un (), .un (), .un (), .nd () .lst (ds.map .py)], 4⟩ = some (.lst, (List.range n).map fun i : Nat => PyData.bool true)) : runF 2 3 (b__law_alike S) [.py (.list ds), .pt [0]] [.nd () .lst (ds.map .py)] = some (.vl (.s (.py (.bool true))) [.nd () .lst (ds.map .py)]) := by
  unfold b__law_alike
  rw [hf]
  simp [runF, Fx.Hd.own, Fx.TL.er, Fx.erAll, Fx.TL.get, Fx.TL.put, Fx.gget, Fx.gput, Fx.TL.addrs, Fx.TL.data, Fx.dataAll, Fx.msk, Fx.mulOk, Fx.addF, Fx.subF, Fx.mulF, Fx.fdivF, Fx.modF, Fx.powF, Fx.ltF, Fx.leF, Fx.gtF, Fx.geF, Fx.eqD, Fx.eqF, Fx.neF, Fx.isF, Fx.isntF, Fx.idxF, Fx.lenF, Fx.kindF, Fx.kitF, Fx.keyF, Fx.ixS, Fx.ixK, Fx.vVar, Fx.vC, Fx.vAt, Fx.dat, Fx.vD, Fx.vS, Fx.vPy, Fx.d2, Fx.dB, Fx.vB, Fx.bV, Fx.child, Fx.kidAt, Fx.vIdx, Fx.vGet, Fx.vFld, Fx.vLen, Fx.kindS, Fx.vIsi, Fx.vIsi2, Fx.aNil, Fx.aCons, Fx.vTup, Fx.nLst, Fx.vFz, Fx.bAnd, Fx.bOr, Fx.bNot, Fx.vIf, Fx.oNo, Fx.oI, Fx.cutF, Fx.vSlc, Fx.nSlc, Fx.negF, Fx.dNeg, Fx.rLenN, Fx.rIsiN, Fx.rIsiN2, Fx.nDct0, Fx.nDdt0, Fx.lendF, Fx.backF, Fx.headLt, Fx.voidF, Fx.tidy, Fx.callF, Fx.makeF, Fx.fP, Fx.fN, Fx.fB, Fx.rootF, Fx.dropLastF, Fx.fZ, Fx.push, Fx.gNo, Fx.gCo, Fx.fCall, Fx.fMake, Fx.fMeth, Fx.fBin2, Fx.fCmp2, Fx.fAnd, Fx.fOr, Fx.fNot, Fx.fBo, Fx.fMv, Fx.fOn, Fx.sNx, Fx.sBk, Fx.sCt, Fx.sRN, Fx.sSq, Fx.sDr, Fx.sRt, Fx.sIf, Fx.gN, Fx.gT0, Fx.gTC, Fx.gTu, Fx.takeRoot, Fx.sAs, Fx.sAt, Fx.childF, Fx.kidF, Fx.belowF, Fx.putAt, Fx.sFl, Fx.sPu, Fx.sSL, Fx.topPt, Fx.popTm, Fx.pushPt, Fx.sAp, Fx.sEx, Fx.fPop, Fx.sDe, Fx.pyAll, Fx.sEt, Fx.sFo, Fx.sFu, Fx.rngF, Fx.sFr, Fx.shiftS, Fx.lentF, Fx.dCall, Fx.nCall, Fx.iL, Fx.iLn, Fx.iT, Fx.iR, Fx.wipeR, Fx.bYes, Fx.nLc, Fx.boolsF, Fx.allF, Fx.d1, Fx.maxF, Fx.intF, Fx.nCopy, Fx.strsF, Fx.joinF, Fx.sRaise, msk_py, msk_no, msk_pt, List.isPrefixOf, List.cons_prefix_cons, List.nil_prefix, hc, yes_all, noList]
theorem alike_seq (S : Sem) (d : PyData) (ds : List PyData) (hd : d = .list ds ∨ d = .tuple ds) (h : ds.length ≤ 100000) (ih : ∀ d ∈ ds, S [.py d, .py d] [] = some (.vl (.s (.py (.bool true))) [])) : runF 2 3 (b__law_alike S) [.py d, .py d] [] = some (.vl (.s (.py (.bool true))) []) := by
  refine alike_bod S _ rfl ds.length d ds hd ?_
  unfold h__law_alike_1
  have e := nLc_some (vs := [2]) (it := iR (aCons (vD (vLen (vVar 1))) aNil)) (tg := gN 2) (c := bYes) (e := vS (dCall S (aCons (vD (vIdx (vVar 0) (vD (vVar 2)))) (aCons (vD (vIdx (vVar 1) (vD (vVar 2)))) aNil)))) (ρ := ⟨[some (.py d), some (.py d), none], [], [.un (), .un (), .un ()], 3⟩) (ds := (List.range ds.length).map fun i : Nat => PyData.int (i : Int)) (xs := ((List.range ds.length).map fun i : Nat => PyData.int (i : Int)).map fun _ => .bool true) ?_ (by simpa using h) (collect_map _ fun x hx => ?_)
  · rw [List.map_map] at e; exact e
  · rcases hd with rfl | rfl <;> simp [Fx.Hd.own, Fx.TL.er, Fx.erAll, Fx.TL.get, Fx.TL.put, Fx.gget, Fx.gput, Fx.TL.addrs, Fx.TL.data, Fx.dataAll, Fx.msk, Fx.mulOk, Fx.addF, Fx.subF, Fx.mulF, Fx.fdivF, Fx.modF, Fx.powF, Fx.ltF, Fx.leF, Fx.gtF, Fx.geF, Fx.eqD, Fx.eqF, Fx.neF, Fx.isF, Fx.isntF, Fx.idxF, Fx.lenF, Fx.kindF, Fx.kitF, Fx.keyF, Fx.ixS, Fx.ixK, Fx.vVar, Fx.vC, Fx.vAt, Fx.dat, Fx.vD, Fx.vS, Fx.vPy, Fx.d2, Fx.dB, Fx.vB, Fx.bV, Fx.child, Fx.kidAt, Fx.vIdx, Fx.vGet, Fx.vFld, Fx.vLen, Fx.kindS, Fx.vIsi, Fx.vIsi2, Fx.aNil, Fx.aCons, Fx.vTup, Fx.nLst, Fx.vFz, Fx.bAnd, Fx.bOr, Fx.bNot, Fx.vIf, Fx.oNo, Fx.oI, Fx.cutF, Fx.vSlc, Fx.nSlc, Fx.negF, Fx.dNeg, Fx.rLenN, Fx.rIsiN, Fx.rIsiN2, Fx.nDct0, Fx.nDdt0, Fx.lendF, Fx.backF, Fx.headLt, Fx.voidF, Fx.tidy, Fx.callF, Fx.makeF, Fx.fP, Fx.fN, Fx.fB, Fx.rootF, Fx.dropLastF, Fx.fZ, Fx.push, Fx.gNo, Fx.gCo, Fx.fCall, Fx.fMake, Fx.fMeth, Fx.fBin2, Fx.fCmp2, Fx.fAnd, Fx.fOr, Fx.fNot, Fx.fBo, Fx.fMv, Fx.fOn, Fx.sNx, Fx.sBk, Fx.sCt, Fx.sRN, Fx.sSq, Fx.sDr, Fx.sRt, Fx.sIf, Fx.gN, Fx.gT0, Fx.gTC, Fx.gTu, Fx.takeRoot, Fx.sAs, Fx.sAt, Fx.childF, Fx.kidF, Fx.belowF, Fx.putAt, Fx.sFl, Fx.sPu, Fx.sSL, Fx.topPt, Fx.popTm, Fx.pushPt, Fx.sAp, Fx.sEx, Fx.fPop, Fx.sDe, Fx.pyAll, Fx.sEt, Fx.sFo, Fx.sFu, Fx.sFr, Fx.shiftS, Fx.lentF, Fx.dCall, Fx.nCall, Fx.iL, Fx.iLn, Fx.iT, Fx.iR, Fx.wipeR, Fx.bYes, Fx.nLc, Fx.boolsF, Fx.allF, Fx.d1, Fx.maxF, Fx.intF, Fx.nCopy, Fx.strsF, Fx.joinF, Fx.sRaise, msk_py, msk_no, msk_pt, List.isPrefixOf, List.cons_prefix_cons, List.nil_prefix, rngF_nat h]
  · obtain ⟨i, hi, rfl⟩ := List.mem_map.mp hx
    have hi : i < ds.length := by simpa using hi
    exact ⟨_, rfl, rfl, alike_el S d d ds ds i [] _ _ _ hd hd hi hi (ih _ (by simp))⟩
theorem alike_tree (S : Sem) (ds : List PyData) (h : ds.length ≤ 100000) (ih : ∀ d ∈ ds, S [.py d, .py d] [] = some (.vl (.s (.py (.bool true))) [])) : runF 2 3 (b__law_alike S) [.py (.list ds), .pt [0]] [.nd () .lst (ds.map .py)] = some (.vl (.s (.py (.bool true))) [.nd () .lst (ds.map .py)]) := by
  refine alike_bod2 S _ rfl ds.length ds ?_
  unfold h__law_alike_1
  have e := nLc_some (vs := [2]) (it := iR (aCons (vD (vLen (vVar 1))) aNil)) (tg := gN 2) (c := bYes) (e := vS (dCall S (aCons (vD (vIdx (vVar 0) (vD (vVar 2)))) (aCons (vD (vIdx (vVar 1) (vD (vVar 2)))) aNil)))) (ρ := ⟨[some (.py (.list ds)), some (.pt [3]), none], [], [.un (), .un (), .un (), .nd () .lst (ds.map .py)], 4⟩) (ds := (List.range ds.length).map fun i : Nat => PyData.int (i : Int)) (xs := ((List.range ds.length).map fun i : Nat => PyData.int (i : Int)).map fun _ => .bool true) ?_ (by simpa using h) (collect_map _ fun x hx => ?_)
  · rw [List.map_map] at e; exact e
  · simp [Fx.Hd.own, Fx.TL.er, Fx.erAll, Fx.TL.get, Fx.TL.put, Fx.gget, Fx.gput, Fx.TL.addrs, Fx.TL.data, Fx.dataAll, Fx.msk, Fx.mulOk, Fx.addF, Fx.subF, Fx.mulF, Fx.fdivF, Fx.modF, Fx.powF, Fx.ltF, Fx.leF, Fx.gtF, Fx.geF, Fx.eqD, Fx.eqF, Fx.neF, Fx.isF, Fx.isntF, Fx.idxF, Fx.lenF, Fx.kindF, Fx.kitF, Fx.keyF, Fx.ixS, Fx.ixK, Fx.vVar, Fx.vC, Fx.vAt, Fx.dat, Fx.vD, Fx.vS, Fx.vPy, Fx.d2, Fx.dB, Fx.vB, Fx.bV, Fx.child, Fx.kidAt, Fx.vIdx, Fx.vGet, Fx.vFld, Fx.vLen, Fx.kindS, Fx.vIsi, Fx.vIsi2, Fx.aNil, Fx.aCons, Fx.vTup, Fx.nLst, Fx.vFz, Fx.bAnd, Fx.bOr, Fx.bNot, Fx.vIf, Fx.oNo, Fx.oI, Fx.cutF, Fx.vSlc, Fx.nSlc, Fx.negF, Fx.dNeg, Fx.rLenN, Fx.rIsiN, Fx.rIsiN2, Fx.nDct0, Fx.nDdt0, Fx.lendF, Fx.backF, Fx.headLt, Fx.voidF, Fx.tidy, Fx.callF, Fx.makeF, Fx.fP, Fx.fN, Fx.fB, Fx.rootF, Fx.dropLastF, Fx.fZ, Fx.push, Fx.gNo, Fx.gCo, Fx.fCall, Fx.fMake, Fx.fMeth, Fx.fBin2, Fx.fCmp2, Fx.fAnd, Fx.fOr, Fx.fNot, Fx.fBo, Fx.fMv, Fx.fOn, Fx.sNx, Fx.sBk, Fx.sCt, Fx.sRN, Fx.sSq, Fx.sDr, Fx.sRt, Fx.sIf, Fx.gN, Fx.gT0, Fx.gTC, Fx.gTu, Fx.takeRoot, Fx.sAs, Fx.sAt, Fx.childF, Fx.kidF, Fx.belowF, Fx.putAt, Fx.sFl, Fx.sPu, Fx.sSL, Fx.topPt, Fx.popTm, Fx.pushPt, Fx.sAp, Fx.sEx, Fx.fPop, Fx.sDe, Fx.pyAll, Fx.sEt, Fx.sFo, Fx.sFu, Fx.sFr, Fx.shiftS, Fx.lentF, Fx.dCall, Fx.nCall, Fx.iL, Fx.iLn, Fx.iT, Fx.iR, Fx.wipeR, Fx.bYes, Fx.nLc, Fx.boolsF, Fx.allF, Fx.d1, Fx.maxF, Fx.intF, Fx.nCopy, Fx.strsF, Fx.joinF, Fx.sRaise, msk_py, msk_no, msk_pt, List.isPrefixOf, List.cons_prefix_cons, List.nil_prefix, rngF_nat h]
  · obtain ⟨i, hi, rfl⟩ := List.mem_map.mp hx
    have hi : i < ds.length := by simpa using hi
    exact ⟨_, rfl, rfl, alike_el2 S _ ds ds i [] _ _ _ rfl (.inl rfl) hi hi (ih _ (by simp))⟩
theorem alike_ok {n : Nat} {d : PyData} (h : Plain n d) : SL__law_alike (n + 1) [.py d, .py d] [] = some (.vl (.s (.py (.bool true))) []) := by
  induction h with
  | int n i => exact alike_int n i
  | str n x h => exact alike_str n x
  | lst n ds h _ ih => exact alike_seq _ _ ds (.inl rfl) h ih
  | tup n ds h _ ih => exact alike_seq _ _ ds (.inr rfl) h ih
theorem alike_okT {n : Nat} {ds : List PyData} (h : ds.length ≤ 100000) (hd : ∀ d ∈ ds, Plain n d) : SL__law_alike (n + 2) [.py (.list ds), .pt [0]] [.nd () .lst (ds.map .py)] = some (.vl (.s (.py (.bool true))) [.nd () .lst (ds.map .py)]) :=
  alike_tree _ ds h fun d h => alike_ok (hd d h)
/-! ### the wish -/
inductive Wish where
  | get | set (n : Int) | add (n : Int)
  deriving DecidableEq
def Wish.d : Wish → PyData
  | .get => .tuple [.str "get"]
  | .set n => .tuple [.str "set", .int n]
  | .add n => .tuple [.str "add", .int n]
def wishOf (c : Int) : Wish :=
  let n := if c / 3 % 2 = 1 then c / 6 % (2 * 10 ^ 30 + 1) - 10 ^ 30 else c / 6 % 7 - 3
  if c % 3 = 0 then .get else if c % 3 = 1 then .set n else .add n
theorem noList_wish (w : Wish) : noList w.d = true := by cases w <;> rfl
theorem wish_ok (c : Int) : S__law_wish [.py (.int c)] [] = some (.vl (.s (.py (wishOf c).d)) []) := by
  have h3 : c % 3 = 0 ∨ c % 3 = 1 ∨ c % 3 = 2 := by omega
  by_cases h : c / 3 % 2 = 1
  · rcases h3 with h3 | h3 | h3 <;> simp [S__law_wish, b__law_wish, runF, Fx.Hd.own, Fx.TL.er, Fx.erAll, Fx.TL.get, Fx.TL.put, Fx.gget, Fx.gput, Fx.TL.addrs, Fx.TL.data, Fx.dataAll, Fx.msk, Fx.mulOk, Fx.addF, Fx.subF, Fx.mulF, Fx.fdivF, Fx.modF, Fx.powF, Fx.ltF, Fx.leF, Fx.gtF, Fx.geF, Fx.eqD, Fx.eqF, Fx.neF, Fx.isF, Fx.isntF, Fx.idxF, Fx.lenF, Fx.kindF, Fx.kitF, Fx.keyF, Fx.ixS, Fx.ixK, Fx.vVar, Fx.vC, Fx.vAt, Fx.dat, Fx.vD, Fx.vS, Fx.vPy, Fx.d2, Fx.dB, Fx.vB, Fx.bV, Fx.child, Fx.kidAt, Fx.vIdx, Fx.vGet, Fx.vFld, Fx.vLen, Fx.kindS, Fx.vIsi, Fx.vIsi2, Fx.aNil, Fx.aCons, Fx.vTup, Fx.nLst, Fx.vFz, Fx.bAnd, Fx.bOr, Fx.bNot, Fx.vIf, Fx.oNo, Fx.oI, Fx.cutF, Fx.vSlc, Fx.nSlc, Fx.negF, Fx.dNeg, Fx.rLenN, Fx.rIsiN, Fx.rIsiN2, Fx.nDct0, Fx.nDdt0, Fx.lendF, Fx.backF, Fx.headLt, Fx.voidF, Fx.tidy, Fx.callF, Fx.makeF, Fx.fP, Fx.fN, Fx.fB, Fx.rootF, Fx.dropLastF, Fx.fZ, Fx.push, Fx.gNo, Fx.gCo, Fx.fCall, Fx.fMake, Fx.fMeth, Fx.fBin2, Fx.fCmp2, Fx.fAnd, Fx.fOr, Fx.fNot, Fx.fBo, Fx.fMv, Fx.fOn, Fx.sNx, Fx.sBk, Fx.sCt, Fx.sRN, Fx.sSq, Fx.sDr, Fx.sRt, Fx.sIf, Fx.gN, Fx.gT0, Fx.gTC, Fx.gTu, Fx.takeRoot, Fx.sAs, Fx.sAt, Fx.childF, Fx.kidF, Fx.belowF, Fx.putAt, Fx.sFl, Fx.sPu, Fx.sSL, Fx.topPt, Fx.popTm, Fx.pushPt, Fx.sAp, Fx.sEx, Fx.fPop, Fx.sDe, Fx.pyAll, Fx.sEt, Fx.sFo, Fx.sFu, Fx.rngF, Fx.sFr, Fx.shiftS, Fx.lentF, Fx.dCall, Fx.nCall, Fx.iL, Fx.iLn, Fx.iT, Fx.iR, Fx.wipeR, Fx.bYes, Fx.nLc, Fx.boolsF, Fx.allF, Fx.d1, Fx.maxF, Fx.intF, Fx.nCopy, Fx.strsF, Fx.joinF, Fx.sRaise, msk_py, msk_no, msk_pt, List.isPrefixOf, List.cons_prefix_cons, List.nil_prefix, noList, noLists, atI, ixN, h, h3, wishOf, Wish.d]
  · rcases h3 with h3 | h3 | h3 <;> simp [S__law_wish, b__law_wish, runF, Fx.Hd.own, Fx.TL.er, Fx.erAll, Fx.TL.get, Fx.TL.put, Fx.gget, Fx.gput, Fx.TL.addrs, Fx.TL.data, Fx.dataAll, Fx.msk, Fx.mulOk, Fx.addF, Fx.subF, Fx.mulF, Fx.fdivF, Fx.modF, Fx.powF, Fx.ltF, Fx.leF, Fx.gtF, Fx.geF, Fx.eqD, Fx.eqF, Fx.neF, Fx.isF, Fx.isntF, Fx.idxF, Fx.lenF, Fx.kindF, Fx.kitF, Fx.keyF, Fx.ixS, Fx.ixK, Fx.vVar, Fx.vC, Fx.vAt, Fx.dat, Fx.vD, Fx.vS, Fx.vPy, Fx.d2, Fx.dB, Fx.vB, Fx.bV, Fx.child, Fx.kidAt, Fx.vIdx, Fx.vGet, Fx.vFld, Fx.vLen, Fx.kindS, Fx.vIsi, Fx.vIsi2, Fx.aNil, Fx.aCons, Fx.vTup, Fx.nLst, Fx.vFz, Fx.bAnd, Fx.bOr, Fx.bNot, Fx.vIf, Fx.oNo, Fx.oI, Fx.cutF, Fx.vSlc, Fx.nSlc, Fx.negF, Fx.dNeg, Fx.rLenN, Fx.rIsiN, Fx.rIsiN2, Fx.nDct0, Fx.nDdt0, Fx.lendF, Fx.backF, Fx.headLt, Fx.voidF, Fx.tidy, Fx.callF, Fx.makeF, Fx.fP, Fx.fN, Fx.fB, Fx.rootF, Fx.dropLastF, Fx.fZ, Fx.push, Fx.gNo, Fx.gCo, Fx.fCall, Fx.fMake, Fx.fMeth, Fx.fBin2, Fx.fCmp2, Fx.fAnd, Fx.fOr, Fx.fNot, Fx.fBo, Fx.fMv, Fx.fOn, Fx.sNx, Fx.sBk, Fx.sCt, Fx.sRN, Fx.sSq, Fx.sDr, Fx.sRt, Fx.sIf, Fx.gN, Fx.gT0, Fx.gTC, Fx.gTu, Fx.takeRoot, Fx.sAs, Fx.sAt, Fx.childF, Fx.kidF, Fx.belowF, Fx.putAt, Fx.sFl, Fx.sPu, Fx.sSL, Fx.topPt, Fx.popTm, Fx.pushPt, Fx.sAp, Fx.sEx, Fx.fPop, Fx.sDe, Fx.pyAll, Fx.sEt, Fx.sFo, Fx.sFu, Fx.rngF, Fx.sFr, Fx.shiftS, Fx.lentF, Fx.dCall, Fx.nCall, Fx.iL, Fx.iLn, Fx.iT, Fx.iR, Fx.wipeR, Fx.bYes, Fx.nLc, Fx.boolsF, Fx.allF, Fx.d1, Fx.maxF, Fx.intF, Fx.nCopy, Fx.strsF, Fx.joinF, Fx.sRaise, msk_py, msk_no, msk_pt, List.isPrefixOf, List.cons_prefix_cons, List.nil_prefix, noList, noLists, atI, ixN, h, h3, wishOf, Wish.d]
end Mo

namespace L
open PySem L2 Fx Mo
def h__law_stands_1 : Rh → Option Oc :=
  (sIf (fNot (fBo (fCall S__law_alike 2 (gCo (fZ (fMeth "Caller" "letter" S_Caller_letter 1 (vVar 0) (gCo (fP (vVar 5)) gNo))) (gCo (fP (vS (d2 addF (vD (vTup (aCons (vPy (vC (.str "call"))) (aCons (vPy (vVar 5)) (aCons (vPy (vVar 1)) aNil))))) (vD (vVar 2))))) gNo))))) (sRt (fP (vC (.bool false)))) sNx)
def b__law_stands : Rh → Option Oc :=
  (sSq (sIf (fOr (fAnd (fB (dB isF (vD (vVar 2)) (vPy (vC .none)))) (fBo (fCmp2 isntF (fZ (fMeth "Caller" "asking" S_Caller_asking 0 (vVar 0) gNo)) (fP (vC .none))))) (fAnd (fB (dB isntF (vD (vVar 2)) (vPy (vC .none)))) (fNot (fBo (fCall S__law_alike 2 (gCo (fZ (fMeth "Caller" "asking" S_Caller_asking 0 (vVar 0) gNo)) (gCo (fP (vVar 2)) gNo))))))) (sRt (fP (vC (.bool false)))) sNx)
    (sSq (sAs 4 (fMeth "Caller" "answers" S_Caller_answers 0 (vVar 0) gNo))
    (sSq (sIf (fB (bNot (bV (vS (dCall S__law_alike (aCons (vD (vVar 4)) (aCons (vD (vVar 3)) aNil))))))) (sRt (fP (vC (.bool false)))) sNx)
    (sSq (sAp (vVar 4) (fP (vTup (aCons (vPy (vC (.int 0))) (aCons (vPy (vC (.int 0))) aNil)))))
    (sSq (sIf (fB (dB isntF (vD (vVar 2)) (vPy (vC .none)))) (sFr (aCons (vPy (vC (.int 2))) aNil) (gN 5) h__law_stands_1) sNx)
    (sRt (fCall S__law_alike 2 (gCo (fZ (fMeth "Caller" "answers" S_Caller_answers 0 (vVar 0) gNo)) (gCo (fP (vVar 3)) gNo)))))))))
def S__law_stands : Sem := runF 4 6 b__law_stands
def h_law_1 : Rh → Option Oc :=
  (sSq (sAs 8 (fP (vS (d2 fdivF (vD (vVar 7)) (vPy (vC (.int 4)))))))
    (sSq (sIf (fB (bAnd (dB isF (vD (vVar 5)) (vPy (vC .none))) (dB gtF (d2 modF (vD (vVar 7)) (vPy (vC (.int 4)))) (vPy (vC (.int 0)))))) (sSq (sAs 4 (fP (vS (d2 addF (vD (vVar 4)) (vPy (vC (.int 1)))))))
    (sSq (sAs 5 (fP (vTup (aCons (vPy (vVar 4)) (aCons (vPy (vSlc (vC (.str "abc")) oNo (oI (d2 addF (vPy (vC (.int 1))) (d2 modF (vD (vVar 8)) (vPy (vC (.int 3)))))))) (aCons (vPy (vS (dCall S__law_wish (aCons (d2 fdivF (d2 mulF (d2 addF (vD (vVar 8)) (vPy (vC (.int 1)))) (vPy (vC (.int 48271)))) (vPy (vC (.int 5)))) aNil)))) aNil))))))
    (sIf (fNot (fBo (fCall S__law_alike 2 (gCo (fZ (fMeth "Caller" "begin" S_Caller_begin 2 (vVar 2) (gCo (fP (vIdx (vVar 5) (vPy (vC (.int 1))))) (gCo (fP (vIdx (vVar 5) (vPy (vC (.int 2))))) gNo)))) (gCo (fP (vVar 4)) gNo))))) (sRt (fP (vC (.bool false)))) sNx))) (sSq (sAs 9 (fP (vIdx (vFz (nLst (aCons (vPy (vVar 4)) (aCons (vPy (vVar 4)) (aCons (vPy (vS (d2 subF (vD (vVar 4)) (vPy (vC (.int 1)))))) (aCons (vPy (vS (d2 addF (vD (vVar 4)) (vPy (vC (.int 1)))))) (aCons (vPy (vC (.int 0))) (aCons (vPy (vS (d2 modF (d2 fdivF (vD (vVar 8)) (vPy (vC (.int 5)))) (d2 addF (vD (vVar 4)) (vPy (vC (.int 3))))))) aNil)))))))) (d2 modF (vD (vVar 8)) (vPy (vC (.int 6)))))))
    (sSq (sAs 10 (fP (vS (d2 mulF (d2 mulF (vD (vVar 8)) (vD (vVar 8))) (d2 subF (vPy (vC (.int 1))) (d2 mulF (vPy (vC (.int 2))) (d2 modF (vD (vVar 8)) (vPy (vC (.int 2))))))))))
    (sSq (sIf (fBo (fCmp2 isntF (fZ (fMeth "Caller" "came" S_Caller_came 2 (vVar 2) (gCo (fP (vS (d2 maxF (vPy (vC (.int 0))) (vD (vVar 9))))) (gCo (fP (vVar 10)) gNo)))) (fP (vC .none)))) (sRt (fP (vC (.bool false)))) sNx)
    (sIf (fB (bAnd (dB isntF (vD (vVar 5)) (vPy (vC .none))) (dB eqF (d2 maxF (vPy (vC (.int 0))) (vD (vVar 9))) (vD (vIdx (vVar 5) (vPy (vC (.int 0)))))))) (sSq (sAp (vVar 6) (fP (vTup (aCons (vPy (vIdx (vVar 5) (vPy (vC (.int 0))))) (aCons (vPy (vVar 10)) aNil)))))
    (sAs 5 (fP (vC .none)))) sNx)))))
    (sIf (fNot (fBo (fCall S__law_stands 4 (gCo (fP (vVar 2)) (gCo (fP (vVar 1)) (gCo (fP (vVar 5)) (gCo (fP (vVar 6)) gNo))))))) (sRt (fP (vC (.bool false)))) sNx)))
def b_law : Rh → Option Oc :=
  (sSq (sAs 1 (fP (vS (d2 modF (dCall S__law_cell_at (aCons (vD (vVar 0)) (aCons (vPy (vC (.int 0))) aNil))) (vPy (vC (.int 6)))))))
    (sSq (sAs 2 (fMake "Caller" S_Caller___init__ 1 (gCo (fP (vVar 1)) gNo)))
    (sSq (sAs 3 (fMake "Caller" S_Caller___init__ 1 (gCo (fP (vS (d2 modF (dCall S__law_cell_at (aCons (vD (vVar 0)) (aCons (vPy (vC (.int 1))) aNil))) (vPy (vC (.int 6)))))) gNo)))
    (sSq (sAs 4 (fP (vC (.int 0))))
    (sSq (sAs 5 (fP (vC .none)))
    (sSq (sAs 6 (fN (nLst aNil)))
    (sSq (sFo (fP (vFz (nSlc (vVar 0) (oI (vPy (vC (.int 2)))) oNo))) (gN 7) h_law_1)
    (sRt (fAnd (fCmp2 isF (fZ (fMeth "Caller" "asking" S_Caller_asking 0 (vVar 3) gNo)) (fP (vC .none))) (fBo (fCmp2 eqF (fZ (fMeth "Caller" "answers" S_Caller_answers 0 (vVar 3) gNo)) (fP (vFz (nLst aNil))))))))))))))
def S_law : Sem := runF 1 11 b_law
end L

namespace L
open PySem L2 Fx
def top (i : Nat) : Stmt := PySem.Challenge.pw_movehouse_k03_a_caller.main.body.getD i (.Pass ⟨0, 0, 0, 0⟩)
abbrev s_Caller___init__ : Stmt := inClass (top 1) 0
abbrev s_Caller_begin : Stmt := inClass (top 1) 1
abbrev s_Caller_letter : Stmt := inClass (top 1) 2
abbrev s_Caller_came : Stmt := inClass (top 1) 3
abbrev s_Caller_asking : Stmt := inClass (top 1) 4
abbrev s_Caller_answers : Stmt := inClass (top 1) 5
abbrev s__law_cell_at : Stmt := top 3
abbrev s__law_alike : Stmt := top 4
abbrev s__law_wish : Stmt := top 5
abbrev s__law_stands : Stmt := top 6
abbrev s_law : Stmt := top 7
theorem sc_Caller___init__ : FnScope ["self", "number"] ["self", "number"] (defScope s_Caller___init__) := ⟨rfl, rfl, rfl, by decide +kernel, rfl, by decide +kernel, by decide +kernel⟩
theorem sc_Caller_begin : FnScope ["self", "key", "wish"] ["self", "key", "wish"] (defScope s_Caller_begin) := ⟨rfl, rfl, rfl, by decide +kernel, rfl, by decide +kernel, by decide +kernel⟩
theorem sc_Caller_letter : FnScope ["self", "house", "number", "key", "wish"] ["self", "house"] (defScope s_Caller_letter) := ⟨rfl, rfl, rfl, by decide +kernel, rfl, by decide +kernel, by decide +kernel⟩
theorem sc_Caller_came : FnScope ["self", "number", "told"] ["self", "number", "told"] (defScope s_Caller_came) := ⟨rfl, rfl, rfl, by decide +kernel, rfl, by decide +kernel, by decide +kernel⟩
theorem sc_Caller_asking : FnScope ["self"] ["self"] (defScope s_Caller_asking) := ⟨rfl, rfl, rfl, by decide +kernel, rfl, by decide +kernel, by decide +kernel⟩
theorem sc_Caller_answers : FnScope ["self"] ["self"] (defScope s_Caller_answers) := ⟨rfl, rfl, rfl, by decide +kernel, rfl, by decide +kernel, by decide +kernel⟩
theorem sc__law_cell_at : FnScope ["_law_script", "_law_k"] ["_law_script", "_law_k"] (defScope s__law_cell_at) := ⟨rfl, rfl, rfl, by decide +kernel, rfl, by decide +kernel, by decide +kernel⟩
theorem sc__law_alike : FnScope ["_law_found", "_law_due", "_law_k"] ["_law_found", "_law_due"] (defScope s__law_alike) := ⟨rfl, rfl, rfl, by decide +kernel, rfl, by decide +kernel, by decide +kernel⟩
theorem sc__law_wish : FnScope ["_law_cell", "_law_number"] ["_law_cell"] (defScope s__law_wish) := ⟨rfl, rfl, rfl, by decide +kernel, rfl, by decide +kernel, by decide +kernel⟩
theorem sc__law_stands : FnScope ["_law_caller", "_law_number", "_law_asked", "_law_closed", "_law_found", "_law_house"] ["_law_caller", "_law_number", "_law_asked", "_law_closed"] (defScope s__law_stands) := ⟨rfl, rfl, rfl, by decide +kernel, rfl, by decide +kernel, by decide +kernel⟩
theorem sc_law : FnScope ["_law_script", "_law_number", "_law_caller", "_law_other", "_law_made", "_law_asked", "_law_closed", "_law_cell", "_law_more", "_law_which", "_law_told"] ["_law_script"] (defScope s_law) := ⟨rfl, rfl, rfl, by decide +kernel, rfl, by decide +kernel, by decide +kernel⟩
structure Adr where
  cl : String → Addr
  f_Caller___init__ : Addr
  d_Caller___init__ : FuncData
  f_Caller_begin : Addr
  d_Caller_begin : FuncData
  f_Caller_letter : Addr
  d_Caller_letter : FuncData
  f_Caller_came : Addr
  d_Caller_came : FuncData
  f_Caller_asking : Addr
  d_Caller_asking : FuncData
  f_Caller_answers : Addr
  d_Caller_answers : FuncData
  f__law_cell_at : Addr
  d__law_cell_at : FuncData
  f__law_alike : Addr
  d__law_alike : FuncData
  f__law_wish : Addr
  d__law_wish : FuncData
  f__law_stands : Addr
  d__law_stands : FuncData
  f_law : Addr
  d_law : FuncData
structure Txt (K : PySem.W.Frag) (mg : Str → Option Value) (A : Adr) : Prop where
  c_Caller : mg "Caller" = some (.ref (A.cl "Caller"))
  F_Caller___init__ : Fun K "__init__" "Caller.__init__" s_Caller___init__ A.f_Caller___init__ A.d_Caller___init__
  B_Caller___init__ : Binds K A.d_Caller___init__ ["self", "number"] []
  F_Caller_begin : Fun K "begin" "Caller.begin" s_Caller_begin A.f_Caller_begin A.d_Caller_begin
  B_Caller_begin : Binds K A.d_Caller_begin ["self", "key", "wish"] []
  M_Caller_begin : Meth K (A.cl "Caller") "begin" A.f_Caller_begin
  F_Caller_letter : Fun K "letter" "Caller.letter" s_Caller_letter A.f_Caller_letter A.d_Caller_letter
  B_Caller_letter : Binds K A.d_Caller_letter ["self", "house"] []
  M_Caller_letter : Meth K (A.cl "Caller") "letter" A.f_Caller_letter
  F_Caller_came : Fun K "came" "Caller.came" s_Caller_came A.f_Caller_came A.d_Caller_came
  B_Caller_came : Binds K A.d_Caller_came ["self", "number", "told"] []
  M_Caller_came : Meth K (A.cl "Caller") "came" A.f_Caller_came
  F_Caller_asking : Fun K "asking" "Caller.asking" s_Caller_asking A.f_Caller_asking A.d_Caller_asking
  B_Caller_asking : Binds K A.d_Caller_asking ["self"] []
  M_Caller_asking : Meth K (A.cl "Caller") "asking" A.f_Caller_asking
  F_Caller_answers : Fun K "answers" "Caller.answers" s_Caller_answers A.f_Caller_answers A.d_Caller_answers
  B_Caller_answers : Binds K A.d_Caller_answers ["self"] []
  M_Caller_answers : Meth K (A.cl "Caller") "answers" A.f_Caller_answers
  F__law_cell_at : Fun K "_law_cell_at" "_law_cell_at" s__law_cell_at A.f__law_cell_at A.d__law_cell_at
  B__law_cell_at : Binds K A.d__law_cell_at ["_law_script", "_law_k"] []
  m__law_cell_at : mg "_law_cell_at" = some (.ref A.f__law_cell_at)
  F__law_alike : Fun K "_law_alike" "_law_alike" s__law_alike A.f__law_alike A.d__law_alike
  B__law_alike : Binds K A.d__law_alike ["_law_found", "_law_due"] []
  m__law_alike : mg "_law_alike" = some (.ref A.f__law_alike)
  F__law_wish : Fun K "_law_wish" "_law_wish" s__law_wish A.f__law_wish A.d__law_wish
  B__law_wish : Binds K A.d__law_wish ["_law_cell"] []
  m__law_wish : mg "_law_wish" = some (.ref A.f__law_wish)
  F__law_stands : Fun K "_law_stands" "_law_stands" s__law_stands A.f__law_stands A.d__law_stands
  B__law_stands : Binds K A.d__law_stands ["_law_caller", "_law_number", "_law_asked", "_law_closed"] []
  m__law_stands : mg "_law_stands" = some (.ref A.f__law_stands)
  F_law : Fun K "law" "law" s_law A.f_law A.d_law
  B_law : Binds K A.d_law ["_law_script"] []
  m_law : mg "law" = some (.ref A.f_law)
  C_Caller : Cls K (A.cl "Caller")
  K_Caller : Mk K (A.cl "Caller") A.f_Caller___init__
  n_Caller_number : NoAttr K (A.cl "Caller") "number"
  n_Caller_begun : NoAttr K (A.cl "Caller") "begun"
  n_Caller_current : NoAttr K (A.cl "Caller") "current"
  n_Caller_closed : NoAttr K (A.cl "Caller") "closed"
  b_all : mg "all" = none
  b_bool : mg "bool" = none
  b_int : mg "int" = none
  b_isinstance : mg "isinstance" = none
  b_len : mg "len" = none
  b_list : mg "list" = none
  b_max : mg "max" = none
  b_range : mg "range" = none
  b_str : mg "str" = none
  b_tuple : mg "tuple" = none
theorem all_mk {w : World} {K : PySem.W.Frag} {h : Heap} {mg : Str → Option Value} {fa : Addr} (X : K.In h) (G : h.Ns mainGlobals mg) (hfa : mg "law" = some (.ref fa))
    {c_Caller : Addr}
    {f1 : Addr} {od1 an1 : Option Addr} {sl1 : Array (Option Value)} {oc1 kV1 dc1 pm1 cd1 ct1 : Value}
    {f2 : Addr} {od2 an2 : Option Addr} {sl2 : Array (Option Value)} {oc2 kV2 dc2 pm2 cd2 ct2 : Value}
    {f3 : Addr} {od3 an3 : Option Addr} {sl3 : Array (Option Value)} {oc3 kV3 dc3 pm3 cd3 ct3 : Value}
    {f4 : Addr} {od4 an4 : Option Addr} {sl4 : Array (Option Value)} {oc4 kV4 dc4 pm4 cd4 ct4 : Value}
    {f5 : Addr} {od5 an5 : Option Addr} {sl5 : Array (Option Value)} {oc5 kV5 dc5 pm5 cd5 ct5 : Value}
    {f6 : Addr} {od6 an6 : Option Addr} {sl6 : Array (Option Value)} {oc6 kV6 dc6 pm6 cd6 ct6 : Value}
    {f7 : Addr} {od7 an7 : Option Addr} {sl7 : Array (Option Value)} {oc7 kV7 dc7 pm7 cd7 ct7 : Value}
    {f8 : Addr} {od8 an8 : Option Addr} {sl8 : Array (Option Value)} {oc8 kV8 dc8 pm8 cd8 ct8 : Value}
    {f9 : Addr} {od9 an9 : Option Addr} {sl9 : Array (Option Value)} {oc9 kV9 dc9 pm9 cd9 ct9 : Value}
    {f10 : Addr} {od10 an10 : Option Addr} {sl10 : Array (Option Value)} {oc10 kV10 dc10 pm10 cd10 ct10 : Value}
    {f11 : Addr} {od11 an11 : Option Addr} {sl11 : Array (Option Value)} {oc11 kV11 dc11 pm11 cd11 ct11 : Value}
    (n_Caller : PySem.W.nsIn K mainGlobals "Caller" = some (some (.ref c_Caller)))
    (a1 : PySem.W.findIn K (.ref c_Caller) "__init__" = some (some (.ref f1)))
    (i1 : PySem.W.isFn K (.ref f1) = true)
    (l1 : K.lookup f1 = some ⟨oc1, od1, .func (PySem.W.fnOf "__init__" "Caller.__init__" (defArgs s_Caller___init__) (defBody s_Caller___init__) (defScope s_Caller___init__) .none kV1 dc1 pm1 an1 cd1 ct1), sl1⟩)
    (c1 : PySem.W.codeIn K cd1 "Caller.__init__" = true)
    (k1 : PySem.W.keepIn K (.ref f1) = true)
    (a2 : PySem.W.findIn K (.ref c_Caller) "begin" = some (some (.ref f2)))
    (i2 : PySem.W.isFn K (.ref f2) = true)
    (l2 : K.lookup f2 = some ⟨oc2, od2, .func (PySem.W.fnOf "begin" "Caller.begin" (defArgs s_Caller_begin) (defBody s_Caller_begin) (defScope s_Caller_begin) .none kV2 dc2 pm2 an2 cd2 ct2), sl2⟩)
    (c2 : PySem.W.codeIn K cd2 "Caller.begin" = true)
    (k2 : PySem.W.keepIn K (.ref f2) = true)
    (a3 : PySem.W.findIn K (.ref c_Caller) "letter" = some (some (.ref f3)))
    (i3 : PySem.W.isFn K (.ref f3) = true)
    (l3 : K.lookup f3 = some ⟨oc3, od3, .func (PySem.W.fnOf "letter" "Caller.letter" (defArgs s_Caller_letter) (defBody s_Caller_letter) (defScope s_Caller_letter) .none kV3 dc3 pm3 an3 cd3 ct3), sl3⟩)
    (c3 : PySem.W.codeIn K cd3 "Caller.letter" = true)
    (k3 : PySem.W.keepIn K (.ref f3) = true)
    (a4 : PySem.W.findIn K (.ref c_Caller) "came" = some (some (.ref f4)))
    (i4 : PySem.W.isFn K (.ref f4) = true)
    (l4 : K.lookup f4 = some ⟨oc4, od4, .func (PySem.W.fnOf "came" "Caller.came" (defArgs s_Caller_came) (defBody s_Caller_came) (defScope s_Caller_came) .none kV4 dc4 pm4 an4 cd4 ct4), sl4⟩)
    (c4 : PySem.W.codeIn K cd4 "Caller.came" = true)
    (k4 : PySem.W.keepIn K (.ref f4) = true)
    (a5 : PySem.W.findIn K (.ref c_Caller) "asking" = some (some (.ref f5)))
    (i5 : PySem.W.isFn K (.ref f5) = true)
    (l5 : K.lookup f5 = some ⟨oc5, od5, .func (PySem.W.fnOf "asking" "Caller.asking" (defArgs s_Caller_asking) (defBody s_Caller_asking) (defScope s_Caller_asking) .none kV5 dc5 pm5 an5 cd5 ct5), sl5⟩)
    (c5 : PySem.W.codeIn K cd5 "Caller.asking" = true)
    (k5 : PySem.W.keepIn K (.ref f5) = true)
    (a6 : PySem.W.findIn K (.ref c_Caller) "answers" = some (some (.ref f6)))
    (i6 : PySem.W.isFn K (.ref f6) = true)
    (l6 : K.lookup f6 = some ⟨oc6, od6, .func (PySem.W.fnOf "answers" "Caller.answers" (defArgs s_Caller_answers) (defBody s_Caller_answers) (defScope s_Caller_answers) .none kV6 dc6 pm6 an6 cd6 ct6), sl6⟩)
    (c6 : PySem.W.codeIn K cd6 "Caller.answers" = true)
    (k6 : PySem.W.keepIn K (.ref f6) = true)
    (a7 : PySem.W.nsIn K mainGlobals "_law_cell_at" = some (some (.ref f7)))
    (l7 : K.lookup f7 = some ⟨oc7, od7, .func (PySem.W.fnOf "_law_cell_at" "_law_cell_at" (defArgs s__law_cell_at) (defBody s__law_cell_at) (defScope s__law_cell_at) .none kV7 dc7 pm7 an7 cd7 ct7), sl7⟩)
    (c7 : PySem.W.codeIn K cd7 "_law_cell_at" = true)
    (k7 : PySem.W.keepIn K (.ref f7) = true)
    (a8 : PySem.W.nsIn K mainGlobals "_law_alike" = some (some (.ref f8)))
    (l8 : K.lookup f8 = some ⟨oc8, od8, .func (PySem.W.fnOf "_law_alike" "_law_alike" (defArgs s__law_alike) (defBody s__law_alike) (defScope s__law_alike) .none kV8 dc8 pm8 an8 cd8 ct8), sl8⟩)
    (c8 : PySem.W.codeIn K cd8 "_law_alike" = true)
    (k8 : PySem.W.keepIn K (.ref f8) = true)
    (a9 : PySem.W.nsIn K mainGlobals "_law_wish" = some (some (.ref f9)))
    (l9 : K.lookup f9 = some ⟨oc9, od9, .func (PySem.W.fnOf "_law_wish" "_law_wish" (defArgs s__law_wish) (defBody s__law_wish) (defScope s__law_wish) .none kV9 dc9 pm9 an9 cd9 ct9), sl9⟩)
    (c9 : PySem.W.codeIn K cd9 "_law_wish" = true)
    (k9 : PySem.W.keepIn K (.ref f9) = true)
    (a10 : PySem.W.nsIn K mainGlobals "_law_stands" = some (some (.ref f10)))
    (l10 : K.lookup f10 = some ⟨oc10, od10, .func (PySem.W.fnOf "_law_stands" "_law_stands" (defArgs s__law_stands) (defBody s__law_stands) (defScope s__law_stands) .none kV10 dc10 pm10 an10 cd10 ct10), sl10⟩)
    (c10 : PySem.W.codeIn K cd10 "_law_stands" = true)
    (k10 : PySem.W.keepIn K (.ref f10) = true)
    (a11 : PySem.W.nsIn K mainGlobals "law" = some (some (.ref f11)))
    (l11 : K.lookup f11 = some ⟨oc11, od11, .func (PySem.W.fnOf "law" "law" (defArgs s_law) (defBody s_law) (defScope s_law) .none kV11 dc11 pm11 an11 cd11 ct11), sl11⟩)
    (c11 : PySem.W.codeIn K cd11 "law" = true)
    (k11 : PySem.W.keepIn K (.ref f11) = true)
    (pg_Caller : PySem.W.plainGet K c_Caller Str.empty = true)
    (hd_Caller : PySem.W.hasDictIn K c_Caller = true)
    (po_Caller : PySem.W.plainOver K c_Caller = true)
    (sa_Caller : PySem.W.findIn K (.ref c_Caller) "__setattr__" = some (some (.builtin "object.__setattr__")))
    (mk_Caller : PySem.W.makesIn K c_Caller = true)
    (kc_Caller : PySem.W.keepIn K (.ref c_Caller) = true)
    (f_Caller_number : PySem.W.findIn K (.ref c_Caller) "number" = some none)
    (f_Caller_begun : PySem.W.findIn K (.ref c_Caller) "begun" = some none)
    (f_Caller_current : PySem.W.findIn K (.ref c_Caller) "current" = some none)
    (f_Caller_closed : PySem.W.findIn K (.ref c_Caller) "closed" = some none)
    (z_all : PySem.W.nsIn K mainGlobals "all" = some none)
    (z_bool : PySem.W.nsIn K mainGlobals "bool" = some none)
    (z_int : PySem.W.nsIn K mainGlobals "int" = some none)
    (z_isinstance : PySem.W.nsIn K mainGlobals "isinstance" = some none)
    (z_len : PySem.W.nsIn K mainGlobals "len" = some none)
    (z_list : PySem.W.nsIn K mainGlobals "list" = some none)
    (z_max : PySem.W.nsIn K mainGlobals "max" = some none)
    (z_range : PySem.W.nsIn K mainGlobals "range" = some none)
    (z_str : PySem.W.nsIn K mainGlobals "str" = some none)
    (z_tuple : PySem.W.nsIn K mainGlobals "tuple" = some none) :
    ∃ A : Adr, Txt K mg A ∧ fa = A.f_law ∧ ∀ (s : Shared) (v : Value), BindsTo s A.d_law ⟨[v], []⟩ [("_law_script", v)] := by
  have e : f11 = fa := by
    have e := (PySem.W.mg_of X G a11).symm.trans hfa
    injection e with e; injection e
  subst e
  have ecl : ∃ cl : String → Addr, cl "Caller" = c_Caller := ⟨fun s => if s = "Caller" then c_Caller else 0, by simp⟩
  obtain ⟨cl, e_Caller⟩ := ecl
  subst e_Caller
  have F1 := fun_mk (st := s_Caller___init__) l1 c1 k1
  have b1 := F1.binds (ps := ["self", "number"]) fun _ _ _ _ _ _ us hl => match us, hl with | [_, _], _ => rfl
  have F2 := fun_mk (st := s_Caller_begin) l2 c2 k2
  have b2 := F2.binds (ps := ["self", "key", "wish"]) fun _ _ _ _ _ _ us hl => match us, hl with | [_, _, _], _ => rfl
  have F3 := fun_mk (st := s_Caller_letter) l3 c3 k3
  have b3 := F3.binds (ps := ["self", "house"]) fun _ _ _ _ _ _ us hl => match us, hl with | [_, _], _ => rfl
  have F4 := fun_mk (st := s_Caller_came) l4 c4 k4
  have b4 := F4.binds (ps := ["self", "number", "told"]) fun _ _ _ _ _ _ us hl => match us, hl with | [_, _, _], _ => rfl
  have F5 := fun_mk (st := s_Caller_asking) l5 c5 k5
  have b5 := F5.binds (ps := ["self"]) fun _ _ _ _ _ _ us hl => match us, hl with | [_], _ => rfl
  have F6 := fun_mk (st := s_Caller_answers) l6 c6 k6
  have b6 := F6.binds (ps := ["self"]) fun _ _ _ _ _ _ us hl => match us, hl with | [_], _ => rfl
  have F7 := fun_mk (st := s__law_cell_at) l7 c7 k7
  have b7 := F7.binds (ps := ["_law_script", "_law_k"]) fun _ _ _ _ _ _ us hl => match us, hl with | [_, _], _ => rfl
  have F8 := fun_mk (st := s__law_alike) l8 c8 k8
  have b8 := F8.binds (ps := ["_law_found", "_law_due"]) fun _ _ _ _ _ _ us hl => match us, hl with | [_, _], _ => rfl
  have F9 := fun_mk (st := s__law_wish) l9 c9 k9
  have b9 := F9.binds (ps := ["_law_cell"]) fun _ _ _ _ _ _ us hl => match us, hl with | [_], _ => rfl
  have F10 := fun_mk (st := s__law_stands) l10 c10 k10
  have b10 := F10.binds (ps := ["_law_caller", "_law_number", "_law_asked", "_law_closed"]) fun _ _ _ _ _ _ us hl => match us, hl with | [_, _, _, _], _ => rfl
  have F11 := fun_mk (st := s_law) l11 c11 k11
  have b11 := F11.binds (ps := ["_law_script"]) fun _ _ _ _ _ _ us hl => match us, hl with | [_], _ => rfl
  exact ⟨⟨cl, f1, PySem.W.fnOf "__init__" "Caller.__init__" (defArgs s_Caller___init__) (defBody s_Caller___init__) (defScope s_Caller___init__) .none kV1 dc1 pm1 an1 cd1 ct1, f2, PySem.W.fnOf "begin" "Caller.begin" (defArgs s_Caller_begin) (defBody s_Caller_begin) (defScope s_Caller_begin) .none kV2 dc2 pm2 an2 cd2 ct2, f3, PySem.W.fnOf "letter" "Caller.letter" (defArgs s_Caller_letter) (defBody s_Caller_letter) (defScope s_Caller_letter) .none kV3 dc3 pm3 an3 cd3 ct3, f4, PySem.W.fnOf "came" "Caller.came" (defArgs s_Caller_came) (defBody s_Caller_came) (defScope s_Caller_came) .none kV4 dc4 pm4 an4 cd4 ct4, f5, PySem.W.fnOf "asking" "Caller.asking" (defArgs s_Caller_asking) (defBody s_Caller_asking) (defScope s_Caller_asking) .none kV5 dc5 pm5 an5 cd5 ct5, f6, PySem.W.fnOf "answers" "Caller.answers" (defArgs s_Caller_answers) (defBody s_Caller_answers) (defScope s_Caller_answers) .none kV6 dc6 pm6 an6 cd6 ct6, f7, PySem.W.fnOf "_law_cell_at" "_law_cell_at" (defArgs s__law_cell_at) (defBody s__law_cell_at) (defScope s__law_cell_at) .none kV7 dc7 pm7 an7 cd7 ct7, f8, PySem.W.fnOf "_law_alike" "_law_alike" (defArgs s__law_alike) (defBody s__law_alike) (defScope s__law_alike) .none kV8 dc8 pm8 an8 cd8 ct8, f9, PySem.W.fnOf "_law_wish" "_law_wish" (defArgs s__law_wish) (defBody s__law_wish) (defScope s__law_wish) .none kV9 dc9 pm9 an9 cd9 ct9, f10, PySem.W.fnOf "_law_stands" "_law_stands" (defArgs s__law_stands) (defBody s__law_stands) (defScope s__law_stands) .none kV10 dc10 pm10 an10 cd10 ct10, f11, PySem.W.fnOf "law" "law" (defArgs s_law) (defBody s_law) (defScope s_law) .none kV11 dc11 pm11 an11 cd11 ct11⟩, ⟨PySem.W.mg_of X G n_Caller,
    F1,
    b1,
    F2,
    b2,
    ⟨a2, i2, k2⟩,
    F3,
    b3,
    ⟨a3, i3, k3⟩,
    F4,
    b4,
    ⟨a4, i4, k4⟩,
    F5,
    b5,
    ⟨a5, i5, k5⟩,
    F6,
    b6,
    ⟨a6, i6, k6⟩,
    F7,
    b7,
    PySem.W.mg_of X G a7,
    F8,
    b8,
    PySem.W.mg_of X G a8,
    F9,
    b9,
    PySem.W.mg_of X G a9,
    F10,
    b10,
    PySem.W.mg_of X G a10,
    F11,
    b11,
    PySem.W.mg_of X G a11,
    ⟨pg_Caller, hd_Caller, po_Caller, sa_Caller⟩,
    ⟨mk_Caller, a1, i1, kc_Caller⟩,
    f_Caller_number,
    f_Caller_begun,
    f_Caller_current,
    f_Caller_closed,
    PySem.W.mg_none_of X G z_all,
    PySem.W.mg_none_of X G z_bool,
    PySem.W.mg_none_of X G z_int,
    PySem.W.mg_none_of X G z_isinstance,
    PySem.W.mg_none_of X G z_len,
    PySem.W.mg_none_of X G z_list,
    PySem.W.mg_none_of X G z_max,
    PySem.W.mg_none_of X G z_range,
    PySem.W.mg_none_of X G z_str,
    PySem.W.mg_none_of X G z_tuple⟩, rfl, fun s v => .of_eq rfl⟩
end L
namespace L
open PySem L2 Fx Mo
open Evl (Ex)
section
variable {P : Program} {w : World} {K : PySem.W.Frag} {mg : Str → Option Value} {A : Adr} {base : Heap}
theorem ok_Caller___init__ (T : Txt K mg A)  : FnOk P w K mg base (L2N.CX P w) 1 A.f_Caller___init__ A.d_Caller___init__ ["self", "number"] (PSf K A.cl S_Caller___init__) := by
    refine def_ok (k := 0) T.F_Caller___init__ sc_Caller___init__ (by decide) fun cdv Ar outer s H E hr => ?_
    have hu := hr.units
    have hu1 := hu_of hr
    have tk : L2N.Takes (cxOf (L2N.CX P w) P w K mg base ["self", "number"] "Caller.__init__" (defScope s_Caller___init__) A.f_Caller___init__ cdv Ar outer s H E) (fun c d _ H => E c d H) := L2N.takes_of rfl rfl rfl rfl
    exact ⟨_, (pss_cons (ps_fld (L2.pv 0) (L2.pv 1) rfl)
        (pss_cons (ps_fld (L2.pv 0) pe_int rfl)
        (pss_cons (ps_fld (L2.pv 0) pe_non rfl)
        (pss_one (ps_fld (L2.pv 0) (pe_lst L2.pa_nil) rfl))))),
    (sx_sq (sx_fl T.C_Caller T.n_Caller_number (pv_var 0) (fv_p (pv_var 1)))
        (sx_sq (sx_fl T.C_Caller T.n_Caller_begun (pv_var 0) (fv_p (pv_int _)))
        (sx_sq (sx_fl T.C_Caller T.n_Caller_current (pv_var 0) (fv_p pv_non))
        (sx_fl T.C_Caller T.n_Caller_closed (pv_var 0) (fv_n (nv_lst Fx.pa_nil))))))⟩
theorem ok_Caller_begin (T : Txt K mg A)  : FnOk P w K mg base (L2N.CX P w) 1 A.f_Caller_begin A.d_Caller_begin ["self", "key", "wish"] (PSf K A.cl S_Caller_begin) := by
    refine def_ok (k := 0) T.F_Caller_begin sc_Caller_begin (by decide) fun cdv Ar outer s H E hr => ?_
    have hu := hr.units
    have hu1 := hu_of hr
    have tk : L2N.Takes (cxOf (L2N.CX P w) P w K mg base ["self", "key", "wish"] "Caller.begin" (defScope s_Caller_begin) A.f_Caller_begin cdv Ar outer s H E) (fun c d _ H => E c d H) := L2N.takes_of rfl rfl rfl rfl
    exact ⟨_, (pss_cons (ps_fld (L2.pv 0) (pe_op (bin_ K _) (pe_fld (L2.pv 0) rfl) pe_int) rfl)
        (pss_cons (ps_fld (L2.pv 0) (pe_tup (L2.pa_cons (pe_fld (L2.pv 0) rfl) (L2.pa_cons (L2.pv 1) (L2.pa_cons (L2.pv 2) L2.pa_nil)))) rfl)
        (pss_one (ps_ret (pe_fld (L2.pv 0) rfl))))),
    (sx_sq (sx_fl T.C_Caller T.n_Caller_begun (pv_var 0) (fv_p (pv_s (dv_bin isAdd (dv_of (pv_fld T.C_Caller T.n_Caller_begun (pv_var 0))) (dv_py (pv_int _))))))
        (sx_sq (sx_fl T.C_Caller T.n_Caller_current (pv_var 0) (fv_p (pv_tup (Fx.pa_cons (pv_fld T.C_Caller T.n_Caller_begun (pv_var 0)) (Fx.pa_cons (pv_var 1) (Fx.pa_cons (pv_var 2) Fx.pa_nil))))))
        (sx_rt (fv_p (pv_fld T.C_Caller T.n_Caller_begun (pv_var 0))))))⟩
theorem ok_Caller_letter (T : Txt K mg A)  : FnOk P w K mg base (L2N.CX P w) 1 A.f_Caller_letter A.d_Caller_letter ["self", "house"] (PSf K A.cl S_Caller_letter) := by
    refine def_ok (k := 0) T.F_Caller_letter sc_Caller_letter (by decide) fun cdv Ar outer s H E hr => ?_
    have hu := hr.units
    have hu1 := hu_of hr
    have tk : L2N.Takes (cxOf (L2N.CX P w) P w K mg base ["self", "house", "number", "key", "wish"] "Caller.letter" (defScope s_Caller_letter) A.f_Caller_letter cdv Ar outer s H E) (fun c d _ H => E c d H) := L2N.takes_of rfl rfl rfl rfl
    exact ⟨_, (pss_cons (ps_asg (pe_fld (L2.pv 0) rfl) (pg_tup (by rfl) (pgs_cons (pg_name (i := 2) sc_Caller_letter.nd rfl (Or.inl rfl)) (pgs_cons (pg_name (i := 3) sc_Caller_letter.nd rfl (Or.inl rfl)) (pgs_cons (pg_name (i := 4) sc_Caller_letter.nd rfl (Or.inl rfl)) pgs_nil)))))
        (pss_one (ps_ret (pe_tup (L2.pa_cons pe_str (L2.pa_cons (L2.pv 1) (L2.pa_cons (pe_fld (L2.pv 0) rfl) (L2.pa_cons (L2.pv 2) (L2.pa_cons (L2.pv 3) (L2.pa_cons (L2.pv 4) L2.pa_nil)))))))))),
    (sx_sq (sx_at (fv_p (pv_fld T.C_Caller T.n_Caller_current (pv_var 0))) (tg_tu (tgs_c (tg_n 2) (tgs_c (tg_n 3) (tgs_c (tg_n 4) tgs_0)))))
        (sx_rt (fv_p (pv_tup (Fx.pa_cons (pv_str _) (Fx.pa_cons (pv_var 1) (Fx.pa_cons (pv_fld T.C_Caller T.n_Caller_number (pv_var 0)) (Fx.pa_cons (pv_var 2) (Fx.pa_cons (pv_var 3) (Fx.pa_cons (pv_var 4) Fx.pa_nil))))))))))⟩
theorem ok_Caller_came (T : Txt K mg A)  : FnOk P w K mg base (L2N.CX P w) 1 A.f_Caller_came A.d_Caller_came ["self", "number", "told"] (PSf K A.cl S_Caller_came) := by
    refine def_ok (k := 0) T.F_Caller_came sc_Caller_came (by decide) fun cdv Ar outer s H E hr => ?_
    have hu := hr.units
    have hu1 := hu_of hr
    have tk : L2N.Takes (cxOf (L2N.CX P w) P w K mg base ["self", "number", "told"] "Caller.came" (defScope s_Caller_came) A.f_Caller_came cdv Ar outer s H E) (fun c d _ H => E c d H) := L2N.takes_of rfl rfl rfl rfl
    exact ⟨_, (pss_one (ps_if (PW.pt (pw_and (pt_cmpR (cmp_ K _ hu) (pe_fld (L2.pv 0) rfl) pe_non (nomark _)) (pw_and1 (pt_cmpR (cmp_ K _ hu) (pe_ix ix_seq (pe_fld (L2.pv 0) rfl) pe_int (fun _ _ => rfl)) (L2.pv 1) (nomark _))))) (pss_cons (ps_expr (pe_bm PySem.F.plainAttrs_list PySem.F.slot_list_append PySem.F.type_list_append mt_append (pe_fld (L2.pv 0) rfl) (L2.pa_cons (pe_tup (L2.pa_cons (L2.pv 1) (L2.pa_cons (L2.pv 2) L2.pa_nil))) L2.pa_nil)))
        (pss_one (ps_fld (L2.pv 0) pe_non rfl))) pss_nil)),
    (sx_if (ft_b (Fx.pt_and (Fx.pt_cmp isIsnt (dv_of (pv_fld T.C_Caller T.n_Caller_current (pv_var 0))) (dv_py pv_non)) (Fx.pt_cmp isEq (dv_of (pv_idx (pv_fld T.C_Caller T.n_Caller_current (pv_var 0)) (dv_py (pv_int _)))) (dv_of (pv_var 1))))) (sx_sq (sx_ap (pv_fld T.C_Caller T.n_Caller_closed (pv_var 0)) (fv_p (pv_tup (Fx.pa_cons (pv_var 1) (Fx.pa_cons (pv_var 2) Fx.pa_nil)))))
        (sx_fl T.C_Caller T.n_Caller_current (pv_var 0) (fv_p pv_non))) sx_nx)⟩
theorem ok_Caller_asking (T : Txt K mg A)  : FnOk P w K mg base (L2N.CX P w) 1 A.f_Caller_asking A.d_Caller_asking ["self"] (PSf K A.cl S_Caller_asking) := by
    refine def_ok (k := 0) T.F_Caller_asking sc_Caller_asking (by decide) fun cdv Ar outer s H E hr => ?_
    have hu := hr.units
    have hu1 := hu_of hr
    have tk : L2N.Takes (cxOf (L2N.CX P w) P w K mg base ["self"] "Caller.asking" (defScope s_Caller_asking) A.f_Caller_asking cdv Ar outer s H E) (fun c d _ H => E c d H) := L2N.takes_of rfl rfl rfl rfl
    exact ⟨_, (pss_one (ps_ret (pe_fld (L2.pv 0) rfl))),
    (sx_rt (fv_p (pv_fld T.C_Caller T.n_Caller_current (pv_var 0))))⟩
theorem ok_Caller_answers (T : Txt K mg A)  : FnOk P w K mg base (L2N.CX P w) 1 A.f_Caller_answers A.d_Caller_answers ["self"] (PSf K A.cl S_Caller_answers) := by
    refine def_ok (k := 0) T.F_Caller_answers sc_Caller_answers (by decide) fun cdv Ar outer s H E hr => ?_
    have hu := hr.units
    have hu1 := hu_of hr
    have tk : L2N.Takes (cxOf (L2N.CX P w) P w K mg base ["self"] "Caller.answers" (defScope s_Caller_answers) A.f_Caller_answers cdv Ar outer s H E) (fun c d _ H => E c d H) := L2N.takes_of rfl rfl rfl rfl
    exact ⟨_, (pss_one (ps_ret (pe_callTy call_list_of (by rfl) T.b_list (by decide +kernel) (L2.pa_cons (pe_fld (L2.pv 0) rfl) L2.pa_nil)))),
    (sx_rt (fv_n (nv_copy (dv_of (pv_fld T.C_Caller T.n_Caller_closed (pv_var 0))))))⟩
theorem ok__law_cell_at (T : Txt K mg A)  : FnOk P w K mg base (L2N.CX P w) 1 A.f__law_cell_at A.d__law_cell_at ["_law_script", "_law_k"] (PSf K A.cl S__law_cell_at) := by
    refine def_ok (k := 0) T.F__law_cell_at sc__law_cell_at (by decide) fun cdv Ar outer s H E hr => ?_
    have hu := hr.units
    have hu1 := hu_of hr
    have tk : L2N.Takes (cxOf (L2N.CX P w) P w K mg base ["_law_script", "_law_k"] "_law_cell_at" (defScope s__law_cell_at) A.f__law_cell_at cdv Ar outer s H E) (fun c d _ H => E c d H) := L2N.takes_of rfl rfl rfl rfl
    exact ⟨_, (pss_cons (ps_if (pt_cmpR (cmp_ K _ hu) (L2.pv 1) (pe_callB (lenN_ K) (by rfl) T.b_len (by decide +kernel) (L2.pa_cons (L2.pv 0) L2.pa_nil)) (nomark _)) (pss_one (ps_ret (pe_ix ix_seq (L2.pv 0) (L2.pv 1) (fun _ _ => rfl)))) pss_nil)
        (pss_one (ps_ret pe_int))),
    (sx_sq (sx_if (ft_b (Fx.pt_cmp isLt (dv_of (pv_var 1)) (dv_of (pv_len (pv_var 0))))) (sx_rt (fv_p (pv_idx (pv_var 0) (dv_of (pv_var 1))))) sx_nx)
        (sx_rt (fv_p (pv_int _))))⟩
theorem okL__law_alike (T : Txt K mg A) : ∀ n, FnOk P w K mg base (L2N.CX P w) n A.f__law_alike A.d__law_alike ["_law_found", "_law_due"] (PSf K A.cl (SL__law_alike n))
  | 0 => fnok_none
  | n + 1 => by
    have G__law_alike := okL__law_alike T n
    refine def_ok T.F__law_alike sc__law_alike (by decide) fun cdv Ar outer s H E hr => ?_
    have hu := hr.units
    have hu1 := hu_of hr
    have tk : L2N.Takes (cxOf (L2N.CX P w) P w K mg base ["_law_found", "_law_due", "_law_k"] "_law_alike" (defScope s__law_alike) A.f__law_alike cdv Ar outer s H E) (fun c d _ H => E c d H) := L2N.takes_of rfl rfl rfl rfl
    exact ⟨_, (pss_cons (ps_if (L2.pt_val (pe_callB (isiN2_ K) (by rfl) T.b_isinstance (by decide +kernel) (L2.pa_cons (L2.pv 1) (L2.pa_cons (pe_tup (L2.pa_cons (pe_bltn (v := .ty "list") (by rfl) T.b_list (by decide +kernel) rfl) (L2.pa_cons (pe_bltn (v := .ty "tuple") (by rfl) T.b_tuple (by decide +kernel) rfl) L2.pa_nil))) L2.pa_nil)))) (pss_cons (ps_if (PW.pt (pw_or (pt_cmpR (cmp_ K _ hu) (pe_callB (isiN_ K) (by rfl) T.b_isinstance (by decide +kernel) (L2.pa_cons (L2.pv 1) (L2.pa_cons (pe_bltn (v := .ty "list") (by rfl) T.b_list (by decide +kernel) rfl) L2.pa_nil))) (pe_callB (isiN_ K) (by rfl) T.b_isinstance (by decide +kernel) (L2.pa_cons (L2.pv 0) (L2.pa_cons (pe_bltn (v := .ty "list") (by rfl) T.b_list (by decide +kernel) rfl) L2.pa_nil))) (nomark _)) (pw_or1 (pt_cmpR (cmp_ K _ hu) (pe_callB (isiN_ K) (by rfl) T.b_isinstance (by decide +kernel) (L2.pa_cons (L2.pv 1) (L2.pa_cons (pe_bltn (v := .ty "tuple") (by rfl) T.b_tuple (by decide +kernel) rfl) L2.pa_nil))) (pe_callB (isiN_ K) (by rfl) T.b_isinstance (by decide +kernel) (L2.pa_cons (L2.pv 0) (L2.pa_cons (pe_bltn (v := .ty "tuple") (by rfl) T.b_tuple (by decide +kernel) rfl) L2.pa_nil))) (nomark _))))) (pss_one (ps_ret pe_bl)) pss_nil)
        (pss_cons (ps_if (pt_cmpR (cmp_ K _ hu) (pe_callB (lenN_ K) (by rfl) T.b_len (by decide +kernel) (L2.pa_cons (L2.pv 0) L2.pa_nil)) (pe_callB (lenN_ K) (by rfl) T.b_len (by decide +kernel) (L2.pa_cons (L2.pv 1) L2.pa_nil)) (nomark _)) (pss_one (ps_ret pe_bl)) pss_nil)
        (pss_one (ps_ret (pe_callB (cr_all rfl) (by rfl) T.b_all (by decide +kernel) (L2.pa_cons (pe_lc (own := [("_law_k", 2)]) (g := gName 2) (tt := tYes) rfl sc__law_alike.nd (pi_range1 (by rfl) T.b_range (L2.pa_cons (pe_callB (lenN_ K) (by rfl) T.b_len (by decide +kernel) (L2.pa_cons (L2.pv 1) L2.pa_nil)) L2.pa_nil)) (blkOk_by (N := ["_law_found", "_law_due", "_law_k"]) (sc := defScope s__law_alike) (by decide +kernel)) (fun _ _ _ _ _ => (pg_name (i := 2) sc__law_alike.nd rfl (Or.inl rfl))) (fun _ _ _ _ _ => pts_nil) (fun _ _ _ _ _ => (pe_callSD (CX := L2N.CX P w) (E := WE wN) G__law_alike hr (by rfl) T.m__law_alike T.F__law_alike.kp T.B__law_alike .nil (fun σ => passN σ) (L2.pa_cons (pe_ix ix_seq (L2.pv 0) (L2.pv 2) (fun _ _ => rfl)) (L2.pa_cons (pe_ix ix_seq (L2.pv 1) (L2.pv 2) (fun _ _ => rfl)) L2.pa_nil))))) L2.pa_nil)))))) pss_nil)
        (pss_cons (ps_if (L2.pt_val (pe_callB (isiN_ K) (by rfl) T.b_isinstance (by decide +kernel) (L2.pa_cons (L2.pv 1) (L2.pa_cons (pe_bltn (v := .ty "str") (by rfl) T.b_str (by decide +kernel) rfl) L2.pa_nil)))) (pss_one (ps_ret (pe_and (pe_callB (isiN_ K) (by rfl) T.b_isinstance (by decide +kernel) (L2.pa_cons (L2.pv 0) (L2.pa_cons (pe_bltn (v := .ty "str") (by rfl) T.b_str (by decide +kernel) rfl) L2.pa_nil))) (pe_one (pe_cmpR (cmp_ K _ hu) (L2.pv 0) (L2.pv 1) (nomark _)))))) pss_nil)
        (pss_one (ps_ret (pe_and (pe_callB (isiN_ K) (by rfl) T.b_isinstance (by decide +kernel) (L2.pa_cons (L2.pv 0) (L2.pa_cons (pe_bltn (v := .ty "int") (by rfl) T.b_int (by decide +kernel) rfl) L2.pa_nil))) (pe_and (pe_not (pe_callB (isiN_ K) (by rfl) T.b_isinstance (by decide +kernel) (L2.pa_cons (L2.pv 0) (L2.pa_cons (pe_bltn (v := .ty "bool") (by rfl) T.b_bool (by decide +kernel) rfl) L2.pa_nil)))) (pe_one (pe_cmpR (cmp_ K _ hu) (L2.pv 0) (L2.pv 1) (nomark _))))))))),
    (sx_sq (sx_if (ft_b (Fx.pt_val (pv_isi2 (by simp) (by simp) (pv_var 1) (pv_at _) (pv_at _)))) (sx_sq (sx_if (ft_b (Fx.pt_or (Fx.pt_cmp isNe (dv_of (pv_isi (by simp) (pv_var 1) (pv_at _))) (dv_of (pv_isi (by simp) (pv_var 0) (pv_at _)))) (Fx.pt_cmp isNe (dv_of (pv_isi (by simp) (pv_var 1) (pv_at _))) (dv_of (pv_isi (by simp) (pv_var 0) (pv_at _)))))) (sx_rt (fv_p (pv_bl _))) sx_nx)
        (sx_sq (sx_if (ft_b (Fx.pt_cmp isNe (dv_of (pv_len (pv_var 0))) (dv_of (pv_len (pv_var 1))))) (sx_rt (fv_p (pv_bl _))) sx_nx)
        (sx_rt (fv_p (pv_s (dv_all (dv_of (pv_fz (nv_lc (Iv.of (iv_r (da_cons (dv_of (pv_len (pv_var 1))) da_nil))) (tw_n 2) pt_yes (pv_s (dv_call (da_cons (dv_of (pv_idx (pv_var 0) (dv_of (pv_var 2)))) (da_cons (dv_of (pv_idx (pv_var 1) (dv_of (pv_var 2)))) da_nil))))))))))))) sx_nx)
        (sx_sq (sx_if (ft_b (Fx.pt_val (pv_isi (by simp) (pv_var 1) (pv_at _)))) (sx_rt (fv_p (pv_and (pv_isi (by simp) (pv_var 0) (pv_at _)) (pv_cmp isEq (dv_of (pv_var 0)) (dv_of (pv_var 1)))))) sx_nx)
        (sx_rt (fv_p (pv_and (pv_isi (by simp) (pv_var 0) (pv_at _)) (pv_and (pv_not (pv_isi (by simp) (pv_var 0) (pv_at _))) (pv_cmp isEq (dv_of (pv_var 0)) (dv_of (pv_var 1)))))))))⟩
theorem ok__law_alike (T : Txt K mg A)  : FnOk P w K mg base (L2N.CX P w) 6 A.f__law_alike A.d__law_alike ["_law_found", "_law_due"] (PSf K A.cl S__law_alike) := okL__law_alike T 6
theorem ok__law_wish (T : Txt K mg A)  : FnOk P w K mg base (L2N.CX P w) 1 A.f__law_wish A.d__law_wish ["_law_cell"] (PSf K A.cl S__law_wish) := by
    refine def_ok (k := 0) T.F__law_wish sc__law_wish (by decide) fun cdv Ar outer s H E hr => ?_
    have hu := hr.units
    have hu1 := hu_of hr
    have tk : L2N.Takes (cxOf (L2N.CX P w) P w K mg base ["_law_cell", "_law_number"] "_law_wish" (defScope s__law_wish) A.f__law_wish cdv Ar outer s H E) (fun c d _ H => E c d H) := L2N.takes_of rfl rfl rfl rfl
    exact ⟨_, (pss_cons (ps_set (i := 1) sc__law_wish.nd rfl (Or.inl rfl) (pe_op (bin_ K _) (pe_op (bin_ K _) (pe_op (bin_ K _) (L2.pv 0) pe_int) pe_int) pe_int))
        (pss_cons (ps_if (pt_cmpR (cmp_ K _ hu) (pe_op (bin_ K _) (pe_op (bin_ K _) (L2.pv 0) pe_int) pe_int) pe_int (nomark _)) (pss_one (ps_set (i := 1) sc__law_wish.nd rfl (Or.inl rfl) (pe_op (bin_ K _) (pe_op (bin_ K _) (pe_op (bin_ K _) (L2.pv 0) pe_int) (pe_op (bin_ K _) (pe_op (bin_ K _) pe_int (pe_op (bin_ K _) pe_int pe_int)) pe_int)) (pe_op (bin_ K _) pe_int pe_int)))) pss_nil)
        (pss_one (ps_ret (pe_ix ix_seq (pe_lst (L2.pa_cons (pe_tup (L2.pa_cons pe_str L2.pa_nil)) (L2.pa_cons (pe_tup (L2.pa_cons pe_str (L2.pa_cons (L2.pv 1) L2.pa_nil))) (L2.pa_cons (pe_tup (L2.pa_cons pe_str (L2.pa_cons (L2.pv 1) L2.pa_nil))) L2.pa_nil)))) (pe_op (bin_ K _) (L2.pv 0) pe_int) (fun _ _ => rfl)))))),
    (sx_sq (sx_as 1 (fv_p (pv_s (dv_bin isSub (dv_bin isMod (dv_bin isFdiv (dv_of (pv_var 0)) (dv_py (pv_int _))) (dv_py (pv_int _))) (dv_py (pv_int _))))))
        (sx_sq (sx_if (ft_b (Fx.pt_cmp isEq (dv_bin isMod (dv_bin isFdiv (dv_of (pv_var 0)) (dv_py (pv_int _))) (dv_py (pv_int _))) (dv_py (pv_int _)))) (sx_as 1 (fv_p (pv_s (dv_bin isSub (dv_bin isMod (dv_bin isFdiv (dv_of (pv_var 0)) (dv_py (pv_int _))) (dv_bin isAdd (dv_bin isMul (dv_py (pv_int _)) (dv_bin isPow (dv_py (pv_int _)) (dv_py (pv_int _)))) (dv_py (pv_int _)))) (dv_bin isPow (dv_py (pv_int _)) (dv_py (pv_int _))))))) sx_nx)
        (sx_rt (fv_p (pv_idx (pv_fz (nv_lst (Fx.pa_cons (pv_tup (Fx.pa_cons (pv_str _) Fx.pa_nil)) (Fx.pa_cons (pv_tup (Fx.pa_cons (pv_str _) (Fx.pa_cons (pv_var 1) Fx.pa_nil))) (Fx.pa_cons (pv_tup (Fx.pa_cons (pv_str _) (Fx.pa_cons (pv_var 1) Fx.pa_nil))) Fx.pa_nil))))) (dv_bin isMod (dv_of (pv_var 0)) (dv_py (pv_int _))))))))⟩
theorem ok__law_stands (T : Txt K mg A) (G_Caller_answers : FnOk P w K mg base (L2N.CX P w) 1 A.f_Caller_answers A.d_Caller_answers ["self"] (PSf K A.cl S_Caller_answers)) (G_Caller_asking : FnOk P w K mg base (L2N.CX P w) 1 A.f_Caller_asking A.d_Caller_asking ["self"] (PSf K A.cl S_Caller_asking)) (G_Caller_letter : FnOk P w K mg base (L2N.CX P w) 1 A.f_Caller_letter A.d_Caller_letter ["self", "house"] (PSf K A.cl S_Caller_letter)) (G__law_alike : FnOk P w K mg base (L2N.CX P w) 6 A.f__law_alike A.d__law_alike ["_law_found", "_law_due"] (PSf K A.cl S__law_alike)) : FnOk P w K mg base (L2N.CX P w) 7 A.f__law_stands A.d__law_stands ["_law_caller", "_law_number", "_law_asked", "_law_closed"] (PSf K A.cl S__law_stands) := by
    refine def_ok (k := 6) T.F__law_stands sc__law_stands (by decide) fun cdv Ar outer s H E hr => ?_
    have hu := hr.units
    have hu1 := hu_of hr
    have tk : L2N.Takes (cxOf (L2N.CX P w) P w K mg base ["_law_caller", "_law_number", "_law_asked", "_law_closed", "_law_found", "_law_house"] "_law_stands" (defScope s__law_stands) A.f__law_stands cdv Ar outer s H E) (fun c d _ H => E c d H) := L2N.takes_of rfl rfl rfl rfl
    exact ⟨_, (pss_cons (ps_if (PW.pt (pw_or (PW.pt (pw_and (pt_cmpR (cmp_ K _ hu) (L2.pv 2) pe_non (nomark _)) (pw_and1 (pt_cmpR (cmp_ K _ hu) (pe_meth0SD (CX := L2N.CX P w) (E := WE (fun c d _ H => E c d H)) (L2.pv 0) T.C_Caller T.M_Caller_asking G_Caller_asking (hr.mono (by decide)) T.B_Caller_asking .nil (fun σ => L2N.passAt tk σ)) pe_non (nomark _))))) (pw_or1 (PW.pt (pw_and (pt_cmpR (cmp_ K _ hu) (L2.pv 2) pe_non (nomark _)) (pw_and1 (L2.pt_not (L2.pt_val (pe_callSD (CX := L2N.CX P w) (E := WE (fun c d _ H => E c d H)) G__law_alike (hr.mono (by decide)) (by rfl) T.m__law_alike T.F__law_alike.kp T.B__law_alike .nil (fun σ => L2N.passAt tk σ) (L2.pa_cons (pe_meth0SD (CX := L2N.CX P w) (E := WE (fun c d _ H => E c d H)) (L2.pv 0) T.C_Caller T.M_Caller_asking G_Caller_asking (hr.mono (by decide)) T.B_Caller_asking .nil (fun σ => L2N.passAt tk σ)) (L2.pa_cons (L2.pv 2) L2.pa_nil))))))))))) (pss_one (ps_ret pe_bl)) pss_nil)
        (pss_cons (ps_set (i := 4) sc__law_stands.nd rfl (Or.inl rfl) (pe_meth0SD (CX := L2N.CX P w) (E := WE (fun c d _ H => E c d H)) (L2.pv 0) T.C_Caller T.M_Caller_answers G_Caller_answers (hr.mono (by decide)) T.B_Caller_answers .nil (fun σ => L2N.passAt tk σ)))
        (pss_cons (ps_if (L2.pt_not (L2.pt_val (pe_callSD (CX := L2N.CX P w) (E := WE (fun c d _ H => E c d H)) G__law_alike (hr.mono (by decide)) (by rfl) T.m__law_alike T.F__law_alike.kp T.B__law_alike .nil (fun σ => L2N.passAt tk σ) (L2.pa_cons (L2.pv 4) (L2.pa_cons (L2.pv 3) L2.pa_nil))))) (pss_one (ps_ret pe_bl)) pss_nil)
        (pss_cons (ps_expr (pe_bm PySem.F.plainAttrs_list PySem.F.slot_list_append PySem.F.type_list_append mt_append (L2.pv 4) (L2.pa_cons (pe_tup (L2.pa_cons pe_int (L2.pa_cons pe_int L2.pa_nil))) L2.pa_nil)))
        (pss_cons (ps_if (pt_cmpR (cmp_ K _ hu) (L2.pv 2) pe_non (nomark _)) (pss_one (ps_for PassesOwn.leaving rfl (pi_range1 (by rfl) T.b_range (L2.pa_cons pe_int L2.pa_nil)) (pg_name (i := 5) sc__law_stands.nd rfl (Or.inl rfl)) (pss_one (ps_if (L2.pt_not (L2.pt_val (pe_callSD (CX := L2N.CX P w) (E := WE (fun c d _ H => E c d H)) G__law_alike (hr.mono (by decide)) (by rfl) T.m__law_alike T.F__law_alike.kp T.B__law_alike .nil (fun σ => L2N.passAt tk σ) (L2.pa_cons (pe_methSD (CX := L2N.CX P w) (E := WE (fun c d _ H => E c d H)) (L2.pv 0) T.C_Caller T.M_Caller_letter G_Caller_letter (hr.mono (by decide)) T.B_Caller_letter .nil (fun σ => L2N.passAt tk σ) (L2.pa_cons (L2.pv 5) L2.pa_nil)) (L2.pa_cons (pe_op (bin_ K _) (pe_tup (L2.pa_cons pe_str (L2.pa_cons (L2.pv 5) (L2.pa_cons (L2.pv 1) L2.pa_nil)))) (L2.pv 2)) L2.pa_nil))))) (pss_one (ps_ret pe_bl)) pss_nil)))) pss_nil)
        (pss_one (ps_ret (pe_callSD (CX := L2N.CX P w) (E := WE (fun c d _ H => E c d H)) G__law_alike (hr.mono (by decide)) (by rfl) T.m__law_alike T.F__law_alike.kp T.B__law_alike .nil (fun σ => L2N.passAt tk σ) (L2.pa_cons (pe_meth0SD (CX := L2N.CX P w) (E := WE (fun c d _ H => E c d H)) (L2.pv 0) T.C_Caller T.M_Caller_answers G_Caller_answers (hr.mono (by decide)) T.B_Caller_answers .nil (fun σ => L2N.passAt tk σ)) (L2.pa_cons (L2.pv 3) L2.pa_nil)))))))))),
    (sx_sq (sx_if (ft_or (ft_and (ft_b (Fx.pt_cmp isIs (dv_of (pv_var 2)) (dv_py pv_non))) (ft_test (fv_cmp2 isIsnt (fv_z (fv_meth (pv_var 0) fa_no)) (fv_p pv_non)))) (ft_and (ft_b (Fx.pt_cmp isIsnt (dv_of (pv_var 2)) (dv_py pv_non))) (ft_not (ft_val (fv_call (fa_co (fv_z (fv_meth (pv_var 0) fa_no)) (fa_co (fv_p (pv_var 2)) fa_no))))))) (sx_rt (fv_p (pv_bl _))) sx_nx)
        (sx_sq (sx_as 4 (fv_meth (pv_var 0) fa_no))
        (sx_sq (sx_if (ft_b (Fx.pt_not (Fx.pt_val (pv_s (dv_call (da_cons (dv_of (pv_var 4)) (da_cons (dv_of (pv_var 3)) da_nil))))))) (sx_rt (fv_p (pv_bl _))) sx_nx)
        (sx_sq (sx_ap (pv_var 4) (fv_p (pv_tup (Fx.pa_cons (pv_int _) (Fx.pa_cons (pv_int _) Fx.pa_nil)))))
        (sx_sq (sx_if (ft_b (Fx.pt_cmp isIsnt (dv_of (pv_var 2)) (dv_py pv_non))) (sx_fr (da_cons (dv_py (pv_int _)) da_nil) (tg_n 5) (sx_if (ft_not (ft_val (fv_call (fa_co (fv_z (fv_meth (pv_var 0) (fa_co (fv_p (pv_var 5)) fa_no))) (fa_co (fv_p (pv_s (dv_bin isAdd (dv_of (pv_tup (Fx.pa_cons (pv_str _) (Fx.pa_cons (pv_var 5) (Fx.pa_cons (pv_var 1) Fx.pa_nil))))) (dv_of (pv_var 2))))) fa_no))))) (sx_rt (fv_p (pv_bl _))) sx_nx)) sx_nx)
        (sx_rt (fv_call (fa_co (fv_z (fv_meth (pv_var 0) fa_no)) (fa_co (fv_p (pv_var 3)) fa_no)))))))))⟩
theorem ok_law (T : Txt K mg A) (G_Caller___init__ : FnOk P w K mg base (L2N.CX P w) 1 A.f_Caller___init__ A.d_Caller___init__ ["self", "number"] (PSf K A.cl S_Caller___init__)) (G_Caller_answers : FnOk P w K mg base (L2N.CX P w) 1 A.f_Caller_answers A.d_Caller_answers ["self"] (PSf K A.cl S_Caller_answers)) (G_Caller_asking : FnOk P w K mg base (L2N.CX P w) 1 A.f_Caller_asking A.d_Caller_asking ["self"] (PSf K A.cl S_Caller_asking)) (G_Caller_begin : FnOk P w K mg base (L2N.CX P w) 1 A.f_Caller_begin A.d_Caller_begin ["self", "key", "wish"] (PSf K A.cl S_Caller_begin)) (G_Caller_came : FnOk P w K mg base (L2N.CX P w) 1 A.f_Caller_came A.d_Caller_came ["self", "number", "told"] (PSf K A.cl S_Caller_came)) (G__law_alike : FnOk P w K mg base (L2N.CX P w) 6 A.f__law_alike A.d__law_alike ["_law_found", "_law_due"] (PSf K A.cl S__law_alike)) (G__law_cell_at : FnOk P w K mg base (L2N.CX P w) 1 A.f__law_cell_at A.d__law_cell_at ["_law_script", "_law_k"] (PSf K A.cl S__law_cell_at)) (G__law_stands : FnOk P w K mg base (L2N.CX P w) 7 A.f__law_stands A.d__law_stands ["_law_caller", "_law_number", "_law_asked", "_law_closed"] (PSf K A.cl S__law_stands)) (G__law_wish : FnOk P w K mg base (L2N.CX P w) 1 A.f__law_wish A.d__law_wish ["_law_cell"] (PSf K A.cl S__law_wish)) : FnOk P w K mg base (L2N.CX P w) 8 A.f_law A.d_law ["_law_script"] (PSf K A.cl S_law) := by
    refine def_ok (k := 7) T.F_law sc_law (by decide) fun cdv Ar outer s H E hr => ?_
    have hu := hr.units
    have hu1 := hu_of hr
    have tk : L2N.Takes (cxOf (L2N.CX P w) P w K mg base ["_law_script", "_law_number", "_law_caller", "_law_other", "_law_made", "_law_asked", "_law_closed", "_law_cell", "_law_more", "_law_which", "_law_told"] "law" (defScope s_law) A.f_law cdv Ar outer s H E) (fun c d _ H => E c d H) := L2N.takes_of rfl rfl rfl rfl
    exact ⟨_, (pss_cons (ps_set (i := 1) sc_law.nd rfl (Or.inl rfl) (pe_op (bin_ K _) (pe_callSD (CX := L2N.CX P w) (E := WE (fun c d _ H => E c d H)) G__law_cell_at (hr.mono (by decide)) (by rfl) T.m__law_cell_at T.F__law_cell_at.kp T.B__law_cell_at .nil (fun σ => L2N.passAt tk σ) (L2.pa_cons (L2.pv 0) (L2.pa_cons pe_int L2.pa_nil))) pe_int))
        (pss_cons (ps_set (i := 2) sc_law.nd rfl (Or.inl rfl) (pe_makeSD (CX := L2N.CX P w) (E := WE (fun c d _ H => E c d H)) T.K_Caller G_Caller___init__ (hr.mono (by decide)) (by rfl) T.c_Caller T.B_Caller___init__ .nil (fun σ => L2N.passAt tk σ) (L2.pa_cons (L2.pv 1) L2.pa_nil)))
        (pss_cons (ps_set (i := 3) sc_law.nd rfl (Or.inl rfl) (pe_makeSD (CX := L2N.CX P w) (E := WE (fun c d _ H => E c d H)) T.K_Caller G_Caller___init__ (hr.mono (by decide)) (by rfl) T.c_Caller T.B_Caller___init__ .nil (fun σ => L2N.passAt tk σ) (L2.pa_cons (pe_op (bin_ K _) (pe_callSD (CX := L2N.CX P w) (E := WE (fun c d _ H => E c d H)) G__law_cell_at (hr.mono (by decide)) (by rfl) T.m__law_cell_at T.F__law_cell_at.kp T.B__law_cell_at .nil (fun σ => L2N.passAt tk σ) (L2.pa_cons (L2.pv 0) (L2.pa_cons pe_int L2.pa_nil))) pe_int) L2.pa_nil)))
        (pss_cons (ps_set (i := 4) sc_law.nd rfl (Or.inl rfl) pe_int)
        (pss_cons (ps_set (i := 5) sc_law.nd rfl (Or.inl rfl) pe_non)
        (pss_cons (ps_set (i := 6) sc_law.nd rfl (Or.inl rfl) (pe_lst L2.pa_nil))
        (pss_cons (ps_for PassesOwn.leaving rfl (pi_list (pe_slice (slc_ K) (L2.pv 0) (po_some pe_int) po_none)) (pg_name (i := 7) sc_law.nd rfl (Or.inl rfl)) (pss_cons (ps_set (i := 8) sc_law.nd rfl (Or.inl rfl) (pe_op (bin_ K _) (L2.pv 7) pe_int))
        (pss_cons (ps_if (PW.pt (pw_and (pt_cmpR (cmp_ K _ hu) (L2.pv 5) pe_non (nomark _)) (pw_and1 (pt_cmpR (cmp_ K _ hu) (pe_op (bin_ K _) (L2.pv 7) pe_int) pe_int (nomark _))))) (pss_cons (ps_set (i := 4) sc_law.nd rfl (Or.inl rfl) (pe_op (bin_ K _) (L2.pv 4) pe_int))
        (pss_cons (ps_set (i := 5) sc_law.nd rfl (Or.inl rfl) (pe_tup (L2.pa_cons (L2.pv 4) (L2.pa_cons (pe_slice (slc_ K) pe_str po_none (po_some (pe_op (bin_ K _) pe_int (pe_op (bin_ K _) (L2.pv 8) pe_int)))) (L2.pa_cons (pe_callSD (CX := L2N.CX P w) (E := WE (fun c d _ H => E c d H)) G__law_wish (hr.mono (by decide)) (by rfl) T.m__law_wish T.F__law_wish.kp T.B__law_wish .nil (fun σ => L2N.passAt tk σ) (L2.pa_cons (pe_op (bin_ K _) (pe_op (bin_ K _) (pe_op (bin_ K _) (L2.pv 8) pe_int) pe_int) pe_int) L2.pa_nil)) L2.pa_nil)))))
        (pss_one (ps_if (L2.pt_not (L2.pt_val (pe_callSD (CX := L2N.CX P w) (E := WE (fun c d _ H => E c d H)) G__law_alike (hr.mono (by decide)) (by rfl) T.m__law_alike T.F__law_alike.kp T.B__law_alike .nil (fun σ => L2N.passAt tk σ) (L2.pa_cons (pe_methSD (CX := L2N.CX P w) (E := WE (fun c d _ H => E c d H)) (L2.pv 2) T.C_Caller T.M_Caller_begin G_Caller_begin (hr.mono (by decide)) T.B_Caller_begin .nil (fun σ => L2N.passAt tk σ) (L2.pa_cons (pe_ix ix_seq (L2.pv 5) pe_int (fun _ _ => rfl)) (L2.pa_cons (pe_ix ix_seq (L2.pv 5) pe_int (fun _ _ => rfl)) L2.pa_nil))) (L2.pa_cons (L2.pv 4) L2.pa_nil))))) (pss_one (ps_ret pe_bl)) pss_nil)))) (pss_cons (ps_set (i := 9) sc_law.nd rfl (Or.inl rfl) (pe_ix ix_seq (pe_lst (L2.pa_cons (L2.pv 4) (L2.pa_cons (L2.pv 4) (L2.pa_cons (pe_op (bin_ K _) (L2.pv 4) pe_int) (L2.pa_cons (pe_op (bin_ K _) (L2.pv 4) pe_int) (L2.pa_cons pe_int (L2.pa_cons (pe_op (bin_ K _) (pe_op (bin_ K _) (L2.pv 8) pe_int) (pe_op (bin_ K _) (L2.pv 4) pe_int)) L2.pa_nil))))))) (pe_op (bin_ K _) (L2.pv 8) pe_int) (fun _ _ => rfl)))
        (pss_cons (ps_set (i := 10) sc_law.nd rfl (Or.inl rfl) (pe_op (bin_ K _) (pe_op (bin_ K _) (L2.pv 8) (L2.pv 8)) (pe_op (bin_ K _) pe_int (pe_op (bin_ K _) pe_int (pe_op (bin_ K _) (L2.pv 8) pe_int)))))
        (pss_cons (ps_if (pt_cmpR (cmp_ K _ hu) (pe_methSD (CX := L2N.CX P w) (E := WE (fun c d _ H => E c d H)) (L2.pv 2) T.C_Caller T.M_Caller_came G_Caller_came (hr.mono (by decide)) T.B_Caller_came .nil (fun σ => L2N.passAt tk σ) (L2.pa_cons (pe_callB (call_max2 rfl) (by rfl) T.b_max (by decide +kernel) (L2.pa_cons pe_int (L2.pa_cons (L2.pv 9) L2.pa_nil))) (L2.pa_cons (L2.pv 10) L2.pa_nil))) pe_non (nomark _)) (pss_one (ps_ret pe_bl)) pss_nil)
        (pss_one (ps_if (PW.pt (pw_and (pt_cmpR (cmp_ K _ hu) (L2.pv 5) pe_non (nomark _)) (pw_and1 (pt_cmpR (cmp_ K _ hu) (pe_callB (call_max2 rfl) (by rfl) T.b_max (by decide +kernel) (L2.pa_cons pe_int (L2.pa_cons (L2.pv 9) L2.pa_nil))) (pe_ix ix_seq (L2.pv 5) pe_int (fun _ _ => rfl)) (nomark _))))) (pss_cons (ps_expr (pe_bm PySem.F.plainAttrs_list PySem.F.slot_list_append PySem.F.type_list_append mt_append (L2.pv 6) (L2.pa_cons (pe_tup (L2.pa_cons (pe_ix ix_seq (L2.pv 5) pe_int (fun _ _ => rfl)) (L2.pa_cons (L2.pv 10) L2.pa_nil))) L2.pa_nil)))
        (pss_one (ps_set (i := 5) sc_law.nd rfl (Or.inl rfl) pe_non))) pss_nil))))))
        (pss_one (ps_if (L2.pt_not (L2.pt_val (pe_callSD (CX := L2N.CX P w) (E := WE (fun c d _ H => E c d H)) G__law_stands (hr.mono (by decide)) (by rfl) T.m__law_stands T.F__law_stands.kp T.B__law_stands .nil (fun σ => L2N.passAt tk σ) (L2.pa_cons (L2.pv 2) (L2.pa_cons (L2.pv 1) (L2.pa_cons (L2.pv 5) (L2.pa_cons (L2.pv 6) L2.pa_nil))))))) (pss_one (ps_ret pe_bl)) pss_nil)))))
        (pss_one (ps_ret (pe_and (pe_cmpR (cmp_ K _ hu) (pe_meth0SD (CX := L2N.CX P w) (E := WE (fun c d _ H => E c d H)) (L2.pv 3) T.C_Caller T.M_Caller_asking G_Caller_asking (hr.mono (by decide)) T.B_Caller_asking .nil (fun σ => L2N.passAt tk σ)) pe_non (nomark _)) (pe_one (pe_cmpR (cmp_ K _ hu) (pe_meth0SD (CX := L2N.CX P w) (E := WE (fun c d _ H => E c d H)) (L2.pv 3) T.C_Caller T.M_Caller_answers G_Caller_answers (hr.mono (by decide)) T.B_Caller_answers .nil (fun σ => L2N.passAt tk σ)) (pe_lst L2.pa_nil) (nomark _))))))))))))),
    (sx_sq (sx_as 1 (fv_p (pv_s (dv_bin isMod (dv_call (da_cons (dv_of (pv_var 0)) (da_cons (dv_py (pv_int _)) da_nil))) (dv_py (pv_int _))))))
        (sx_sq (sx_as 2 (fv_makeSD (fa_co (fv_p (pv_var 1)) fa_no)))
        (sx_sq (sx_as 3 (fv_makeSD (fa_co (fv_p (pv_s (dv_bin isMod (dv_call (da_cons (dv_of (pv_var 0)) (da_cons (dv_py (pv_int _)) da_nil))) (dv_py (pv_int _))))) fa_no)))
        (sx_sq (sx_as 4 (fv_p (pv_int _)))
        (sx_sq (sx_as 5 (fv_p pv_non))
        (sx_sq (sx_as 6 (fv_n (nv_lst Fx.pa_nil)))
        (sx_sq (sx_fo (fv_p (pv_fz (nv_slc (pv_var 0) (po_i (dv_py (pv_int _))) po_no))) (tg_n 7) (sx_sq (sx_as 8 (fv_p (pv_s (dv_bin isFdiv (dv_of (pv_var 7)) (dv_py (pv_int _))))))
        (sx_sq (sx_if (ft_b (Fx.pt_and (Fx.pt_cmp isIs (dv_of (pv_var 5)) (dv_py pv_non)) (Fx.pt_cmp isGt (dv_bin isMod (dv_of (pv_var 7)) (dv_py (pv_int _))) (dv_py (pv_int _))))) (sx_sq (sx_as 4 (fv_p (pv_s (dv_bin isAdd (dv_of (pv_var 4)) (dv_py (pv_int _))))))
        (sx_sq (sx_as 5 (fv_p (pv_tup (Fx.pa_cons (pv_var 4) (Fx.pa_cons (pv_slc (pv_str _) po_no (po_i (dv_bin isAdd (dv_py (pv_int _)) (dv_bin isMod (dv_of (pv_var 8)) (dv_py (pv_int _)))))) (Fx.pa_cons (pv_s (dv_call (da_cons (dv_bin isFdiv (dv_bin isMul (dv_bin isAdd (dv_of (pv_var 8)) (dv_py (pv_int _))) (dv_py (pv_int _))) (dv_py (pv_int _))) da_nil))) Fx.pa_nil))))))
        (sx_if (ft_not (ft_val (fv_call (fa_co (fv_z (fv_meth (pv_var 2) (fa_co (fv_p (pv_idx (pv_var 5) (dv_py (pv_int _)))) (fa_co (fv_p (pv_idx (pv_var 5) (dv_py (pv_int _)))) fa_no)))) (fa_co (fv_p (pv_var 4)) fa_no))))) (sx_rt (fv_p (pv_bl _))) sx_nx))) (sx_sq (sx_as 9 (fv_p (pv_idx (pv_fz (nv_lst (Fx.pa_cons (pv_var 4) (Fx.pa_cons (pv_var 4) (Fx.pa_cons (pv_s (dv_bin isSub (dv_of (pv_var 4)) (dv_py (pv_int _)))) (Fx.pa_cons (pv_s (dv_bin isAdd (dv_of (pv_var 4)) (dv_py (pv_int _)))) (Fx.pa_cons (pv_int _) (Fx.pa_cons (pv_s (dv_bin isMod (dv_bin isFdiv (dv_of (pv_var 8)) (dv_py (pv_int _))) (dv_bin isAdd (dv_of (pv_var 4)) (dv_py (pv_int _))))) Fx.pa_nil)))))))) (dv_bin isMod (dv_of (pv_var 8)) (dv_py (pv_int _))))))
        (sx_sq (sx_as 10 (fv_p (pv_s (dv_bin isMul (dv_bin isMul (dv_of (pv_var 8)) (dv_of (pv_var 8))) (dv_bin isSub (dv_py (pv_int _)) (dv_bin isMul (dv_py (pv_int _)) (dv_bin isMod (dv_of (pv_var 8)) (dv_py (pv_int _)))))))))
        (sx_sq (sx_if (ft_test (fv_cmp2 isIsnt (fv_z (fv_meth (pv_var 2) (fa_co (fv_p (pv_s (dv_max (dv_py (pv_int _)) (dv_of (pv_var 9))))) (fa_co (fv_p (pv_var 10)) fa_no)))) (fv_p pv_non))) (sx_rt (fv_p (pv_bl _))) sx_nx)
        (sx_if (ft_b (Fx.pt_and (Fx.pt_cmp isIsnt (dv_of (pv_var 5)) (dv_py pv_non)) (Fx.pt_cmp isEq (dv_max (dv_py (pv_int _)) (dv_of (pv_var 9))) (dv_of (pv_idx (pv_var 5) (dv_py (pv_int _))))))) (sx_sq (sx_ap (pv_var 6) (fv_p (pv_tup (Fx.pa_cons (pv_idx (pv_var 5) (dv_py (pv_int _))) (Fx.pa_cons (pv_var 10) Fx.pa_nil)))))
        (sx_as 5 (fv_p pv_non))) sx_nx)))))
        (sx_if (ft_not (ft_val (fv_call (fa_co (fv_p (pv_var 2)) (fa_co (fv_p (pv_var 1)) (fa_co (fv_p (pv_var 5)) (fa_co (fv_p (pv_var 6)) fa_no))))))) (sx_rt (fv_p (pv_bl _))) sx_nx))))
        (sx_rt (fv_and (fv_cmp2 isIs (fv_z (fv_meth (pv_var 3) fa_no)) (fv_p pv_non)) (fv_cmp2 isEq (fv_z (fv_meth (pv_var 3) fa_no)) (fv_p (pv_fz (nv_lst Fx.pa_nil)))))))))))))⟩
theorem ok_all (T : Txt K mg A) : FnOk P w K mg base (L2N.CX P w) 8 A.f_law A.d_law ["_law_script"] (PSf K A.cl S_law) :=
  have G_Caller___init__ := ok_Caller___init__ (P := P) (w := w) (base := base) T 
  have G_Caller_begin := ok_Caller_begin (P := P) (w := w) (base := base) T 
  have G_Caller_letter := ok_Caller_letter (P := P) (w := w) (base := base) T 
  have G_Caller_came := ok_Caller_came (P := P) (w := w) (base := base) T 
  have G_Caller_asking := ok_Caller_asking (P := P) (w := w) (base := base) T 
  have G_Caller_answers := ok_Caller_answers (P := P) (w := w) (base := base) T 
  have G__law_cell_at := ok__law_cell_at (P := P) (w := w) (base := base) T 
  have G__law_alike := ok__law_alike (P := P) (w := w) (base := base) T 
  have G__law_wish := ok__law_wish (P := P) (w := w) (base := base) T 
  have G__law_stands := ok__law_stands (P := P) (w := w) (base := base) T G_Caller_answers G_Caller_asking G_Caller_letter G__law_alike
  have G_law := ok_law (P := P) (w := w) (base := base) T G_Caller___init__ G_Caller_answers G_Caller_asking G_Caller_begin G_Caller_came G__law_alike G__law_cell_at G__law_stands G__law_wish
  G_law
end
end L

namespace L
open PySem L2 Fx Mo
theorem stands_none (n b : Int) (cd : List PyData) (hl : cd.length < 1000) (hn : noLists cd = true) (hp : ∀ d ∈ cd, Plain 1 d) : S__law_stands [.pt [0], .py (.int n), .py .none, .pt [1]] [callerT n b .none cd, .nd () .lst (cd.map .py)] = some (.vl (.s (.py (.bool true))) [callerT n b .none cd, .nd () .lst (cd.map .py)]) := by
  have e1 := caller_asking n b .none cd
  have e2 := caller_answers n b .none cd hn
  have e3 : S__law_alike [.py (.list cd), .py (.list cd)] [] = some (.vl (.s (.py (.bool true))) []) := alike_ok (n := 5) (.lst 4 _ (by omega) fun d hd => (hp d hd).up (by omega))
  have e4 : S__law_alike [.py (.list cd), .pt [0]] [.nd () .lst (cd.map .py)] = some (.vl (.s (.py (.bool true))) [.nd () .lst (cd.map .py)]) := alike_okT (n := 4) (by omega) fun d hd => (hp d hd).up (by omega)
  have h5 : cd.length < 100000 := by omega
  unfold callerT at *
  simp [S__law_stands, b__law_stands, runF, Fx.Hd.own, Fx.TL.er, Fx.erAll, Fx.TL.get, Fx.TL.put, Fx.gget, Fx.gput, Fx.TL.addrs, Fx.TL.data, Fx.dataAll, Fx.msk, Fx.mulOk, Fx.addF, Fx.subF, Fx.mulF, Fx.fdivF, Fx.modF, Fx.powF, Fx.ltF, Fx.leF, Fx.gtF, Fx.geF, Fx.eqD, Fx.eqF, Fx.neF, Fx.isF, Fx.isntF, Fx.idxF, Fx.lenF, Fx.kindF, Fx.kitF, Fx.keyF, Fx.ixS, Fx.ixK, Fx.vVar, Fx.vC, Fx.vAt, Fx.dat, Fx.vD, Fx.vS, Fx.vPy, Fx.d2, Fx.dB, Fx.vB, Fx.bV, Fx.child, Fx.kidAt, Fx.vIdx, Fx.vGet, Fx.vFld, Fx.vLen, Fx.kindS, Fx.vIsi, Fx.vIsi2, Fx.aNil, Fx.aCons, Fx.vTup, Fx.nLst, Fx.vFz, Fx.bAnd, Fx.bOr, Fx.bNot, Fx.vIf, Fx.oNo, Fx.oI, Fx.cutF, Fx.vSlc, Fx.nSlc, Fx.negF, Fx.dNeg, Fx.rLenN, Fx.rIsiN, Fx.rIsiN2, Fx.nDct0, Fx.nDdt0, Fx.lendF, Fx.backF, Fx.headLt, Fx.voidF, Fx.tidy, Fx.callF, Fx.makeF, Fx.fP, Fx.fN, Fx.fB, Fx.rootF, Fx.dropLastF, Fx.fZ, Fx.push, Fx.gNo, Fx.gCo, Fx.fCall, Fx.fMake, Fx.fMeth, Fx.fBin2, Fx.fCmp2, Fx.fAnd, Fx.fOr, Fx.fNot, Fx.fBo, Fx.fMv, Fx.fOn, Fx.sNx, Fx.sBk, Fx.sCt, Fx.sRN, Fx.sSq, Fx.sDr, Fx.sRt, Fx.sIf, Fx.gN, Fx.gT0, Fx.gTC, Fx.gTu, Fx.takeRoot, Fx.sAs, Fx.sAt, Fx.childF, Fx.kidF, Fx.belowF, Fx.putAt, Fx.sFl, Fx.sPu, Fx.sSL, Fx.topPt, Fx.popTm, Fx.pushPt, Fx.sAp, Fx.sEx, Fx.fPop, Fx.sDe, Fx.pyAll, Fx.sEt, Fx.sFo, Fx.sFu, Fx.sFr, Fx.shiftS, Fx.lentF, Fx.dCall, Fx.nCall, Fx.iL, Fx.iLn, Fx.iT, Fx.iR, Fx.wipeR, Fx.bYes, Fx.boolsF, Fx.allF, Fx.d1, Fx.maxF, Fx.intF, Fx.nCopy, Fx.strsF, Fx.joinF, Fx.sRaise, msk_py, msk_no, msk_pt, List.isPrefixOf, List.cons_prefix_cons, List.nil_prefix, e1, e2, e3, e4, noList, noLists, Fx.dataAll_py, ofString_inj, h5]
theorem rng2 : rngF [.int 2] = some [.int 0, .int 1] := rfl
theorem letter_turn (h : Int) (n b k : Int) (key wish : PyData) (cd cl : List PyData) (e : S__law_alike [.py (.tuple [.str "call", .int h, .int n, .int k, key, wish]), .py (.tuple [.str "call", .int h, .int n, .int k, key, wish])] [] = some (.vl (.s (.py (.bool true))) []))
  (hk : noList key = true) (hw : noList wish = true) (s4 : Option Sv) (s5 : Option Sv) (f : T) : h__law_stands_1 ⟨[some (.pt [6]), some (.py (.int n)), some (.py (.tuple [.int k, key, wish])), some (.pt [7]), some (.pt [4]), some (.py (.int h))], [], [.un (), .un (), .un (), .un (), f, .un (), callerT n b (.tuple [.int k, key, wish]) cd, .nd () .lst (cl.map .py)], 8⟩
    = some (.nx ⟨[some (.pt [6]), some (.py (.int n)), some (.py (.tuple [.int k, key, wish])), some (.pt [7]), some (.pt [4]), some (.py (.int h))], [], [.un (), .un (), .un (), .un (), f, .un (), callerT n b (.tuple [.int k, key, wish]) cd, .nd () .lst (cl.map .py)], 8⟩) := by
  have e1 := caller_letter n b k (.int h) key wish cd
  unfold callerT at *
  simp [h__law_stands_1, Fx.Hd.own, Fx.TL.er, Fx.erAll, Fx.TL.get, Fx.TL.put, Fx.gget, Fx.gput, Fx.TL.addrs, Fx.TL.data, Fx.dataAll, Fx.msk, Fx.mulOk, Fx.addF, Fx.subF, Fx.mulF, Fx.fdivF, Fx.modF, Fx.powF, Fx.ltF, Fx.leF, Fx.gtF, Fx.geF, Fx.eqD, Fx.eqF, Fx.neF, Fx.isF, Fx.isntF, Fx.idxF, Fx.lenF, Fx.kindF, Fx.kitF, Fx.keyF, Fx.ixS, Fx.ixK, Fx.vVar, Fx.vC, Fx.vAt, Fx.dat, Fx.vD, Fx.vS, Fx.vPy, Fx.d2, Fx.dB, Fx.vB, Fx.bV, Fx.child, Fx.kidAt, Fx.vIdx, Fx.vGet, Fx.vFld, Fx.vLen, Fx.kindS, Fx.vIsi, Fx.vIsi2, Fx.aNil, Fx.aCons, Fx.vTup, Fx.nLst, Fx.vFz, Fx.bAnd, Fx.bOr, Fx.bNot, Fx.vIf, Fx.oNo, Fx.oI, Fx.cutF, Fx.vSlc, Fx.nSlc, Fx.negF, Fx.dNeg, Fx.rLenN, Fx.rIsiN, Fx.rIsiN2, Fx.nDct0, Fx.nDdt0, Fx.lendF, Fx.backF, Fx.headLt, Fx.voidF, Fx.tidy, Fx.callF, Fx.makeF, Fx.fP, Fx.fN, Fx.fB, Fx.rootF, Fx.dropLastF, Fx.fZ, Fx.push, Fx.gNo, Fx.gCo, Fx.fCall, Fx.fMake, Fx.fMeth, Fx.fBin2, Fx.fCmp2, Fx.fAnd, Fx.fOr, Fx.fNot, Fx.fBo, Fx.fMv, Fx.fOn, Fx.sNx, Fx.sBk, Fx.sCt, Fx.sRN, Fx.sSq, Fx.sDr, Fx.sRt, Fx.sIf, Fx.gN, Fx.gT0, Fx.gTC, Fx.gTu, Fx.takeRoot, Fx.sAs, Fx.sAt, Fx.childF, Fx.kidF, Fx.belowF, Fx.putAt, Fx.sFl, Fx.sPu, Fx.sSL, Fx.topPt, Fx.popTm, Fx.pushPt, Fx.sAp, Fx.sEx, Fx.fPop, Fx.sDe, Fx.pyAll, Fx.sEt, Fx.sFo, Fx.sFu, Fx.sFr, Fx.shiftS, Fx.lentF, Fx.dCall, Fx.nCall, Fx.iL, Fx.iLn, Fx.iT, Fx.iR, Fx.wipeR, Fx.bYes, Fx.boolsF, Fx.allF, Fx.d1, Fx.maxF, Fx.intF, Fx.nCopy, Fx.strsF, Fx.joinF, Fx.sRaise, msk_py, msk_no, msk_pt, List.isPrefixOf, List.cons_prefix_cons, List.nil_prefix, e1, e, noList, noLists, Fx.dataAll_py, ofString_inj, hk, hw]
theorem stands_some (n b k : Int) (key wish : PyData) (cd : List PyData) (hl : cd.length < 1000) (hn : noLists cd = true) (hp : ∀ d ∈ cd, Plain 1 d) (pk : Plain 0 key) (pw : Plain 1 wish) (hk : noList key = true) (hw : noList wish = true) : S__law_stands [.pt [0], .py (.int n), .py (.tuple [.int k, key, wish]), .pt [1]] [callerT n b (.tuple [.int k, key, wish]) cd, .nd () .lst (cd.map .py)] = some (.vl (.s (.py (.bool true))) [callerT n b (.tuple [.int k, key, wish]) cd, .nd () .lst (cd.map .py)]) := by
  have e1 := caller_asking n b (.tuple [.int k, key, wish]) cd
  have e2 := caller_answers n b (.tuple [.int k, key, wish]) cd hn
  have e3 : S__law_alike [.py (.list cd), .py (.list cd)] [] = some (.vl (.s (.py (.bool true))) []) := alike_ok (n := 5) (.lst 4 _ (by omega) fun d hd => (hp d hd).up (by omega))
  have e4 : S__law_alike [.py (.list cd), .pt [0]] [.nd () .lst (cd.map .py)] = some (.vl (.s (.py (.bool true))) [.nd () .lst (cd.map .py)]) := alike_okT (n := 4) (by omega) fun d hd => (hp d hd).up (by omega)
  have pa : Plain 5 (.tuple [.int k, key, wish]) := .tup 4 _ (by simp) fun d hd => by
    simp only [List.mem_cons, List.not_mem_nil, or_false] at hd
    rcases hd with rfl | rfl | rfl
    · exact .int _ _
    · exact pk.up (by omega)
    · exact pw.up (by omega)
  have e5 : S__law_alike [.py (.tuple [.int k, key, wish]), .py (.tuple [.int k, key, wish])] [] = some (.vl (.s (.py (.bool true))) []) := alike_ok (n := 5) pa
  have e6 : ∀ h : Int, S__law_alike [.py (.tuple [.str "call", .int h, .int n, .int k, key, wish]), .py (.tuple [.str "call", .int h, .int n, .int k, key, wish])] [] = some (.vl (.s (.py (.bool true))) []) := fun h => alike_ok (n := 5) (.tup 4 _ (by simp) fun d hd => by
    simp only [List.mem_cons, List.not_mem_nil, or_false] at hd
    rcases hd with rfl | rfl | rfl | rfl | rfl | rfl
    · exact .str _ _ (by decide)
    · exact .int _ _
    · exact .int _ _
    · exact .int _ _
    · exact pk.up (by omega)
    · exact pw.up (by omega))
  have h5 : cd.length < 100000 := by omega
  have t := fun h => letter_turn h n b k key wish cd cd (e6 h) hk hw none none
  unfold S__law_stands b__law_stands
  generalize h__law_stands_1 = body at t ⊢
  unfold callerT at *
  simp [runF, Fx.Hd.own, Fx.TL.er, Fx.erAll, Fx.TL.get, Fx.TL.put, Fx.gget, Fx.gput, Fx.TL.addrs, Fx.TL.data, Fx.dataAll, Fx.msk, Fx.mulOk, Fx.addF, Fx.subF, Fx.mulF, Fx.fdivF, Fx.modF, Fx.powF, Fx.ltF, Fx.leF, Fx.gtF, Fx.geF, Fx.eqD, Fx.eqF, Fx.neF, Fx.isF, Fx.isntF, Fx.idxF, Fx.lenF, Fx.kindF, Fx.kitF, Fx.keyF, Fx.ixS, Fx.ixK, Fx.vVar, Fx.vC, Fx.vAt, Fx.dat, Fx.vD, Fx.vS, Fx.vPy, Fx.d2, Fx.dB, Fx.vB, Fx.bV, Fx.child, Fx.kidAt, Fx.vIdx, Fx.vGet, Fx.vFld, Fx.vLen, Fx.kindS, Fx.vIsi, Fx.vIsi2, Fx.aNil, Fx.aCons, Fx.vTup, Fx.nLst, Fx.vFz, Fx.bAnd, Fx.bOr, Fx.bNot, Fx.vIf, Fx.oNo, Fx.oI, Fx.cutF, Fx.vSlc, Fx.nSlc, Fx.negF, Fx.dNeg, Fx.rLenN, Fx.rIsiN, Fx.rIsiN2, Fx.nDct0, Fx.nDdt0, Fx.lendF, Fx.backF, Fx.headLt, Fx.voidF, Fx.tidy, Fx.callF, Fx.makeF, Fx.fP, Fx.fN, Fx.fB, Fx.rootF, Fx.dropLastF, Fx.fZ, Fx.push, Fx.gNo, Fx.gCo, Fx.fCall, Fx.fMake, Fx.fMeth, Fx.fBin2, Fx.fCmp2, Fx.fAnd, Fx.fOr, Fx.fNot, Fx.fBo, Fx.fMv, Fx.fOn, Fx.sNx, Fx.sBk, Fx.sCt, Fx.sRN, Fx.sSq, Fx.sDr, Fx.sRt, Fx.sIf, Fx.gN, Fx.gT0, Fx.gTC, Fx.gTu, Fx.takeRoot, Fx.sAs, Fx.sAt, Fx.childF, Fx.kidF, Fx.belowF, Fx.putAt, Fx.sFl, Fx.sPu, Fx.sSL, Fx.topPt, Fx.popTm, Fx.pushPt, Fx.sAp, Fx.sEx, Fx.fPop, Fx.sDe, Fx.pyAll, Fx.sEt, Fx.sFo, Fx.sFu, Fx.sFr, Fx.shiftS, Fx.lentF, Fx.dCall, Fx.nCall, Fx.iL, Fx.iLn, Fx.iT, Fx.iR, Fx.wipeR, Fx.bYes, Fx.nLc, Fx.boolsF, Fx.allF, Fx.d1, Fx.maxF, Fx.intF, Fx.nCopy, Fx.strsF, Fx.joinF, Fx.sRaise, msk_py, msk_no, msk_pt, List.isPrefixOf, List.cons_prefix_cons, List.nil_prefix, e1, e2, e3, e4, e5, t, noList, noLists, Fx.dataAll_py, ofString_inj, h5, hk, hw, rng2, loopD]
def lawSt (sc : PyData) (n o made : Int) (asked : PyData) (cd : List PyData) (c7 c8 c9 c10 : Option Sv) : Rh :=
  ⟨[some (.py sc), some (.py (.int n)), some (.pt [2]), some (.pt [3]), some (.py (.int made)), some (.py asked), some (.pt [6]), c7, c8, c9, c10], [],
   [.un (), .un (), callerT n made asked cd, callerT o 0 .none [], .un (), .un (), .nd () .lst (cd.map .py), .un (), .un (), .un (), .un ()], 11⟩
def keyOf (z : Int) : PyData := .str (cutS "abc" none (some (1 + z / 4 % 3)))
def wOf (z : Int) : PyData := (wishOf ((z / 4 + 1) * 48271 / 5)).d
theorem cut_len (z : Str) (lo hi : Option Int) : (cutS z lo hi).length ≤ z.length := by
  unfold cutS Str.length
  simp
  omega
theorem abc_len : (Str.ofString "abc").length ≤ 16777216 := by decide
theorem key_plain (z : Int) : Plain 0 (keyOf z) := .str _ _ (Nat.le_trans (cut_len _ _ _) abc_len)
theorem plain2 {n : Nat} {a b : PyData} (ha : Plain n a) (hb : Plain n b) : Plain (n + 1) (.tuple [a, b]) := .tup _ _ (by simp) fun d hd => by
  simp only [List.mem_cons, List.not_mem_nil, or_false] at hd
  rcases hd with rfl | rfl
  · exact ha
  · exact hb
theorem wish_plain (w : Wish) : Plain 1 w.d := by
  cases w with
  | get => exact .tup _ _ (by simp) fun d hd => by simp at hd; subst hd; exact .str _ _ (by decide)
  | set n => exact plain2 (.str _ _ (by decide)) (.int _ _)
  | add n => exact plain2 (.str _ _ (by decide)) (.int _ _)
theorem turn_begin (sc : PyData) (n o made : Int) (cd : List PyData) (z : Int) (c8 c9 c10 : Option Sv) (n9 : ∀ bad, msk1 bad c9 = c9) (n10 : ∀ bad, msk1 bad c10 = c10) (hz : 0 < z % 4) (hl : cd.length < 1000) (hn : noLists cd = true) (hp : ∀ d ∈ cd, Plain 1 d) :
   ∃ a, h_law_1 (lawSt sc n o made .none cd (some (.py (.int z))) c8 c9 c10) = some (.nx (lawSt sc n o (made + 1) (.tuple [.int (made + 1), keyOf z, wOf z]) cd (some (.py (.int z))) (some (.py a)) c9 c10)) := by
  have e1 := caller_begin n made .none (keyOf z) (wOf z) cd
  have e2 := wish_ok ((z / 4 + 1) * 48271 / 5)
  have e3 : S__law_alike [.py (.int (made + 1)), .py (.int (made + 1))] [] = some (.vl (.s (.py (.bool true))) []) := alike_ok (n := 5) (.int _ _)
  have e4 := stands_some n (made + 1) (made + 1) (keyOf z) (wOf z) cd hl hn hp (key_plain z) (wish_plain _) rfl (noList_wish _)
  have m1 : mulOk (z / 4 + 1) 48271 = true := mulOk_r (by decide)
  have hn2 : noList (wishOf ((z / 4 + 1) * 48271 / 5)).d = true := noList_wish _
  refine ⟨.int (z / 4), ?_⟩
  unfold h_law_1 lawSt
  unfold keyOf wOf callerT at *
  simp [Fx.Hd.own, Fx.TL.er, Fx.erAll, Fx.TL.get, Fx.TL.put, Fx.gget, Fx.gput, Fx.TL.addrs, Fx.TL.data, Fx.dataAll, Fx.msk, Fx.addF, Fx.subF, Fx.mulF, Fx.fdivF, Fx.modF, Fx.powF, Fx.ltF, Fx.leF, Fx.gtF, Fx.geF, Fx.eqD, Fx.eqF, Fx.neF, Fx.isF, Fx.isntF, Fx.idxF, Fx.lenF, Fx.kindF, Fx.kitF, Fx.keyF, Fx.ixS, Fx.ixK, Fx.vVar, Fx.vC, Fx.vAt, Fx.dat, Fx.vD, Fx.vS, Fx.vPy, Fx.d2, Fx.dB, Fx.vB, Fx.bV, Fx.child, Fx.kidAt, Fx.vIdx, Fx.vGet, Fx.vFld, Fx.vLen, Fx.kindS, Fx.vIsi, Fx.vIsi2, Fx.aNil, Fx.aCons, Fx.vTup, Fx.nLst, Fx.vFz, Fx.bAnd, Fx.bOr, Fx.bNot, Fx.vIf, Fx.oNo, Fx.oI, Fx.cutF, Fx.vSlc, Fx.nSlc, Fx.negF, Fx.dNeg, Fx.rLenN, Fx.rIsiN, Fx.rIsiN2, Fx.nDct0, Fx.nDdt0, Fx.lendF, Fx.backF, Fx.headLt, Fx.voidF, Fx.tidy, Fx.callF, Fx.makeF, Fx.fP, Fx.fN, Fx.fB, Fx.rootF, Fx.dropLastF, Fx.fZ, Fx.push, Fx.gNo, Fx.gCo, Fx.fCall, Fx.fMake, Fx.fMeth, Fx.fBin2, Fx.fCmp2, Fx.fAnd, Fx.fOr, Fx.fNot, Fx.fBo, Fx.fMv, Fx.fOn, Fx.sNx, Fx.sBk, Fx.sCt, Fx.sRN, Fx.sSq, Fx.sDr, Fx.sRt, Fx.sIf, Fx.gN, Fx.gT0, Fx.gTC, Fx.gTu, Fx.takeRoot, Fx.sAs, Fx.sAt, Fx.childF, Fx.kidF, Fx.belowF, Fx.putAt, Fx.sFl, Fx.sPu, Fx.sSL, Fx.topPt, Fx.popTm, Fx.pushPt, Fx.sAp, Fx.sEx, Fx.fPop, Fx.sDe, Fx.pyAll, Fx.sEt, Fx.sFo, Fx.sFu, Fx.sFr, Fx.shiftS, Fx.lentF, Fx.dCall, Fx.nCall, Fx.iL, Fx.iLn, Fx.iT, Fx.iR, Fx.wipeR, Fx.bYes, Fx.nLc, Fx.boolsF, Fx.allF, Fx.d1, Fx.maxF, Fx.intF, Fx.nCopy, Fx.strsF, Fx.joinF, Fx.sRaise, msk_py, msk_no, msk_pt, List.isPrefixOf, List.cons_prefix_cons, List.nil_prefix, e1, e2, e3, e4, noList, noLists, Fx.dataAll_py, ofString_inj, hz, m1, n9, n10, hn2, abc_len, atI, ixN]
theorem which_ok (made m : Int) (h : 0 ≤ made) : ∃ w : Int, atI [PyData.int made, .int made, .int (made - 1), .int (made + 1), .int 0, .int (m / 5 % (made + 3))] (m % 6) = some (.int w) := by
  have : m % 6 = 0 ∨ m % 6 = 1 ∨ m % 6 = 2 ∨ m % 6 = 3 ∨ m % 6 = 4 ∨ m % 6 = 5 := by omega
  rcases this with h | h | h | h | h | h <;> rw [h] <;> exact ⟨_, rfl⟩
theorem told_bits {z : Int} (h : Builtin.Int.intBits z ≤ 1048576) : mulOk (z / 4) (z / 4) = true ∧ mulOk 2 (z / 4 % 2) = true ∧ mulOk (z / 4 * (z / 4)) (1 - 2 * (z / 4 % 2)) = true :=
  ⟨mulOk_bits (bits_div h 4 (by decide)) (bits_div h 4 (by decide)) (by decide), mulOk_l (by decide), mulOk_r (by omega)⟩
def toldOf (z : Int) : PyData := .int (z / 4 * (z / 4) * (1 - 2 * (z / 4 % 2)))
theorem turn_none (sc : PyData) (n o made : Int) (cd : List PyData) (z : Int) (c8 c9 c10 : Option Sv) (hz : ¬ 0 < z % 4) (hm : 0 ≤ made) (hb : Builtin.Int.intBits z ≤ 1048576) (hl : cd.length < 1000) (hn : noLists cd = true) (hp : ∀ d ∈ cd, Plain 1 d) :
   ∃ a b c, h_law_1 (lawSt sc n o made .none cd (some (.py (.int z))) c8 c9 c10) = some (.nx (lawSt sc n o made .none cd (some (.py (.int z))) (some (.py a)) (some (.py b)) (some (.py c)))) := by
  obtain ⟨w, hw⟩ := which_ok made (z / 4) hm
  obtain ⟨m1, m2, m3⟩ := told_bits hb
  have e1 := caller_came_none n made (if 0 < w then w else 0) (toldOf z) cd
  have e4 := stands_none n made cd hl hn hp
  refine ⟨.int (z / 4), .int w, toldOf z, ?_⟩
  unfold h_law_1 lawSt
  unfold toldOf callerT at *
  have hp3 : 0 < made + 3 := by omega
  simp [Fx.Hd.own, Fx.TL.er, Fx.erAll, Fx.TL.get, Fx.TL.put, Fx.gget, Fx.gput, Fx.TL.addrs, Fx.TL.data, Fx.dataAll, Fx.msk, Fx.addF, Fx.subF, Fx.mulF, Fx.fdivF, Fx.modF, Fx.powF, Fx.ltF, Fx.leF, Fx.gtF, Fx.geF, Fx.eqD, Fx.eqF, Fx.neF, Fx.isF, Fx.isntF, Fx.idxF, Fx.lenF, Fx.kindF, Fx.kitF, Fx.keyF, Fx.ixS, Fx.ixK, Fx.vVar, Fx.vC, Fx.vAt, Fx.dat, Fx.vD, Fx.vS, Fx.vPy, Fx.d2, Fx.dB, Fx.vB, Fx.bV, Fx.child, Fx.kidAt, Fx.vIdx, Fx.vGet, Fx.vFld, Fx.vLen, Fx.kindS, Fx.vIsi, Fx.vIsi2, Fx.aNil, Fx.aCons, Fx.vTup, Fx.nLst, Fx.vFz, Fx.bAnd, Fx.bOr, Fx.bNot, Fx.vIf, Fx.oNo, Fx.oI, Fx.cutF, Fx.vSlc, Fx.nSlc, Fx.negF, Fx.dNeg, Fx.rLenN, Fx.rIsiN, Fx.rIsiN2, Fx.nDct0, Fx.nDdt0, Fx.lendF, Fx.backF, Fx.headLt, Fx.voidF, Fx.tidy, Fx.callF, Fx.makeF, Fx.fP, Fx.fN, Fx.fB, Fx.rootF, Fx.dropLastF, Fx.fZ, Fx.push, Fx.gNo, Fx.gCo, Fx.fCall, Fx.fMake, Fx.fMeth, Fx.fBin2, Fx.fCmp2, Fx.fAnd, Fx.fOr, Fx.fNot, Fx.fBo, Fx.fMv, Fx.fOn, Fx.sNx, Fx.sBk, Fx.sCt, Fx.sRN, Fx.sSq, Fx.sDr, Fx.sRt, Fx.sIf, Fx.gN, Fx.gT0, Fx.gTC, Fx.gTu, Fx.takeRoot, Fx.sAs, Fx.sAt, Fx.childF, Fx.kidF, Fx.belowF, Fx.putAt, Fx.sFl, Fx.sPu, Fx.sSL, Fx.topPt, Fx.popTm, Fx.pushPt, Fx.sAp, Fx.sEx, Fx.fPop, Fx.sDe, Fx.pyAll, Fx.sEt, Fx.sFo, Fx.sFu, Fx.sFr, Fx.shiftS, Fx.lentF, Fx.dCall, Fx.nCall, Fx.iL, Fx.iLn, Fx.iT, Fx.iR, Fx.wipeR, Fx.bYes, Fx.nLc, Fx.boolsF, Fx.allF, Fx.d1, Fx.maxF, Fx.intF, Fx.nCopy, Fx.strsF, Fx.joinF, Fx.sRaise, msk_py, msk_no, msk_pt, List.isPrefixOf, List.cons_prefix_cons, List.nil_prefix, e1, e4, noList, noLists, Fx.dataAll_py, ofString_inj, hz, m1, m2, m3, hw, hp3]
theorem turn_own (sc : PyData) (n o made : Int) (key wish : PyData) (cd : List PyData) (z w : Int) (c8 c9 c10 : Option Sv) (hm : 0 ≤ made) (hw : atI [PyData.int made, .int made, .int (made - 1), .int (made + 1), .int 0, .int (z / 4 / 5 % (made + 3))] (z / 4 % 6) = some (.int w)) (hk : (if 0 < w then w else 0) = made) (hb : Builtin.Int.intBits z ≤ 1048576) (hl : cd.length + 1 < 1000) (hn : noLists cd = true) (hp : ∀ d ∈ cd, Plain 1 d) :
   ∃ a b c, h_law_1 (lawSt sc n o made (.tuple [.int made, key, wish]) cd (some (.py (.int z))) c8 c9 c10) = some (.nx (lawSt sc n o made .none (cd ++ [.tuple [.int made, toldOf z]]) (some (.py (.int z))) (some (.py a)) (some (.py b)) (some (.py c)))) := by
  obtain ⟨m1, m2, m3⟩ := told_bits hb
  have e1 := caller_came_own n made made key wish (toldOf z) cd (by omega)
  have e4 := stands_none n made (cd ++ [.tuple [.int made, toldOf z]]) (by simpa using hl) (by rw [noLists_append, hn]; rfl) fun d hd => by
    rcases List.mem_append.mp hd with h | h
    · exact hp d h
    · simp at h; subst h; exact plain2 (.int _ _) (.int _ _)
  have h5 : cd.length < 100000 := by omega
  refine ⟨.int (z / 4), .int w, toldOf z, ?_⟩
  unfold h_law_1 lawSt
  unfold toldOf callerT at *
  simp only [List.map_append, List.map_cons, List.map_nil] at e4
  have hp3 : 0 < made + 3 := by omega
  simp [Fx.Hd.own, Fx.TL.er, Fx.erAll, Fx.TL.get, Fx.TL.put, Fx.gget, Fx.gput, Fx.TL.addrs, Fx.TL.data, Fx.dataAll, Fx.msk, Fx.addF, Fx.subF, Fx.mulF, Fx.fdivF, Fx.modF, Fx.powF, Fx.ltF, Fx.leF, Fx.gtF, Fx.geF, Fx.eqD, Fx.eqF, Fx.neF, Fx.isF, Fx.isntF, Fx.idxF, Fx.lenF, Fx.kindF, Fx.kitF, Fx.keyF, Fx.ixS, Fx.ixK, Fx.vVar, Fx.vC, Fx.vAt, Fx.dat, Fx.vD, Fx.vS, Fx.vPy, Fx.d2, Fx.dB, Fx.vB, Fx.bV, Fx.child, Fx.kidAt, Fx.vIdx, Fx.vGet, Fx.vFld, Fx.vLen, Fx.kindS, Fx.vIsi, Fx.vIsi2, Fx.aNil, Fx.aCons, Fx.vTup, Fx.nLst, Fx.vFz, Fx.bAnd, Fx.bOr, Fx.bNot, Fx.vIf, Fx.oNo, Fx.oI, Fx.cutF, Fx.vSlc, Fx.nSlc, Fx.negF, Fx.dNeg, Fx.rLenN, Fx.rIsiN, Fx.rIsiN2, Fx.nDct0, Fx.nDdt0, Fx.lendF, Fx.backF, Fx.headLt, Fx.voidF, Fx.tidy, Fx.callF, Fx.makeF, Fx.fP, Fx.fN, Fx.fB, Fx.rootF, Fx.dropLastF, Fx.fZ, Fx.push, Fx.gNo, Fx.gCo, Fx.fCall, Fx.fMake, Fx.fMeth, Fx.fBin2, Fx.fCmp2, Fx.fAnd, Fx.fOr, Fx.fNot, Fx.fBo, Fx.fMv, Fx.fOn, Fx.sNx, Fx.sBk, Fx.sCt, Fx.sRN, Fx.sSq, Fx.sDr, Fx.sRt, Fx.sIf, Fx.gN, Fx.gT0, Fx.gTC, Fx.gTu, Fx.takeRoot, Fx.sAs, Fx.sAt, Fx.childF, Fx.kidF, Fx.belowF, Fx.putAt, Fx.sFl, Fx.sPu, Fx.sSL, Fx.topPt, Fx.popTm, Fx.pushPt, Fx.sAp, Fx.sEx, Fx.fPop, Fx.sDe, Fx.pyAll, Fx.sEt, Fx.sFo, Fx.sFu, Fx.sFr, Fx.shiftS, Fx.lentF, Fx.dCall, Fx.nCall, Fx.iL, Fx.iLn, Fx.iT, Fx.iR, Fx.wipeR, Fx.bYes, Fx.nLc, Fx.boolsF, Fx.allF, Fx.d1, Fx.maxF, Fx.intF, Fx.nCopy, Fx.strsF, Fx.joinF, Fx.sRaise, msk_py, msk_no, msk_pt, List.isPrefixOf, List.cons_prefix_cons, List.nil_prefix, e1, noList, noLists, Fx.dataAll_py, ofString_inj, m1, m2, m3, hw, hp3, hk, h5, at0, e4]
theorem turn_other (sc : PyData) (n o made : Int) (key wish : PyData) (cd : List PyData) (z w : Int) (c8 c9 c10 : Option Sv) (hm : 0 ≤ made) (hw : atI [PyData.int made, .int made, .int (made - 1), .int (made + 1), .int 0, .int (z / 4 / 5 % (made + 3))] (z / 4 % 6) = some (.int w)) (hk : (if 0 < w then w else 0) ≠ made) (hb : Builtin.Int.intBits z ≤ 1048576) (hl : cd.length < 1000) (hn : noLists cd = true) (hp : ∀ d ∈ cd, Plain 1 d) (pk : Plain 0 key) (pw : Plain 1 wish) (nk : noList key = true) (nw : noList wish = true) :
   ∃ a b c, h_law_1 (lawSt sc n o made (.tuple [.int made, key, wish]) cd (some (.py (.int z))) c8 c9 c10) = some (.nx (lawSt sc n o made (.tuple [.int made, key, wish]) cd (some (.py (.int z))) (some (.py a)) (some (.py b)) (some (.py c)))) := by
  obtain ⟨m1, m2, m3⟩ := told_bits hb
  have e1 := caller_came_other n made _ made key wish (toldOf z) cd (Ne.symm hk)
  have e4 := stands_some n made made key wish cd hl hn hp pk pw nk nw
  refine ⟨.int (z / 4), .int w, toldOf z, ?_⟩
  unfold h_law_1 lawSt
  unfold toldOf callerT at *
  have hp3 : 0 < made + 3 := by omega
  simp [Fx.Hd.own, Fx.TL.er, Fx.erAll, Fx.TL.get, Fx.TL.put, Fx.gget, Fx.gput, Fx.TL.addrs, Fx.TL.data, Fx.dataAll, Fx.msk, Fx.addF, Fx.subF, Fx.mulF, Fx.fdivF, Fx.modF, Fx.powF, Fx.ltF, Fx.leF, Fx.gtF, Fx.geF, Fx.eqD, Fx.eqF, Fx.neF, Fx.isF, Fx.isntF, Fx.idxF, Fx.lenF, Fx.kindF, Fx.kitF, Fx.keyF, Fx.ixS, Fx.ixK, Fx.vVar, Fx.vC, Fx.vAt, Fx.dat, Fx.vD, Fx.vS, Fx.vPy, Fx.d2, Fx.dB, Fx.vB, Fx.bV, Fx.child, Fx.kidAt, Fx.vIdx, Fx.vGet, Fx.vFld, Fx.vLen, Fx.kindS, Fx.vIsi, Fx.vIsi2, Fx.aNil, Fx.aCons, Fx.vTup, Fx.nLst, Fx.vFz, Fx.bAnd, Fx.bOr, Fx.bNot, Fx.vIf, Fx.oNo, Fx.oI, Fx.cutF, Fx.vSlc, Fx.nSlc, Fx.negF, Fx.dNeg, Fx.rLenN, Fx.rIsiN, Fx.rIsiN2, Fx.nDct0, Fx.nDdt0, Fx.lendF, Fx.backF, Fx.headLt, Fx.voidF, Fx.tidy, Fx.callF, Fx.makeF, Fx.fP, Fx.fN, Fx.fB, Fx.rootF, Fx.dropLastF, Fx.fZ, Fx.push, Fx.gNo, Fx.gCo, Fx.fCall, Fx.fMake, Fx.fMeth, Fx.fBin2, Fx.fCmp2, Fx.fAnd, Fx.fOr, Fx.fNot, Fx.fBo, Fx.fMv, Fx.fOn, Fx.sNx, Fx.sBk, Fx.sCt, Fx.sRN, Fx.sSq, Fx.sDr, Fx.sRt, Fx.sIf, Fx.gN, Fx.gT0, Fx.gTC, Fx.gTu, Fx.takeRoot, Fx.sAs, Fx.sAt, Fx.childF, Fx.kidF, Fx.belowF, Fx.putAt, Fx.sFl, Fx.sPu, Fx.sSL, Fx.topPt, Fx.popTm, Fx.pushPt, Fx.sAp, Fx.sEx, Fx.fPop, Fx.sDe, Fx.pyAll, Fx.sEt, Fx.sFo, Fx.sFu, Fx.sFr, Fx.shiftS, Fx.lentF, Fx.dCall, Fx.nCall, Fx.iL, Fx.iLn, Fx.iT, Fx.iR, Fx.wipeR, Fx.bYes, Fx.nLc, Fx.boolsF, Fx.allF, Fx.d1, Fx.maxF, Fx.intF, Fx.nCopy, Fx.strsF, Fx.joinF, Fx.sRaise, msk_py, msk_no, msk_pt, List.isPrefixOf, List.cons_prefix_cons, List.nil_prefix, e1, e4, noList, noLists, Fx.dataAll_py, ofString_inj, m1, m2, m3, hw, hp3, hk, at0]
/-- where the law's loop stands, ds still to go -/
def Inv3 (sc : PyData) (n o : Int) (zs : List Int) (ρ : Rh) : Prop := ∃ (made : Int) (asked : PyData) (cd : List PyData) (c7 c8 c9 c10 : Option Sv), ρ = lawSt sc n o made asked cd c7 c8 c9 c10 ∧ 0 ≤ made ∧ cd.length + zs.length ≤ 63 ∧ noLists cd = true ∧ (∀ d ∈ cd, Plain 1 d) ∧
  (∀ z ∈ zs, Builtin.Int.intBits z ≤ 1048576) ∧ (∀ bad, msk1 bad c7 = c7) ∧ (∀ bad, msk1 bad c8 = c8) ∧ (∀ bad, msk1 bad c9 = c9) ∧ (∀ bad, msk1 bad c10 = c10) ∧
  (asked = .none ∨ ∃ key wish, asked = .tuple [.int made, key, wish] ∧ Plain 0 key ∧ Plain 1 wish ∧ noList key = true ∧ noList wish = true)
theorem turn3 {sc : PyData} {n o z : Int} {zs : List Int} {ρ : Rh} (h : Inv3 sc n o (z :: zs) ρ) : ∃ ρ1 ρ2, gN 7 (.py (.int z)) ρ = some ρ1 ∧ h_law_1 ρ1 = some (.nx ρ2) ∧ Inv3 sc n o zs ρ2 := by
  obtain ⟨made, asked, cd, c7, c8, c9, c10, rfl, hm, hl, hn, hp, hb, n7, n8, n9, n10, ha⟩ := h
  have hbz := hb z (by simp)
  have hbs : ∀ y ∈ zs, Builtin.Int.intBits y ≤ 1048576 := fun y hy => hb y (by simp [hy])
  simp only [List.length_cons] at hl
  refine ⟨lawSt sc n o made asked cd (some (.py (.int z))) c8 c9 c10, ?_⟩
  have e7 : gN 7 (.py (.int z)) (lawSt sc n o made asked cd c7 c8 c9 c10) = some (lawSt sc n o made asked cd (some (.py (.int z))) c8 c9 c10) := rfl
  rcases ha with rfl | ⟨key, wish, rfl, pk, pw, nk, nw⟩
  · by_cases hz : 0 < z % 4
    · obtain ⟨a, e⟩ := turn_begin sc n o made cd z c8 c9 c10 n9 n10 hz (by omega) hn hp
      exact ⟨_, e7, e, made + 1, _, cd, _, _, c9, c10, rfl, by omega, by omega, hn, hp, hbs, fun _ => rfl, fun _ => rfl, n9, n10, .inr ⟨_, _, rfl, key_plain z, wish_plain _, rfl, noList_wish _⟩⟩
    · obtain ⟨a, b, c, e⟩ := turn_none sc n o made cd z c8 c9 c10 hz hm hbz (by omega) hn hp
      exact ⟨_, e7, e, made, _, cd, _, _, _, _, rfl, hm, by omega, hn, hp, hbs, fun _ => rfl, fun _ => rfl, fun _ => rfl, fun _ => rfl, .inl rfl⟩
  · obtain ⟨w, hw⟩ := which_ok made (z / 4) hm
    by_cases hk : (if 0 < w then w else 0) = made
    · obtain ⟨a, b, c, e⟩ := turn_own sc n o made key wish cd z w c8 c9 c10 hm hw hk hbz (by omega) hn hp
      refine ⟨_, e7, e, made, _, _, _, _, _, _, rfl, hm, by simp; omega, by rw [noLists_append, hn]; rfl, fun d hd => ?_, hbs, fun _ => rfl, fun _ => rfl, fun _ => rfl, fun _ => rfl, .inl rfl⟩
      rcases List.mem_append.mp hd with h | h
      · exact hp d h
      · simp at h; subst h; exact plain2 (.int _ _) (.int _ _)
    · obtain ⟨a, b, c, e⟩ := turn_other sc n o made key wish cd z w c8 c9 c10 hm hw hk hbz (by omega) hn hp pk pw nk nw
      exact ⟨_, e7, e, made, _, cd, _, _, _, _, rfl, hm, by omega, hn, hp, hbs, fun _ => rfl, fun _ => rfl, fun _ => rfl, fun _ => rfl, .inr ⟨_, _, rfl, pk, pw, nk, nw⟩⟩
theorem loop3 {sc : PyData} {n o : Int} : ∀ (zs : List Int) {ρ : Rh}, Inv3 sc n o zs ρ → ∃ ρ', loopD (gN 7) h_law_1 (zs.map .int) ρ = some (.nx ρ') ∧ Inv3 sc n o [] ρ'
  | [], ρ, h => ⟨ρ, rfl, h⟩
  | z :: zs, ρ, h => by
    obtain ⟨ρ1, ρ2, e1, e2, h2⟩ := turn3 h
    obtain ⟨ρ', e3, h3⟩ := loop3 zs h2
    exact ⟨ρ', by simp [loopD, e1, e2, e3], h3⟩
theorem cut_map (ns : List Int) : cutF (ns.map PyData.int) (some 2) none = (ns.drop 2).map .int := by
  unfold cutF
  have e1 : HT.sIx (ns.map PyData.int).length (ns.map PyData.int).length none = (ns.map PyData.int).length := rfl
  have e2 : HT.sIx (ns.map PyData.int).length 0 (some 2) = min 2 ns.length := by
    rw [show (2 : Int) = ((2 : Nat) : Int) from rfl, HT.sIx_nat, List.length_map]
  rw [e1, e2, List.length_map, ← List.map_drop, List.take_of_length_le (by simp)]
  congr 1
  by_cases h : 2 ≤ ns.length
  · rw [Nat.min_eq_left h]
  · rw [Nat.min_eq_right (by omega), List.drop_of_length_le (by omega), List.drop_of_length_le (by omega)]
theorem shaped_nil : SeqAt.shaped (.list []) = true := by decide
theorem eqv_nil : (PyData.list []).eqv (.list []) = true := by simp [PyData.eqv, PyData.eqvAll]
theorem law_true (ns : List Int) (hl : ns.length ≤ 63) (hb : ∀ z ∈ ns, Builtin.Int.intBits z ≤ 1048576) : S_law [.py (.list (ns.map .int))] [] = some (.vl (.s (.py (.bool true))) []) := by
  have e1 := caller_init (cell ns 0 % 6)
  have e2 := caller_init (cell ns 1 % 6)
  have c0 : S__law_cell_at [.py (.list (ns.map .int)), .py (.int 0)] [] = some (.vl (.s (.py (.int (cell ns 0)))) []) := cell_at ns 0
  have c1 : S__law_cell_at [.py (.list (ns.map .int)), .py (.int 1)] [] = some (.vl (.s (.py (.int (cell ns 1)))) []) := cell_at ns 1
  have h0 : Inv3 (.list (ns.map .int)) (cell ns 0 % 6) (cell ns 1 % 6) (ns.drop 2) (lawSt (.list (ns.map .int)) (cell ns 0 % 6) (cell ns 1 % 6) 0 .none [] none none none none) :=
    ⟨0, .none, [], none, none, none, none, rfl, by decide, by simp; omega, rfl, fun d h => by simp at h, fun z h => hb z (List.mem_of_mem_drop h), fun _ => rfl, fun _ => rfl, fun _ => rfl, fun _ => rfl, .inl rfl⟩
  obtain ⟨ρ', e3, made, asked, cd, c7, c8, c9, c10, rfl, -, -, -, -, -, n7, n8, n9, n10, -⟩ := loop3 _ h0
  have e4 := caller_asking (cell ns 1 % 6) 0 .none []
  have e5 := caller_answers (cell ns 1 % 6) 0 .none [] rfl
  have cm := cut_map ns
  unfold S_law b_law
  generalize h_law_1 = body at *
  unfold lawSt callerT at *
  simp only [List.map_nil] at e1 e2 e3 e4 e5
  simp only [List.map_drop] at e3 cm
  simp [runF, Fx.Hd.own, Fx.TL.er, Fx.erAll, Fx.TL.get, Fx.TL.put, Fx.gget, Fx.gput, Fx.TL.addrs, Fx.TL.data, Fx.dataAll, Fx.msk, Fx.addF, Fx.subF, Fx.mulF, Fx.fdivF, Fx.modF, Fx.powF, Fx.ltF, Fx.leF, Fx.gtF, Fx.geF, Fx.eqD, Fx.eqF, Fx.neF, Fx.isF, Fx.isntF, Fx.idxF, Fx.lenF, Fx.kindF, Fx.kitF, Fx.keyF, Fx.ixS, Fx.ixK, Fx.vVar, Fx.vC, Fx.vAt, Fx.dat, Fx.vD, Fx.vS, Fx.vPy, Fx.d2, Fx.dB, Fx.vB, Fx.bV, Fx.child, Fx.kidAt, Fx.vIdx, Fx.vGet, Fx.vFld, Fx.vLen, Fx.kindS, Fx.vIsi, Fx.vIsi2, Fx.aNil, Fx.aCons, Fx.vTup, Fx.nLst, Fx.vFz, Fx.bAnd, Fx.bOr, Fx.bNot, Fx.vIf, Fx.oNo, Fx.oI, Fx.vSlc, Fx.nSlc, Fx.negF, Fx.dNeg, Fx.rLenN, Fx.rIsiN, Fx.rIsiN2, Fx.nDct0, Fx.nDdt0, Fx.lendF, Fx.backF, Fx.headLt, Fx.voidF, Fx.tidy, Fx.callF, Fx.makeF, Fx.fP, Fx.fN, Fx.fB, Fx.rootF, Fx.dropLastF, Fx.fZ, Fx.push, Fx.gNo, Fx.gCo, Fx.fCall, Fx.fMake, Fx.fMeth, Fx.fBin2, Fx.fCmp2, Fx.fAnd, Fx.fOr, Fx.fNot, Fx.fBo, Fx.fMv, Fx.fOn, Fx.sNx, Fx.sBk, Fx.sCt, Fx.sRN, Fx.sSq, Fx.sDr, Fx.sRt, Fx.sIf, Fx.gN, Fx.gT0, Fx.gTC, Fx.gTu, Fx.takeRoot, Fx.sAs, Fx.sAt, Fx.childF, Fx.kidF, Fx.belowF, Fx.putAt, Fx.sFl, Fx.sPu, Fx.sSL, Fx.topPt, Fx.popTm, Fx.pushPt, Fx.sAp, Fx.sEx, Fx.fPop, Fx.sDe, Fx.pyAll, Fx.sEt, Fx.sFo, Fx.sFu, Fx.sFr, Fx.shiftS, Fx.lentF, Fx.dCall, Fx.nCall, Fx.iL, Fx.iLn, Fx.iT, Fx.iR, Fx.wipeR, Fx.bYes, Fx.nLc, Fx.boolsF, Fx.allF, Fx.d1, Fx.maxF, Fx.intF, Fx.nCopy, Fx.strsF, Fx.joinF, Fx.sRaise, msk_py, msk_no, msk_pt, List.isPrefixOf, List.cons_prefix_cons, List.nil_prefix, e1, e2, e3, e4, e5, c0, c1, cm, shaped_nil, eqv_nil, n7, n8, n9, n10, noList, noLists, ofString_inj]
end L

namespace L
open PySem L2 Fx Mo
open Evl (Ex)
def spLaw (K : PySem.W.Frag) : Sp := fun vs H Q _ => ∃ (a : Addr) (ns : List Int), vs = [.ref a] ∧ SqL K H a (ns.map V.int) ∧ ns.length ≤ 63 ∧ (∀ z ∈ ns, Builtin.Int.intBits z ≤ 1048576) ∧ ∀ H', Q (.bl true) H'
theorem law_ok {P : Program} {w : World} {K : PySem.W.Frag} {mg : Str → Option Value} {A : Adr} {base : Heap} (T : Txt K mg A) : FnOk P w K mg base (L2N.CX P w) 8 A.f_law A.d_law ["_law_script"] (spLaw K) :=
  (ok_all T).imp fun vs H Q E ⟨a, ns, e, hS, hl, hb, hq⟩ => law_in A.cl e hS (law_true ns hl hb) hq
end L

namespace L
open PySem L2 Fx
theorem walk {l : PySem.W.OpenLaw} {q : Program} {loose : List Str} {XP : (Str → Option Value) → Heap → Prop} {YP : World → Heap → Prop} {d : DefRec} {K : Params → PySem.W.Frag} (hn : l.most = some 63) (hdf : d.params.defaults = [])
    (hY : ∀ (w : World) (h : Heap), YP w h → (K w.params).In h)
    (F : ∀ (w : World) (mg : Str → Option Value) (fa : Addr) (h : Heap), (K w.params).In h → h.Ns mainGlobals mg → mg d.name = some (.ref fa) →
      ∃ fd : FuncData, (∀ (s : Shared) (u : Value), BindsTo s fd ⟨[u], []⟩ [("_law_script", u)]) ∧ ∀ base : Heap, (K w.params).In base → base.Ns mainGlobals mg → FnOk l.prog w (K w.params) mg base (L2N.CX l.prog w) 8 fa fd ["_law_script"] (spLaw (K w.params))) :
    PySem.W.WalkO q loose XP YP l.row.toRowW d [] (fun f vs => PySem.call f vs) :=
  L2.walk_ofB (n := 63) (k := 8) (x := "_law_script") (CX := fun w => L2N.CX l.prog w) (sp := fun w => spLaw (K w.params)) hn (by decide) hdf ⟨rfl, by decide, by decide⟩ hY F (fun _ _ a ns hl hb _ hS => ⟨a, ns, rfl, hS, hl, hb, fun _ => rfl⟩) (fun _ _ _ _ _ ⟨_, _, _, _, _, _, _, _, _, _, _, _, z⟩ => z)
end L
open PySem PySem.W PyProof.Rows
set_option maxRecDepth 100000 in
set_option maxHeartbeats 0 in
theorem PySem.Challenge.cw_movehouse_k03_a_caller_holds : PySem.Challenge.rw_movehouse_k03_a_caller.Holds := by
  w_on; o_law; k_head; (case hw => w_witness2)
  k_fill
  refine L.walk (l := PySem.Challenge.rw_movehouse_k03_a_caller) rfl rfl (fun w h Y => PySem.W.kIn_of Y) ?F
  case F =>
    intro w mg fa h KX G hmg
    have all := @L.all_mk w _ h mg fa KX G hmg
    suffices hT : ∃ A : L.Adr, L.Txt _ mg A ∧ fa = A.f_law ∧ ∀ (s : Shared) (v : Value), BindsTo s A.d_law ⟨[v], []⟩ [("_law_script", v)] by
      obtain ⟨A, T, rfl, hb⟩ := hT
      exact ⟨A.d_law, hb, fun base _ _ => L.law_ok T⟩
    clear all
    refine' L.all_mk (w := w) KX G hmg ?n_Caller ?a1 ?i1 ?l1 ?c1 ?k1 ?a2 ?i2 ?l2 ?c2 ?k2 ?a3 ?i3 ?l3 ?c3 ?k3 ?a4 ?i4 ?l4 ?c4 ?k4 ?a5 ?i5 ?l5 ?c5 ?k5 ?a6 ?i6 ?l6 ?c6 ?k6 ?a7 ?l7 ?c7 ?k7 ?a8 ?l8 ?c8 ?k8 ?a9 ?l9 ?c9 ?k9 ?a10 ?l10 ?c10 ?k10 ?a11 ?l11 ?c11 ?k11 ?pg_Caller ?hd_Caller ?po_Caller ?sa_Caller ?mk_Caller ?kc_Caller ?f_Caller_number ?f_Caller_begun ?f_Caller_current ?f_Caller_closed ?z_all ?z_bool ?z_int ?z_isinstance ?z_len ?z_list ?z_max ?z_range ?z_str ?z_tuple
    (case n_Caller => k_is)
    (case a1 => k_is)
    (case i1 => k_is)
    (case l1 => k_is)
    (case c1 => k_is)
    (case k1 => k_is)
    (case a2 => k_is)
    (case i2 => k_is)
    (case l2 => k_is)
    (case c2 => k_is)
    (case k2 => k_is)
    (case a3 => k_is)
    (case i3 => k_is)
    (case l3 => k_is)
    (case c3 => k_is)
    (case k3 => k_is)
    (case a4 => k_is)
    (case i4 => k_is)
    (case l4 => k_is)
    (case c4 => k_is)
    (case k4 => k_is)
    (case a5 => k_is)
    (case i5 => k_is)
    (case l5 => k_is)
    (case c5 => k_is)
    (case k5 => k_is)
    (case a6 => k_is)
    (case i6 => k_is)
    (case l6 => k_is)
    (case c6 => k_is)
    (case k6 => k_is)
    (case a7 => k_is)
    (case l7 => k_is)
    (case c7 => k_is)
    (case k7 => k_is)
    (case a8 => k_is)
    (case l8 => k_is)
    (case c8 => k_is)
    (case k8 => k_is)
    (case a9 => k_is)
    (case l9 => k_is)
    (case c9 => k_is)
    (case k9 => k_is)
    (case a10 => k_is)
    (case l10 => k_is)
    (case c10 => k_is)
    (case k10 => k_is)
    (case a11 => k_is)
    (case l11 => k_is)
    (case c11 => k_is)
    (case k11 => k_is)
    (case pg_Caller => k_is)
    (case hd_Caller => k_is)
    (case po_Caller => k_is)
    (case sa_Caller => k_is)
    (case mk_Caller => k_is)
    (case kc_Caller => k_is)
    (case f_Caller_number => k_is)
    (case f_Caller_begun => k_is)
    (case f_Caller_current => k_is)
    (case f_Caller_closed => k_is)
    (case z_all => k_is)
    (case z_bool => k_is)
    (case z_int => k_is)
    (case z_isinstance => k_is)
    (case z_len => k_is)
    (case z_list => k_is)
    (case z_max => k_is)
    (case z_range => k_is)
    (case z_str => k_is)
    (case z_tuple => k_is)
#print axioms PySem.Challenge.cw_movehouse_k03_a_caller_holds
