import PyProof.Rows.All
import Wide.All
import OpenK.AllK
import Wide.FinOn
import KE.Datum
import KE.IntBitsLaws
import HandS.ForMost
import HandS.Exc
import HandS.TryOnly
import HandS.ExcOwn
import HandS.WordsExc
import HandS.Evl
import HandS.IsInst
import HandS.Wide
import HandS.Flow
import HandS.DictComp
import HandS.Codes
import HandS.ExcIs
import HandS.ExcCtx
import HandS.HotCalls
import HandS.SetFor
import HandS.EndBits
import HandS.TupAny
import HandS.WideBits
import HandS.TupLe
import HandS.NoneIn
import HandS.CallSlots
import HandS.TryMany
import HandS.Conv
import HandS.Deep
import HandS.EndTab
import HandS.Iter
import HandS.Lambda
import HandS.More
import HandS.Star
import KE.KNestM
import KE.SortData
import KE.SortKeyHeap
import PySem.Challenge.RW_movehouse_k04_calls_at_a_house
set_option Elab.async false
set_option linter.all false
set_option maxRecDepth 100000
set_option maxHeartbeats 4000000

/-! Readings over data: what an expression's reading gives, as plain data; what a body's reading hands back. -/
namespace Fx
open PySem L2
open Evl (Ex)

/-- where the classes stand; the tables of code objects, with the names of what is made there -/
structure Kl where
  f : String → Addr
  t : List (Addr × Str)
instance : CoeFun Kl (fun _ => String → Addr) := ⟨Kl.f⟩
abbrev Kl.z (c : Kl) : Kl := ⟨c.f, []⟩

/-! ### data in the heap -/
section
variable {K : PySem.W.Frag} {H H' : Hp}
mutual
theorem Dp.mono (e : Ex H H') : ∀ (d : PyData) (v : V), Dp K H v d → Dp K H' v d
  | .none, _, h => by cases h; exact .non
  | .bool b, _, h => by cases h; exact .bl b
  | .int i, _, h => by cases h; exact .int i
  | .str x, _, h => by cases h; exact .str x
  | .list ds, _, h => by
    cases h with
    | lst s a => exact .lst (Evl.ex_l e s) (DpAll.mono e ds _ a)
  | .tuple ds, _, h => by
    cases h with
    | tup s a => exact .tup (Evl.ex_t e s) (DpAll.mono e ds _ a)
  | .dict _, _, h => nomatch h
theorem DpAll.mono (e : Ex H H') : ∀ (ds : List PyData) (vs : List V), DpAll K H vs ds → DpAll K H' vs ds
  | [], _, h => by cases h; exact .nil
  | d :: ds, _, h => by
    cases h with
    | cons a b => exact .cons (Dp.mono e d _ a) (DpAll.mono e ds _ b)
end
theorem DpAll.length : ∀ {vs : List V} {ds : List PyData}, DpAll K H vs ds → vs.length = ds.length
  | _, _, .nil => rfl
  | _, _, .cons _ b => congrArg (· + 1) (DpAll.length b)
theorem DpAll.get : ∀ {vs : List V} {ds : List PyData}, DpAll K H vs ds → ∀ {i : Nat} {d : PyData}, ds[i]? = some d → ∃ v, vs[i]? = some v ∧ Dp K H v d
  | _, _, .nil, i, d, h => by simp at h
  | _, _, .cons a b, 0, d, h => by
    simp at h; subst h
    exact ⟨_, rfl, a⟩
  | _, _, .cons a b, i + 1, d, h => by
    obtain ⟨v, h1, h2⟩ := DpAll.get b (i := i) (d := d) (by simpa using h)
    exact ⟨v, by simpa using h1, h2⟩
theorem DpAll.atI {vs : List V} {ds : List PyData} (a : DpAll K H vs ds) {i : Int} {d : PyData} (h : L2.atI ds i = some d) : ∃ v, L2.atI vs i = some v ∧ Dp K H v d := by
  unfold L2.atI at h ⊢
  rw [DpAll.length a]
  cases e : ixN ds.length i with
  | none => rw [e] at h; cases h
  | some j =>
    rw [e] at h
    exact DpAll.get a h
theorem DpAll.append : ∀ {vs us : List V} {ds es : List PyData}, DpAll K H vs ds → DpAll K H us es → DpAll K H (vs ++ us) (ds ++ es)
  | _, _, _, _, .nil, b => b
  | _, _, _, _, .cons a r, b => .cons a (DpAll.append r b)
theorem DpAll.one {v : V} {d : PyData} (h : Dp K H v d) : DpAll K H [v] [d] := .cons h .nil
theorem DpAll.snoc_of {vs : List V} {ds : List PyData} {v : V} {d : PyData} (a : DpAll K H vs ds) (h : Dp K H v d) : DpAll K H (vs ++ [v]) (ds ++ [d]) := DpAll.append a (DpAll.one h)
theorem DpAll.take : ∀ {vs : List V} {ds : List PyData} (n : Nat), DpAll K H vs ds → DpAll K H (vs.take n) (ds.take n)
  | _, _, 0, _ => .nil
  | _, _, _ + 1, .nil => .nil
  | _, _, n + 1, .cons a r => .cons a (DpAll.take n r)
theorem DpAll.drop : ∀ {vs : List V} {ds : List PyData} (n : Nat), DpAll K H vs ds → DpAll K H (vs.drop n) (ds.drop n)
  | _, _, 0, r => r
  | _, _, _ + 1, .nil => .nil
  | _, _, n + 1, .cons a r => DpAll.drop n r
theorem DpAll.ints : ∀ (ns : List Int), DpAll K H (ns.map V.int) (ns.map PyData.int)
  | [] => .nil
  | n :: r => .cons (.int n) (DpAll.ints r)
theorem DpAll.strs : ∀ (ns : List Str), DpAll K H (ns.map V.str) (ns.map PyData.str)
  | [] => .nil
  | n :: r => .cons (.str n) (DpAll.strs r)
theorem DpAll.bls : ∀ (ns : List Bool), DpAll K H (ns.map V.bl) (ns.map PyData.bool)
  | [] => .nil
  | n :: r => .cons (.bl n) (DpAll.bls r)
theorem DpAll.strs_inv : ∀ {ns : List Str} {vs : List V}, DpAll K H vs (ns.map PyData.str) → vs = ns.map V.str
  | [], _, .nil => rfl
  | n :: r, _, .cons a b => by cases a; rw [DpAll.strs_inv b]; rfl
theorem DpAll.bls_inv : ∀ {ns : List Bool} {vs : List V}, DpAll K H vs (ns.map PyData.bool) → vs = ns.map V.bl
  | [], _, .nil => rfl
  | n :: r, _, .cons a b => by cases a; rw [DpAll.bls_inv b]; rfl
theorem DpAll.ints_inv : ∀ {ns : List Int} {vs : List V}, DpAll K H vs (ns.map PyData.int) → vs = ns.map V.int
  | [], _, .nil => rfl
  | n :: r, _, .cons a b => by cases a; rw [DpAll.ints_inv b]; rfl
end

/-! ### data without lists: it stays whatever happens to lists, dicts, instances -/
mutual
def noList : PyData → Bool
  | .none => true
  | .bool _ => true
  | .int _ => true
  | .str _ => true
  | .tuple ds => noLists ds
  | .list _ => false
  | .dict _ => false
def noLists : List PyData → Bool
  | [] => true
  | d :: ds => noList d && noLists ds
end
/-- tuples are kept -/
def KeepT (K : PySem.W.Frag) (H H' : Hp) : Prop := ∀ a xs, SqT K H a xs → SqT K H' a xs
section
variable {K : PySem.W.Frag} {H H' : Hp}
mutual
theorem Dp.keepT (k : KeepT K H H') : ∀ (d : PyData) (v : V), noList d = true → Dp K H v d → Dp K H' v d
  | .none, _, _, h => by cases h; exact .non
  | .bool b, _, _, h => by cases h; exact .bl b
  | .int i, _, _, h => by cases h; exact .int i
  | .str x, _, _, h => by cases h; exact .str x
  | .list ds, _, n, _ => by simp [noList] at n
  | .tuple ds, _, n, h => by
    cases h with
    | tup s a => exact .tup (k _ _ s) (DpAll.keepT k ds _ (by simpa [noList] using n) a)
  | .dict _, _, _, h => nomatch h
theorem DpAll.keepT (k : KeepT K H H') : ∀ (ds : List PyData) (vs : List V), noLists ds = true → DpAll K H vs ds → DpAll K H' vs ds
  | [], _, _, h => by cases h; exact .nil
  | d :: ds, _, n, h => by
    simp only [noLists, Bool.and_eq_true] at n
    cases h with
    | cons a b => exact .cons (Dp.keepT k d _ n.1 a) (DpAll.keepT k ds _ n.2 b)
end
theorem noLists_append : ∀ (a b : List PyData), noLists (a ++ b) = (noLists a && noLists b)
  | [], b => by simp [noLists]
  | x :: a, b => by simp [noLists, noLists_append a b, Bool.and_assoc]
theorem noLists_map {α : Type} {f : α → PyData} (h : ∀ a, noList (f a) = true) : ∀ l : List α, noLists (l.map f) = true
  | [] => rfl
  | a :: l => by simp [noLists, h a, noLists_map h l]
theorem noLists_of {l : List PyData} (h : ∀ d ∈ l, noList d = true) : noLists l = true := by
  induction l with
  | nil => rfl
  | cons a l ih => simp [noLists, h a (by simp), ih fun d hd => h d (by simp [hd])]
theorem noLists_mem : ∀ {l : List PyData} {d : PyData}, noLists l = true → d ∈ l → noList d = true
  | a :: l, d, h, m => by
    simp only [noLists, Bool.and_eq_true] at h
    rcases List.mem_cons.mp m with e | m
    · rw [e]; exact h.1
    · exact noLists_mem h.2 m
theorem Ex.keepT (e : Ex H H') : KeepT K H H' := fun _ _ h => Evl.ex_t e h
theorem KeepT.trans {H2 : Hp} (a : KeepT K H H') (b : KeepT K H' H2) : KeepT K H H2 := fun x xs h => b x xs (a x xs h)
/-- what may be written: no tuple, nothing locked -/
theorem keepT_upd {p : Addr} {o u : HO} (h : H p = some o) (hm : L2.Mut (some o)) : KeepT K H (upd H p u) := fun a xs hs => by
  rcases hs with (h1 | ⟨ob, h1⟩) | h1
  · have : a ≠ p := fun z => by subst z; rw [h] at h1; cases h1; exact hm
    exact .inl (.inl (by rw [upd_ne this]; exact h1))
  · have : a ≠ p := fun z => by subst z; rw [h] at h1; cases h1; exact hm
    exact .inl (.inr ⟨ob, by rw [upd_ne this]; exact h1⟩)
  · exact .inr h1
end


end Fx

/-! Operations, comparisons, places, calls of built-ins over data; what readings give. -/
namespace Fx
open PySem L2
open Evl (Ex)

theorem Ex.upd {H : Hp} {p : Addr} {o : HO} (h : H p = none) : Ex H (upd H p o) := Evl.Ex.new h

/-! ### two operands -/
inductive Bin : Operator → PyData → PyData → PyData → Prop where
  | add (i j : Int) : Bin .Add (.int i) (.int j) (.int (i + j))
  | sub (i j : Int) : Bin .Sub (.int i) (.int j) (.int (i - j))
  | mul (i j : Int) (h : CMul i j ∨ CMulX i j) : Bin .Mult (.int i) (.int j) (.int (i * j))
  | fdiv (i j : Int) (h : 0 < j ∧ j < 1073741824) : Bin .FloorDiv (.int i) (.int j) (.int (i / j))
  | mod (i j : Int) (h : 0 < j) : Bin .Mod (.int i) (.int j) (.int (i % j))
  | pow (i j : Int) (h : CPow i j) : Bin .Pow (.int i) (.int j) (.int (i ^ j.toNat))
  | cat (x y : Str) (h : x.length + y.length ≤ sizeLine) : Bin .Add (.str x) (.str y) (.str (x ++ y))
  | catT (xs ys : List PyData) (h : xs.length + ys.length ≤ sizeLine) : Bin .Add (.tuple xs) (.tuple ys) (.tuple (xs ++ ys))
def rBin (K : PySem.W.Frag) (op : Operator) : R2 := fun x y H Q => ∃ d e r, Dp K H x d ∧ Dp K H y e ∧ Bin op d e r ∧ ∀ v H', Ex H H' → Dp K H' v r → Q v H'
section
variable {X : Cx}
theorem op_bin (op : Operator) : OpR X (binaryOp op) (rBin X.K op) := by
  intro pins s σ H x y v u Q I rx ry h
  obtain ⟨d, e, r, hd, he, b, q⟩ := h
  cases b with
  | add i j => cases hd; cases he; exact op_add pins s σ H _ _ v u Q I rx ry ⟨i, j, rfl, rfl, q _ _ (Evl.Ex.refl H) (.int _)⟩
  | sub i j => cases hd; cases he; exact op_sub pins s σ H _ _ v u Q I rx ry ⟨i, j, rfl, rfl, q _ _ (Evl.Ex.refl H) (.int _)⟩
  | mul i j hc => cases hd; cases he; rcases hc with hc | hc; exact op_mul pins s σ H _ _ v u Q I rx ry ⟨i, j, rfl, rfl, hc, q _ _ (Evl.Ex.refl H) (.int _)⟩; exact op_mulX pins s σ H _ _ v u Q I rx ry ⟨i, j, rfl, rfl, hc, q _ _ (Evl.Ex.refl H) (.int _)⟩
  | fdiv i j hc => cases hd; cases he; exact op_fdiv pins s σ H _ _ v u Q I rx ry ⟨i, j, rfl, rfl, hc, q _ _ (Evl.Ex.refl H) (.int _)⟩
  | mod i j hc => cases hd; cases he; exact op_mod pins s σ H _ _ v u Q I rx ry ⟨i, j, rfl, rfl, hc, q _ _ (Evl.Ex.refl H) (.int _)⟩
  | pow i j hc => cases hd; cases he; exact op_pow pins s σ H _ _ v u Q I rx ry ⟨i, j, rfl, rfl, hc, q _ _ (Evl.Ex.refl H) (.int _)⟩
  | cat a b hc => cases hd; cases he; exact op_add_str pins s σ H _ _ v u Q I rx ry ⟨a, b, rfl, rfl, hc, q _ _ (Evl.Ex.refl H) (.str _)⟩
  | catT xs ys hc =>
    cases hd with
    | tup s1 a1 =>
      cases he with
      | tup s2 a2 =>
        have n1 := DpAll.length a1
        have n2 := DpAll.length a2
        refine op_catA pins s σ H _ _ v u Q I rx ry ⟨_, _, _, _, rfl, rfl, s1, s2, by omega, fun z => ?_, fun _ z => ?_, fun _ _ p hp => ?_⟩
        · subst z
          cases xs with
          | cons => cases n1
          | nil => exact q _ _ (Evl.Ex.refl H) (.tup s2 (by simpa using a2))
        · subst z
          cases ys with
          | cons => cases n2
          | nil => exact q _ _ (Evl.Ex.refl H) (.tup s1 (by simpa using a1))
        · exact q _ _ (Ex.upd hp) (.tup (SqT.of upd_same) (DpAll.mono (Ex.upd hp) _ _ (DpAll.append a1 a2)))
end

/-! ### comparisons -/
inductive Cmp : CmpOp → PyData → PyData → Bool → Prop where
  | lt (i j : Int) : Cmp .Lt (.int i) (.int j) (decide (i < j))
  | le (i j : Int) : Cmp .LtE (.int i) (.int j) (decide (i ≤ j))
  | gt (i j : Int) : Cmp .Gt (.int i) (.int j) (decide (j < i))
  | ge (i j : Int) : Cmp .GtE (.int i) (.int j) (decide (j ≤ i))
  | eqI (i j : Int) : Cmp .Eq (.int i) (.int j) (decide (i = j))
  | neI (i j : Int) : Cmp .NotEq (.int i) (.int j) (!decide (i = j))
  | eqS (i j : Str) : Cmp .Eq (.str i) (.str j) (decide (i = j))
  | neS (i j : Str) : Cmp .NotEq (.str i) (.str j) (!decide (i = j))
  | eqB (i j : Bool) : Cmp .Eq (.bool i) (.bool j) (decide (i = j))
  | neB (i j : Bool) : Cmp .NotEq (.bool i) (.bool j) (!decide (i = j))
  | eq (d e : PyData) (h : SeqAt.shaped d = true ∧ SeqAt.shaped e = true) : Cmp .Eq d e (PyData.eqv d e)
  | ne (d e : PyData) (h : SeqAt.shaped d = true ∧ SeqAt.shaped e = true) : Cmp .NotEq d e (!PyData.eqv d e)
  | isN (d : PyData) (b : Bool) (h : b = true ↔ d = .none) : Cmp .Is d .none b
  | notN (d : PyData) (b : Bool) (h : b = true ↔ d ≠ .none) : Cmp .IsNot d .none b
  | isB (a b : Bool) : Cmp .Is (.bool a) (.bool b) (decide (a = b))
  | notB (a b : Bool) : Cmp .IsNot (.bool a) (.bool b) (!decide (a = b))
  | ltS (i j : Str) : Cmp .Lt (.str i) (.str j) (decide (i.cps.toList < j.cps.toList))
  | leS (i j : Str) : Cmp .LtE (.str i) (.str j) (!decide (j.cps.toList < i.cps.toList))
def rCmp (K : PySem.W.Frag) (op : CmpOp) : R2 := fun x y H Q => ∃ d e b, Dp K H x d ∧ Dp K H y e ∧ Cmp op d e b ∧ Q (.bl b) H
theorem Dp.non_iff {K : PySem.W.Frag} {H : Hp} {x : V} {d : PyData} (h : Dp K H x d) : x = .non ↔ d = .none := by
  cases h <;> simp
section
variable {X : Cx}
theorem op_cmp (op : CmpOp) (hu : X.A.units + 64 < cLine) : OpR X (compareOp op) (rCmp X.K op) := by
  intro pins s σ H x y v u Q I rx ry h
  obtain ⟨d, e, b, hd, he, c, q⟩ := h
  cases c with
  | lt i j => cases hd; cases he; exact op_lt pins s σ H _ _ v u Q I rx ry ⟨i, j, rfl, rfl, q⟩
  | le i j => cases hd; cases he; exact op_le pins s σ H _ _ v u Q I rx ry ⟨i, j, rfl, rfl, q⟩
  | gt i j => cases hd; cases he; exact op_gt pins s σ H _ _ v u Q I rx ry ⟨i, j, rfl, rfl, q⟩
  | ge i j => cases hd; cases he; exact op_ge pins s σ H _ _ v u Q I rx ry ⟨i, j, rfl, rfl, q⟩
  | eqI i j => cases hd; cases he; exact op_eq pins s σ H _ _ v u Q I rx ry ⟨rfl, by simpa using q⟩
  | neI i j => cases hd; cases he; exact op_ne pins s σ H _ _ v u Q I rx ry ⟨rfl, by simpa using q⟩
  | eqS i j => cases hd; cases he; exact op_eq pins s σ H _ _ v u Q I rx ry ⟨rfl, by simpa using q⟩
  | neS i j => cases hd; cases he; exact op_ne pins s σ H _ _ v u Q I rx ry ⟨rfl, by simpa using q⟩
  | eqB i j => cases hd; cases he; exact op_eq pins s σ H _ _ v u Q I rx ry ⟨rfl, by simpa using q⟩
  | neB i j => cases hd; cases he; exact op_ne pins s σ H _ _ v u Q I rx ry ⟨rfl, by simpa using q⟩
  | eq _ _ hc => exact op_eqD hu pins s σ H _ _ v u Q I rx ry ⟨d, e, hd, he, hc.1, hc.2, q⟩
  | ne _ _ hc => exact op_neD hu pins s σ H _ _ v u Q I rx ry ⟨d, e, hd, he, hc.1, hc.2, q⟩
  | isN _ _ hb =>
    cases he
    refine op_isN pins s σ H _ _ v u Q I rx ry ⟨rfl, ?_⟩
    have : decide (x = V.non) = b := by
      rw [Bool.eq_iff_iff, decide_eq_true_iff, Dp.non_iff hd, hb]
    rw [this]; exact q
  | notN _ _ hb =>
    cases he
    refine op_notN pins s σ H _ _ v u Q I rx ry ⟨rfl, ?_⟩
    have : (!decide (x = V.non)) = b := by
      rw [Bool.eq_iff_iff, Bool.not_eq_true', decide_eq_false_iff_not, Dp.non_iff hd, hb]
    rw [this]; exact q
  | isB a b => cases hd; cases he; exact op_is_bl pins s σ H _ _ v u Q I rx ry ⟨a, b, rfl, rfl, q⟩
  | notB a b => cases hd; cases he; exact op_isnot_bl pins s σ H _ _ v u Q I rx ry ⟨a, b, rfl, rfl, q⟩
  | ltS i j => cases hd; cases he; exact op_lt_str pins s σ H _ _ v u Q I rx ry ⟨i, j, rfl, rfl, q⟩
  | leS i j => cases hd; cases he; exact op_le_str pins s σ H _ _ v u Q I rx ry ⟨i, j, rfl, rfl, q⟩
end

/-! ### a place: xs[i], t[i], z[i] -/
inductive Idx : PyData → PyData → PyData → Prop where
  | lst (ds : List PyData) (i : Int) (r : PyData) (h : atI ds i = some r) : Idx (.list ds) (.int i) r
  | tup (ds : List PyData) (i : Int) (r : PyData) (h : atI ds i = some r) : Idx (.tuple ds) (.int i) r
  | str (z : Str) (i : Int) (c : Nat) (h : z.length ≤ sizeLine ∧ atI z.cps.toList i = some c) : Idx (.str z) (.int i) (.str ⟨#[c]⟩)
def rIdx (K : PySem.W.Frag) : R2 := fun x y H Q => ∃ d e r, Dp K H x d ∧ Dp K H y e ∧ Idx d e r ∧ ∀ v, Dp K H v r → (∀ B, Evl.Ex B H → Dp K B x d → Dp K B v r) → Q v H
theorem ix_idx {X : Cx} : IxR X (rIdx X.K) := by
  intro value slice pins s σ H x y v u Q I rx ry h hs
  obtain ⟨d, e, r, hd, he, b, q⟩ := h
  cases b with
  | lst ds i r ha =>
    cases hd with
    | @lst a xs _ s1 a1 =>
      cases he
      obtain ⟨w, h1, h2⟩ := DpAll.atI a1 ha
      refine ix_list value slice pins s σ H _ _ v u Q I rx ry ⟨_, _, i, w, rfl, rfl, s1, h1, q w h2 fun B t hB => ?_⟩ hs
      cases hB with
      | @lst _ ys _ s2 a2 =>
        have : xs = ys := I.list_inj s1 (Evl.ex_l t s2)
        subst this
        obtain ⟨w', h3, h4⟩ := DpAll.atI a2 ha
        rw [h1] at h3; cases h3
        exact h4
  | tup ds i r ha =>
    cases hd with
    | @tup a xs _ s1 a1 =>
      cases he
      obtain ⟨w, h1, h2⟩ := DpAll.atI a1 ha
      refine ix_tup value slice pins s σ H _ _ v u Q I rx ry ⟨_, _, i, w, rfl, rfl, s1, h1, q w h2 fun B t hB => ?_⟩ hs
      cases hB with
      | @tup _ ys _ s2 a2 =>
        have : xs = ys := I.tuple_inj s1 (Evl.ex_t t s2)
        subst this
        obtain ⟨w', h3, h4⟩ := DpAll.atI a2 ha
        rw [h1] at h3; cases h3
        exact h4
  | str z i c hc =>
    cases hd
    cases he
    exact ix_str value slice pins s σ H _ _ v u Q I rx ry ⟨z, i, c, rfl, rfl, hc.1, hc.2, q _ (.str _) fun _ _ _ => .str _⟩ hs

/-! ### a slice: z[lo:hi], xs[lo:hi], t[lo:hi] -/
def rSlc (K : PySem.W.Frag) : V → Option Int → Option Int → Hp → VK → Prop := fun x lo hi H Q => rSlS x lo hi H Q ∨ rSlL K x lo hi H Q ∨ rSlA K x lo hi H Q
theorem sl_slc {X : Cx} : SlR X (rSlc X.K) := by
  intro pins s σ H x v vl vu lo hi sl Q I rx hs pl pu h
  rcases h with h | h | h
  · exact sl_str pins s σ H x v vl vu lo hi sl Q I rx hs pl pu h
  · exact sl_list pins s σ H x v vl vu lo hi sl Q I rx hs pl pu h
  · exact sl_tupA pins s σ H x v vl vu lo hi sl Q I rx hs pl pu h

/-! ### built-ins by values -/
inductive Len : PyData → Int → Prop where
  | lst (ds : List PyData) : Len (.list ds) ds.length
  | tup (ds : List PyData) : Len (.tuple ds) ds.length
  | str (z : Str) (h : z.length ≤ sizeLine) : Len (.str z) z.length
def rLen (K : PySem.W.Frag) : List V → Hp → VK → Prop := fun xs H Q => ∃ x d n, xs = [x] ∧ Dp K H x d ∧ Len d n ∧ Q (.int n) H
theorem call_lenU {X : Cx} : CallR X (.builtin "len") (rLen X.K) := by
  intro pins s σ H xs us Q I r h
  obtain ⟨x, d, n, rfl, hd, l, q⟩ := h
  cases l with
  | lst ds =>
    cases hd with
    | @lst a ys _ s1 a1 => exact call_len_seq pins s σ H _ us Q I r ⟨a, ys, rfl, .inl s1, by rw [DpAll.length a1]; exact q⟩
  | tup ds =>
    cases hd with
    | @tup a ys _ s1 a1 => exact call_len_seq pins s σ H _ us Q I r ⟨a, ys, rfl, .inr s1, by rw [DpAll.length a1]; exact q⟩
  | str z hz =>
    cases hd
    exact call_len_str pins s σ H _ us Q I r ⟨z, rfl, hz, q⟩
/-- the built-in class of a value -/
inductive Kind : PyData → String → Prop where
  | non : Kind .none "NoneType"
  | bl (b : Bool) : Kind (.bool b) "bool"
  | int (i : Int) : Kind (.int i) "int"
  | str (x : Str) : Kind (.str x) "str"
  | lst (ds : List PyData) : Kind (.list ds) "list"
  | tup (ds : List PyData) : Kind (.tuple ds) "tuple"
theorem Kind.ty {K : PySem.W.Frag} {H : Hp} {x : V} {d : PyData} {n : String} (hd : Dp K H x d) (k : Kind d n) : TyX K H x (.type n) := by
  cases k with
  | non => cases hd; exact .base .non
  | bl b => cases hd; exact .base (.bl b)
  | int i => cases hd; exact .base (.int i)
  | str x => cases hd; exact .base (.str x)
  | lst ds =>
    cases hd with
    | lst s1 a1 =>
      rcases s1 with (h | ⟨o, h⟩) | ⟨o, its, n, h, c, _⟩
      · exact .base (.lst h)
      · exact .base (.frz h)
      · exact .kList h c
  | tup ds =>
    cases hd with
    | tup s1 a1 =>
      rcases s1 with (h | ⟨o, h⟩) | ⟨o, its, n, h, c, _⟩
      · exact .base (.tup h)
      · exact .fTuple h
      · exact .kTuple h c
/-- isinstance(x, T), T a built-in class -/
def rIsiB (K : PySem.W.Frag) : List V → Hp → VK → Prop := fun xs H Q => ∃ x d n m b, xs = [x, .ty m] ∧ Dp K H x d ∧ Kind d n ∧ kitB n m = some b ∧ Q (.bl b) H
theorem call_isiB {X : Cx} : CallR X (.builtin "isinstance") (rIsiB X.K) := by
  intro pins s σ H xs us Q I r h
  obtain ⟨x, d, n, m, b, rfl, hd, k, e, q⟩ := h
  exact call_isi pins s σ H _ us Q I r ⟨x, _, _, _, b, rfl, .ty m, k.ty hd, kit_ty e, q⟩
/-- isinstance(x, (T1, T2)) -/
def rIsi2 (K : PySem.W.Frag) : List V → Hp → VK → Prop := fun xs H Q => ∃ x d n tp m1 m2 b1 b2, xs = [x, .ref tp] ∧ H tp = some (.tup [.ty m1, .ty m2]) ∧ Dp K H x d ∧ Kind d n ∧ kitB n m1 = some b1 ∧ kitB n m2 = some b2 ∧ Q (.bl (b1 || b2)) H
theorem call_isi2 {X : Cx} : CallR X (.builtin "isinstance") (rIsi2 X.K) := by
  intro pins s σ H xs us Q I r h
  obtain ⟨x, d, n, tp, m1, m2, b1, b2, rfl, ht, hd, k, e1, e2, q⟩ := h
  refine call_isiT pins s σ H _ us Q I r ⟨x, tp, _, _, _, b1 || b2, rfl, ht, .cons (.ty m1) (.cons (.ty m2) .nil), k.ty hd, ?_, q⟩
  refine kitAny_cons (b := b1) (kit_ty e1) (fun h1 => ?_) (fun h1 => by rw [h1]; rfl)
  refine kitAny_cons (b := b2) (kit_ty e2) (fun h2 => ?_) (fun h2 => by rw [h2, h1]; rfl)
  rw [h1, h2]
  rfl

/-! ### the same with K told: within a comprehension -/
section
variable {X : Cx}
theorem bin_ (K : PySem.W.Frag) (op : Operator) (h : X.K = K := by rfl) : OpR X (binaryOp op) (rBin K op) := h ▸ op_bin op
theorem cmp_ (K : PySem.W.Frag) (op : CmpOp) (hu : X.A.units + 64 < cLine) (h : X.K = K := by rfl) : OpR X (compareOp op) (rCmp K op) := h ▸ op_cmp op hu
theorem idx_ (K : PySem.W.Frag) (h : X.K = K := by rfl) : IxR X (rIdx K) := h ▸ ix_idx
theorem slc_ (K : PySem.W.Frag) (h : X.K = K := by rfl) : SlR X (rSlc K) := h ▸ sl_slc
theorem len_ (K : PySem.W.Frag) (h : X.K = K := by rfl) : CallR X (.builtin "len") (rLen K) := h ▸ call_lenU
theorem isi_ (K : PySem.W.Frag) (h : X.K = K := by rfl) : CallR X (.builtin "isinstance") (rIsiB K) := h ▸ call_isiB
theorem isi2_ (K : PySem.W.Frag) (h : X.K = K := by rfl) : CallR X (.builtin "isinstance") (rIsi2 K) := h ▸ call_isi2
end

/-! ### the built-in classes among each other -/
theorem kit_NoneType_list : kitB "NoneType" "list" = some false := by decide +kernel
theorem kit_NoneType_tuple : kitB "NoneType" "tuple" = some false := by decide +kernel
theorem kit_NoneType_str : kitB "NoneType" "str" = some false := by decide +kernel
theorem kit_NoneType_int : kitB "NoneType" "int" = some false := by decide +kernel
theorem kit_NoneType_bool : kitB "NoneType" "bool" = some false := by decide +kernel
theorem kit_NoneType_dict : kitB "NoneType" "dict" = some false := by decide +kernel
theorem kit_bool_list : kitB "bool" "list" = some false := by decide +kernel
theorem kit_bool_tuple : kitB "bool" "tuple" = some false := by decide +kernel
theorem kit_bool_str : kitB "bool" "str" = some false := by decide +kernel
theorem kit_bool_int : kitB "bool" "int" = some true := by decide +kernel
theorem kit_bool_bool : kitB "bool" "bool" = some true := by decide +kernel
theorem kit_bool_dict : kitB "bool" "dict" = some false := by decide +kernel
theorem kit_int_list : kitB "int" "list" = some false := by decide +kernel
theorem kit_int_tuple : kitB "int" "tuple" = some false := by decide +kernel
theorem kit_int_str : kitB "int" "str" = some false := by decide +kernel
theorem kit_int_int : kitB "int" "int" = some true := by decide +kernel
theorem kit_int_bool : kitB "int" "bool" = some false := by decide +kernel
theorem kit_int_dict : kitB "int" "dict" = some false := by decide +kernel
theorem kit_str_list : kitB "str" "list" = some false := by decide +kernel
theorem kit_str_tuple : kitB "str" "tuple" = some false := by decide +kernel
theorem kit_str_str : kitB "str" "str" = some true := by decide +kernel
theorem kit_str_int : kitB "str" "int" = some false := by decide +kernel
theorem kit_str_bool : kitB "str" "bool" = some false := by decide +kernel
theorem kit_str_dict : kitB "str" "dict" = some false := by decide +kernel
theorem kit_list_list : kitB "list" "list" = some true := by decide +kernel
theorem kit_list_tuple : kitB "list" "tuple" = some false := by decide +kernel
theorem kit_list_str : kitB "list" "str" = some false := by decide +kernel
theorem kit_list_int : kitB "list" "int" = some false := by decide +kernel
theorem kit_list_bool : kitB "list" "bool" = some false := by decide +kernel
theorem kit_list_dict : kitB "list" "dict" = some false := by decide +kernel
theorem kit_tuple_list : kitB "tuple" "list" = some false := by decide +kernel
theorem kit_tuple_tuple : kitB "tuple" "tuple" = some true := by decide +kernel
theorem kit_tuple_str : kitB "tuple" "str" = some false := by decide +kernel
theorem kit_tuple_int : kitB "tuple" "int" = some false := by decide +kernel
theorem kit_tuple_bool : kitB "tuple" "bool" = some false := by decide +kernel
theorem kit_tuple_dict : kitB "tuple" "dict" = some false := by decide +kernel
theorem kit_dict_list : kitB "dict" "list" = some false := by decide +kernel
theorem kit_dict_tuple : kitB "dict" "tuple" = some false := by decide +kernel
theorem kit_dict_str : kitB "dict" "str" = some false := by decide +kernel
theorem kit_dict_int : kitB "dict" "int" = some false := by decide +kernel
theorem kit_dict_bool : kitB "dict" "bool" = some false := by decide +kernel
theorem kit_dict_dict : kitB "dict" "dict" = some true := by decide +kernel
end Fx

/-! Trees: what a body's lists, dicts, instances hold; where they stand in the heap. -/
namespace Fx
open PySem L2
open Evl (Ex)
variable {cl : Kl}
inductive Hd where
  | lst
  | dct (ks : List Key)
  | ddt (ks : List (List Key))
  | lok (ks : List Key)
  | ins (C : String) (fs : List Str)
  | tup
def Hd.own : Hd → Bool
  | .tup => false
  | _ => true
/-- a tree: not known, data, a node; α, β: what is told of nodes, of what is not known -/
inductive TL (α β : Type) where
  | un (b : β)
  | py (d : PyData)
  | nd (a : α) (h : Hd) (cs : List (TL α β))
abbrev T := TL Unit Unit
abbrev LT := TL Addr V
section
variable {α β : Type}
mutual
def TL.er : TL α β → T
  | .un _ => .un ()
  | .py d => .py d
  | .nd _ h cs => .nd () h (erAll cs)
def erAll : List (TL α β) → List T
  | [] => []
  | c :: cs => c.er :: erAll cs
end
theorem erAll_map : ∀ cs : List (TL α β), erAll cs = cs.map TL.er
  | [] => rfl
  | c :: cs => by simp [erAll, erAll_map cs]
def TL.get : TL α β → List Nat → Option (TL α β)
  | c, [] => some c
  | .nd _ _ cs, i :: r => match cs[i]? with
    | some c => c.get r
    | none => none
  | .un _, _ :: _ => none
  | .py _, _ :: _ => none
def TL.put : TL α β → List Nat → TL α β → TL α β
  | _, [], n => n
  | .nd p h cs, i :: r, n => .nd p h (match cs[i]? with
    | some c => cs.set i (c.put r n)
    | none => cs)
  | .un b, _ :: _, _ => .un b
  | .py d, _ :: _, _ => .py d
def gget (g : List (TL α β)) : List Nat → Option (TL α β)
  | [] => none
  | i :: r => match g[i]? with
    | some c => c.get r
    | none => none
def gput (g : List (TL α β)) : List Nat → TL α β → List (TL α β)
  | [], _ => g
  | i :: r, n => match g[i]? with
    | some c => g.set i (c.put r n)
    | none => g
theorem get_er : ∀ (π : List Nat) (c : TL α β), c.er.get π = (c.get π).map TL.er
  | [], c => by cases c <;> simp [TL.get]
  | i :: r, .un b => by simp [TL.er, TL.get]
  | i :: r, .py d => by simp [TL.er, TL.get]
  | i :: r, .nd p h cs => by
    simp only [TL.er, TL.get, erAll_map, List.getElem?_map]
    cases e : cs[i]? with
    | none => simp
    | some c => simp [get_er r c]
theorem put_er : ∀ (π : List Nat) (c n : TL α β), (c.put π n).er = c.er.put π n.er
  | [], c, n => by cases c <;> simp [TL.put]
  | i :: r, .un b, n => by simp [TL.er, TL.put]
  | i :: r, .py d, n => by simp [TL.er, TL.put]
  | i :: r, .nd p h cs, n => by
    simp only [TL.er, TL.put, erAll_map, List.getElem?_map]
    cases e : cs[i]? with
    | none => simp
    | some c => simp [put_er r c n, List.map_set]
theorem gget_er (g : List (TL α β)) (π : List Nat) : gget (g.map TL.er) π = (gget g π).map TL.er := by
  cases π with
  | nil => rfl
  | cons i r =>
    simp only [gget, List.getElem?_map]
    cases e : g[i]? with
    | none => simp
    | some c => simp [get_er r c]
theorem gput_er (g : List (TL α β)) (π : List Nat) (n : TL α β) : (gput g π n).map TL.er = gput (g.map TL.er) π n.er := by
  cases π with
  | nil => rfl
  | cons i r =>
    simp only [gput, List.getElem?_map]
    cases e : g[i]? with
    | none => simp
    | some c => simp [put_er r c n, List.map_set]
theorem gput_len (g : List (TL α β)) (π : List Nat) (n : TL α β) : (gput g π n).length = g.length := by
  cases π with
  | nil => rfl
  | cons i r =>
    simp only [gput]
    cases e : g[i]? <;> simp
end
mutual
def TL.addrs : LT → List Addr
  | .un _ => []
  | .py _ => []
  | .nd p h cs => (if h.own then [p] else []) ++ addrsAll cs
def addrsAll : List LT → List Addr
  | [] => []
  | c :: cs => c.addrs ++ addrsAll cs
end
theorem addrsAll_append : ∀ a b : List LT, addrsAll (a ++ b) = addrsAll a ++ addrsAll b
  | [], b => by simp [addrsAll]
  | x :: a, b => by simp [addrsAll, addrsAll_append a b]
theorem addrsAll_py : ∀ ds : List PyData, addrsAll (ds.map TL.py) = []
  | [] => rfl
  | d :: ds => by simp [addrsAll, TL.addrs, addrsAll_py ds]
/-- an object of a body's own: neither a tuple nor anything that stays -/
def OwnO (o : HO) : Prop := (∃ xs, o = .lst xs) ∨ (∃ kvs, o = .dK kvs) ∨ (∃ kvs, o = .dT kvs) ∨ (∃ C dx fs, o = .ins C dx fs) ∨ ∃ ob kvs, o = .frz ob (.dK kvs)
/-- what else is not of what stays: a table of code objects, what is told of another thing -/
def OwnX (o : HO) : Prop := OwnO o ∨ (∃ ps, o = .tbl ps) ∨ ∃ φ, o = .ext φ
/-- what stands at p -/
def Node (K : PySem.W.Frag) (cl : Kl) (B H : Hp) (p : Addr) : Hd → List V → Prop
  | .lst, vs => B p = none ∧ H p = some (.lst vs)
  | .dct ks, vs => B p = none ∧ ks.length = vs.length ∧ ks.Nodup ∧ H p = some (.dK (ks.zip vs))
  | .ddt ks, vs => B p = none ∧ ks.length = vs.length ∧ ks.Nodup ∧ H p = some (.dT (ks.zip vs))
  | .lok ks, vs => B p = none ∧ ks.length = vs.length ∧ ks.Nodup ∧ ∃ od, H p = some (.frz od (.dK (ks.zip vs)))
  | .ins C fs, vs => B p = none ∧ fs.length = vs.length ∧ ∃ dx, H p = some (.ins (cl C) dx (fs.zip vs))
  | .tup, vs => SqT K B p vs
theorem Node.own {K : PySem.W.Frag} {B H : Hp} {p : Addr} {vs : List V} : ∀ {h : Hd}, h.own = true → Node K cl B H p h vs → B p = none ∧ ∃ o, H p = some o ∧ OwnO o
  | .lst, _, ⟨a, b⟩ => ⟨a, _, b, .inl ⟨_, rfl⟩⟩
  | .dct ks, _, ⟨a, _, _, b⟩ => ⟨a, _, b, .inr (.inl ⟨_, rfl⟩)⟩
  | .ddt ks, _, ⟨a, _, _, b⟩ => ⟨a, _, b, .inr (.inr (.inl ⟨_, rfl⟩))⟩
  | .lok ks, _, ⟨a, _, _, _, b⟩ => ⟨a, _, b, .inr (.inr (.inr (.inr ⟨_, _, rfl⟩)))⟩
  | .ins C fs, _, ⟨a, _, _, b⟩ => ⟨a, _, b, .inr (.inr (.inr (.inl ⟨_, _, _, rfl⟩)))⟩
  | .tup, z, _ => by cases z
theorem Node.keep {K : PySem.W.Frag} {B H B' H' : Hp} {p : Addr} {vs : List V} (e : Ex B B') : ∀ {h : Hd}, (h.own = true → B' p = none ∧ H' p = H p) → Node K cl B H p h vs → Node K cl B' H' p h vs
  | .lst, k, ⟨a, b⟩ => ⟨(k rfl).1, by rw [(k rfl).2]; exact b⟩
  | .dct ks, k, ⟨a, l, n, b⟩ => ⟨(k rfl).1, l, n, by rw [(k rfl).2]; exact b⟩
  | .ddt ks, k, ⟨a, l, n, b⟩ => ⟨(k rfl).1, l, n, by rw [(k rfl).2]; exact b⟩
  | .lok ks, k, ⟨a, l, n, o, b⟩ => ⟨(k rfl).1, l, n, o, by rw [(k rfl).2]; exact b⟩
  | .ins C fs, k, ⟨a, l, o, b⟩ => ⟨(k rfl).1, l, o, by rw [(k rfl).2]; exact b⟩
  | .tup, _, s => Evl.ex_t e s
mutual
inductive LtAt (K : PySem.W.Frag) (cl : Kl) (B H : Hp) : V → LT → Prop where
  | un {v : V} : LtAt K cl B H v (.un v)
  | py {v : V} {d : PyData} (h : Dp K B v d) : LtAt K cl B H v (.py d)
  | nd {p : Addr} {h : Hd} {cs : List LT} {vs : List V} (hh : Node K cl B H p h vs) (hc : LtAll K cl B H vs cs) : LtAt K cl B H (.ref p) (.nd p h cs)
inductive LtAll (K : PySem.W.Frag) (cl : Kl) (B H : Hp) : List V → List LT → Prop where
  | nil : LtAll K cl B H [] []
  | cons {v : V} {vs : List V} {c : LT} {cs : List LT} (h : LtAt K cl B H v c) (hs : LtAll K cl B H vs cs) : LtAll K cl B H (v :: vs) (c :: cs)
end
section
variable {K : PySem.W.Frag} {B H B' H' : Hp}
mutual
theorem LtAt.keep (e : Ex B B') : ∀ (c : LT) (v : V), (∀ q ∈ c.addrs, B' q = none ∧ H' q = H q) → LtAt K cl B H v c → LtAt K cl B' H' v c
  | .un u, v, _, h => by cases h; exact .un
  | .py d, v, _, h => by cases h with | py h => exact .py (Dp.mono e d v h)
  | .nd p hd cs, v, k, h => by
    cases h with
    | nd hh hc => exact .nd (hh.keep e fun z => k p (by simp [TL.addrs, z])) (LtAll.keep e cs _ (fun q hq => k q (by simp [TL.addrs, hq])) hc)
theorem LtAll.keep (e : Ex B B') : ∀ (cs : List LT) (vs : List V), (∀ q ∈ addrsAll cs, B' q = none ∧ H' q = H q) → LtAll K cl B H vs cs → LtAll K cl B' H' vs cs
  | [], _, _, h => by cases h; exact .nil
  | c :: cs, _, k, h => by
    cases h with
    | cons h1 h2 => exact .cons (LtAt.keep e c _ (fun q hq => k q (by simp [addrsAll, hq])) h1) (LtAll.keep e cs _ (fun q hq => k q (by simp [addrsAll, hq])) h2)
end
mutual
theorem LtAt.there : ∀ (c : LT) (v : V), LtAt K cl B H v c → ∀ q ∈ c.addrs, B q = none ∧ ∃ o, H q = some o ∧ OwnO o
  | .un _, _, _, q, hq => by simp [TL.addrs] at hq
  | .py _, _, _, q, hq => by simp [TL.addrs] at hq
  | .nd p hd cs, v, h, q, hq => by
    cases h with
    | nd hh hc =>
      simp only [TL.addrs, List.mem_append] at hq
      rcases hq with hq | hq
      · cases e : hd.own with
        | false => rw [e] at hq; simp at hq
        | true => rw [e] at hq; simp at hq; subst hq; exact hh.own e
      · exact LtAll.there cs _ hc q hq
theorem LtAll.there : ∀ (cs : List LT) (vs : List V), LtAll K cl B H vs cs → ∀ q ∈ addrsAll cs, B q = none ∧ ∃ o, H q = some o ∧ OwnO o
  | [], _, _, q, hq => by simp [addrsAll] at hq
  | c :: cs, _, h, q, hq => by
    cases h with
    | cons h1 h2 =>
      simp only [addrsAll, List.mem_append] at hq
      rcases hq with hq | hq
      · exact LtAt.there c _ h1 q hq
      · exact LtAll.there cs _ h2 q hq
end
theorem LtAll.length : ∀ {vs : List V} {cs : List LT}, LtAll K cl B H vs cs → vs.length = cs.length
  | _, [], h => by cases h; rfl
  | _, c :: cs, h => by cases h with | cons _ h2 => simp [LtAll.length h2]
theorem LtAll.append : ∀ {vs us : List V} {cs es : List LT}, LtAll K cl B H vs cs → LtAll K cl B H us es → LtAll K cl B H (vs ++ us) (cs ++ es)
  | _, _, [], _, h, h' => by cases h; exact h'
  | _, _, c :: cs, _, h, h' => by cases h with | cons h1 h2 => exact .cons h1 (LtAll.append h2 h')
theorem LtAll.split : ∀ {vs : List V} {cs es : List LT}, LtAll K cl B H vs (cs ++ es) → ∃ us ws, vs = us ++ ws ∧ LtAll K cl B H us cs ∧ LtAll K cl B H ws es
  | vs, [], es, h => ⟨[], vs, rfl, .nil, h⟩
  | _, c :: cs, es, h => by
    cases h with
    | cons h1 h2 =>
      obtain ⟨us, ws, rfl, a, b⟩ := LtAll.split (cs := cs) h2
      exact ⟨_ :: us, ws, rfl, .cons h1 a, b⟩
theorem LtAll.py : ∀ {vs : List V} {ds : List PyData}, LtAll K cl B H vs (ds.map TL.py) → DpAll K B vs ds
  | _, [], h => by cases h; exact .nil
  | _, d :: ds, h => by
    cases h with
    | cons h1 h2 =>
      cases h1 with
      | py h1 => exact .cons h1 (LtAll.py h2)
theorem LtAll.of_py : ∀ {vs : List V} {ds : List PyData}, DpAll K B vs ds → LtAll K cl B H vs (ds.map TL.py)
  | _, [], h => by cases h; exact .nil
  | _, d :: ds, h => by cases h with | cons h1 h2 => exact .cons (.py h1) (LtAll.of_py h2)
theorem LtAll.get : ∀ {vs : List V} {cs : List LT} {i : Nat} {c : LT}, LtAll K cl B H vs cs → cs[i]? = some c → ∃ v, vs[i]? = some v ∧ LtAt K cl B H v c
  | _, [], i, c, _, e => by simp at e
  | _, c :: cs, 0, d, h, e => by
    cases h with
    | cons h1 h2 => simp at e; subst e; exact ⟨_, rfl, h1⟩
  | _, c :: cs, i + 1, d, h, e => by
    cases h with
    | cons h1 h2 =>
      obtain ⟨v, a, b⟩ := LtAll.get h2 (i := i) (by simpa using e)
      exact ⟨v, by simpa using a, b⟩
theorem LtAll.setAt : ∀ {vs : List V} {cs : List LT} {i : Nat} {v : V} {c : LT}, LtAll K cl B H vs cs → LtAt K cl B H v c → LtAll K cl B H (vs.set i v) (cs.set i c)
  | _, [], i, _, _, h, _ => by cases h; simp; exact .nil
  | _, c :: cs, 0, v, d, h, e => by cases h with | cons h1 h2 => exact .cons e h2
  | _, c :: cs, i + 1, v, d, h, e => by cases h with | cons h1 h2 => exact .cons h1 (LtAll.setAt h2 e)
theorem LtAll.erase : ∀ {vs : List V} {cs : List LT} (i : Nat), LtAll K cl B H vs cs → LtAll K cl B H (vs.eraseIdx i) (cs.eraseIdx i)
  | _, [], i, h => by cases h; exact .nil
  | _, c :: cs, 0, h => by cases h with | cons h1 h2 => exact h2
  | _, c :: cs, i + 1, h => by cases h with | cons h1 h2 => exact .cons h1 (LtAll.erase i h2)
theorem LtAll.insert : ∀ {vs : List V} {cs : List LT} {v : V} {c : LT} (i : Nat), LtAll K cl B H vs cs → LtAt K cl B H v c → LtAll K cl B H (vs.take i ++ v :: vs.drop i) (cs.take i ++ c :: cs.drop i)
  | _, [], v, c, i, h, e => by cases h; simp; exact .cons e .nil
  | _, x :: cs, v, c, 0, h, e => .cons e h
  | _, x :: cs, v, c, i + 1, h, e => by cases h with | cons h1 h2 => exact .cons h1 (LtAll.insert i h2 e)
end
/-- what a list of trees says of one of them, and of another one that is put in its place -/
theorem at_list : ∀ (g : List LT) (i : Nat) (c : LT), g[i]? = some c → ∃ A1 A2, addrsAll g = A1 ++ c.addrs ++ A2 ∧ (∀ c', addrsAll (g.set i c') = A1 ++ c'.addrs ++ A2) ∧
    ∀ (K : PySem.W.Frag) (B H : Hp) (vs : List V), LtAll K cl B H vs g → ∃ w, vs[i]? = some w ∧ LtAt K cl B H w c ∧ ∀ (c' : LT) (B' H' : Hp), Ex B B' → (∀ q ∈ A1 ++ A2, B' q = none ∧ H' q = H q) → LtAt K cl B' H' w c' → LtAll K cl B' H' vs (g.set i c')
  | [], i, c, e => by simp at e
  | x :: g, 0, c, e => by
    simp at e
    subst e
    refine ⟨[], addrsAll g, by simp [addrsAll], fun c' => by simp [addrsAll], fun K B H vs h => ?_⟩
    cases h with
    | cons h1 h2 => exact ⟨_, rfl, h1, fun c' B' H' e k h' => .cons h' (LtAll.keep e g _ (fun q hq => k q (by simpa using hq)) h2)⟩
  | x :: g, i + 1, c, e => by
    obtain ⟨A1, A2, e1, e2, e3⟩ := at_list g i c (by simpa using e)
    refine ⟨x.addrs ++ A1, A2, by simp [addrsAll, e1], fun c' => by simp [addrsAll, e2], fun K B H vs h => ?_⟩
    cases h with
    | cons h1 h2 =>
      obtain ⟨w, h0, h3, h4⟩ := e3 K B H _ h2
      exact ⟨w, by simpa using h0, h3, fun c' B' H' e k h' => .cons (LtAt.keep e x _ (fun q hq => k q (by simp [hq])) h1) (h4 c' B' H' e (fun q hq => k q (by simp only [List.mem_append] at hq ⊢; rcases hq with hq | hq <;> simp [hq])) h')⟩
theorem at_place : ∀ (π : List Nat) (c u : LT), c.get π = some u → ∃ A1 A2, c.addrs = A1 ++ u.addrs ++ A2 ∧ (∀ u', (c.put π u').addrs = A1 ++ u'.addrs ++ A2) ∧
    ∀ (K : PySem.W.Frag) (B H : Hp) (v : V), LtAt K cl B H v c → ∃ w, LtAt K cl B H w u ∧ ∀ (u' : LT) (B' H' : Hp), Ex B B' → (∀ q ∈ A1 ++ A2, B' q = none ∧ H' q = H q) → LtAt K cl B' H' w u' → LtAt K cl B' H' v (c.put π u')
  | [], c, u, e => by
    have e : some c = some u := by cases c <;> exact e
    cases e
    refine ⟨[], [], by simp, fun u' => by cases c <;> simp [TL.put], fun K B H v h => ⟨v, h, fun u' B' H' _ _ h' => by cases c <;> exact h'⟩⟩
  | i :: r, .un d, u, e => by simp [TL.get] at e
  | i :: r, .py d, u, e => by simp [TL.get] at e
  | i :: r, .nd p h cs, u, e => by
    simp only [TL.get] at e
    cases ei : cs[i]? with
    | none => rw [ei] at e; simp at e
    | some c0 =>
      rw [ei] at e
      obtain ⟨A1, A2, e1, e2, e3⟩ := at_place r c0 u e
      obtain ⟨A3, A4, f1, f2, f3⟩ := at_list cs i c0 ei
      refine ⟨(if h.own then [p] else []) ++ (A3 ++ A1), A2 ++ A4, by simp [TL.addrs, f1, e1], fun u' => by simp [TL.put, ei, TL.addrs, f2, e2], fun K B H v hv => ?_⟩
      cases hv with
      | nd hh hc =>
        obtain ⟨w0, g0, g1, g2⟩ := f3 K B H _ hc
        obtain ⟨w, g3, g4⟩ := e3 K B H w0 g1
        refine ⟨w, g3, fun u' B' H' e k h' => ?_⟩
        simp only [TL.put, ei]
        refine .nd (hh.keep e fun z => k p (by simp [z])) (g2 _ B' H' e (fun q hq => k q ?_) (g4 u' B' H' e (fun q hq => k q ?_) h'))
        · simp only [List.mem_append] at hq
          rcases hq with hq | hq <;> simp [hq]
        · simp only [List.mem_append] at hq
          rcases hq with hq | hq <;> simp [hq]
theorem at_root (g : List LT) (π : List Nat) (u : LT) (e : gget g π = some u) : ∃ A1 A2, addrsAll g = A1 ++ u.addrs ++ A2 ∧ (∀ u', addrsAll (gput g π u') = A1 ++ u'.addrs ++ A2) ∧
    ∀ (K : PySem.W.Frag) (B H : Hp) (vs : List V), LtAll K cl B H vs g → ∃ w, LtAt K cl B H w u ∧ ∀ (u' : LT) (B' H' : Hp), Ex B B' → (∀ q ∈ A1 ++ A2, B' q = none ∧ H' q = H q) → LtAt K cl B' H' w u' → LtAll K cl B' H' vs (gput g π u') := by
  cases π with
  | nil => simp [gget] at e
  | cons i r =>
    simp only [gget] at e
    cases ei : g[i]? with
    | none => rw [ei] at e; simp at e
    | some c0 =>
      rw [ei] at e
      obtain ⟨A1, A2, e1, e2, e3⟩ := at_place r c0 u e
      obtain ⟨A3, A4, f1, f2, f3⟩ := at_list g i c0 ei
      refine ⟨A3 ++ A1, A2 ++ A4, by simp [f1, e1], fun u' => by simp [gput, ei, f2, e2], fun K B H vs hv => ?_⟩
      obtain ⟨w0, g0, g1, g2⟩ := f3 K B H _ hv
      obtain ⟨w, g3, g4⟩ := e3 K B H w0 g1
      refine ⟨w, g3, fun u' B' H' e k h' => ?_⟩
      simp only [gput, ei]
      refine g2 _ B' H' e (fun q hq => k q ?_) (g4 u' B' H' e (fun q hq => k q ?_) h')
      · simp only [List.mem_append] at hq
        rcases hq with hq | hq <;> simp [hq]
      · simp only [List.mem_append] at hq
        rcases hq with hq | hq <;> simp [hq]
end Fx

/-! A body's state: slots, trees; how it stands to the heap; what changes it. -/
namespace Fx
open PySem L2
open Evl (Ex)
variable {cl : Kl}
/-! ### trees as data -/
section
variable {α β : Type}
mutual
def TL.data : TL α β → Option PyData
  | .un _ => none
  | .py d => some d
  | .nd _ .lst cs => match dataAll cs with
    | some ds => some (.list ds)
    | none => none
  | .nd _ .tup cs => match dataAll cs with
    | some ds => some (.tuple ds)
    | none => none
  | .nd _ (.dct _) _ => none
  | .nd _ (.ddt _) _ => none
  | .nd _ (.lok _) _ => none
  | .nd _ (.ins _ _) _ => none
def dataAll : List (TL α β) → Option (List PyData)
  | [] => some []
  | c :: cs => match c.data with
    | some d => match dataAll cs with
      | some ds => some (d :: ds)
      | none => none
    | none => none
end
mutual
theorem data_er : ∀ t : TL α β, t.er.data = t.data
  | .un _ => rfl
  | .py d => rfl
  | .nd _ .lst cs => by simp only [TL.er, TL.data, dataAll_er cs]
  | .nd _ .tup cs => by simp only [TL.er, TL.data, dataAll_er cs]
  | .nd _ (.dct _) _ => rfl
  | .nd _ (.ddt _) _ => rfl
  | .nd _ (.lok _) _ => rfl
  | .nd _ (.ins _ _) _ => rfl
theorem dataAll_er : ∀ cs : List (TL α β), dataAll (erAll cs) = dataAll cs
  | [] => rfl
  | c :: cs => by simp only [erAll, dataAll, data_er c, dataAll_er cs]
end
theorem dataAll_py : ∀ ds : List PyData, dataAll (ds.map (TL.py (α := α) (β := β))) = some ds
  | [] => rfl
  | d :: ds => by simp [dataAll, TL.data, dataAll_py ds]
end
section
variable {K : PySem.W.Frag} {B H : Hp}
mutual
/-- read as data, where B' has what stands there -/
theorem LtAt.data {B' : Hp} (e : Ex B B') : ∀ (u : LT) (v : V) (d : PyData), LtAt K cl B H v u → u.data = some d → (∀ q ∈ u.addrs, B' q = H q) → Dp K B' v d
  | .un _, v, d, _, h, _ => by simp [TL.data] at h
  | .py x, v, d, h, z, _ => by
    simp only [TL.data, Option.some.injEq] at z
    subst z
    cases h with | py h => exact Dp.mono e _ _ h
  | .nd p .lst cs, v, d, h, z, k => by
    cases h with
    | nd hh hc =>
      simp only [TL.data] at z
      cases ec : dataAll cs with
      | none => rw [ec] at z; cases z
      | some ds =>
        rw [ec] at z
        cases z
        refine .lst (SqL.of ?_) (LtAll.data e cs _ ds hc ec fun q hq => k q (by simp [TL.addrs, hq]))
        rw [k p (by simp [TL.addrs, Hd.own])]
        exact hh.2
  | .nd p .tup cs, v, d, h, z, k => by
    cases h with
    | nd hh hc =>
      simp only [TL.data] at z
      cases ec : dataAll cs with
      | none => rw [ec] at z; cases z
      | some ds =>
        rw [ec] at z
        cases z
        exact .tup (Evl.ex_t e hh) (LtAll.data e cs _ ds hc ec fun q hq => k q (by simp [TL.addrs, hq]))
  | .nd p (.dct _) cs, v, d, h, z, k => by simp [TL.data] at z
  | .nd p (.ddt _) cs, v, d, h, z, k => by simp [TL.data] at z
  | .nd p (.lok _) cs, v, d, h, z, k => by simp [TL.data] at z
  | .nd p (.ins _ _) cs, v, d, h, z, k => by simp [TL.data] at z
theorem LtAll.data {B' : Hp} (e : Ex B B') : ∀ (cs : List LT) (vs : List V) (ds : List PyData), LtAll K cl B H vs cs → dataAll cs = some ds → (∀ q ∈ addrsAll cs, B' q = H q) → DpAll K B' vs ds
  | [], _, ds, h, z, _ => by
    cases h
    simp only [dataAll, Option.some.injEq] at z
    subst z
    exact .nil
  | c :: cs, _, ds, h, z, k => by
    cases h with
    | cons h1 h2 =>
      simp only [dataAll] at z
      cases e1 : c.data with
      | none => rw [e1] at z; cases z
      | some d =>
        cases e2 : dataAll cs with
        | none => rw [e1, e2] at z; cases z
        | some es =>
          rw [e1, e2] at z
          cases z
          exact .cons (LtAt.data e c _ d h1 e1 fun q hq => k q (by simp [addrsAll, hq])) (LtAll.data e cs _ es h2 e2 fun q hq => k q (by simp [addrsAll, hq]))
end
end
/-! ### places -/
def lref : LT → Option V
  | .nd p _ _ => some (.ref p)
  | _ => none
def pv (G : List LT) (π : List Nat) : Option V := (gget G π).bind lref
theorem get_put_ne : ∀ (π π2 : List Nat) (c u : LT), ¬ π <+: π2 → ((c.put π u).get π2).bind lref = (c.get π2).bind lref
  | [], π2, c, u, h => absurd List.nil_prefix h
  | i :: r, π2, .un b, u, h => rfl
  | i :: r, π2, .py b, u, h => rfl
  | i :: r, [], .nd p hd cs, u, h => rfl
  | i :: r, j :: r2, .nd p hd cs, u, h => by
    simp only [TL.put, TL.get]
    cases e : cs[i]? with
    | none => simp
    | some c =>
      by_cases ej : i = j
      · subst ej
        have hi : i < cs.length := (List.getElem?_eq_some_iff.mp e).1
        simp only [List.getElem?_set_self hi, e]
        exact get_put_ne r r2 c u (fun z => h ((List.prefix_cons_inj i).mpr z))
      · simp only [List.getElem?_set_ne ej]
theorem get_put_ext : ∀ (π r : List Nat) (c u u0 : LT), c.get π = some u0 → (c.put π u).get (π ++ r) = u.get r
  | [], r, c, u, u0, e => by cases c <;> rfl
  | i :: s, r, .un b, u, u0, e => by simp [TL.get] at e
  | i :: s, r, .py b, u, u0, e => by simp [TL.get] at e
  | i :: s, r, .nd p hd cs, u, u0, e => by
    simp only [TL.get] at e
    cases ec : cs[i]? with
    | none => rw [ec] at e; cases e
    | some c =>
      rw [ec] at e
      have hi : i < cs.length := (List.getElem?_eq_some_iff.mp ec).1
      simp only [TL.put, ec, List.cons_append, TL.get, List.getElem?_set_self hi]
      exact get_put_ext s r c u u0 e
theorem get_app : ∀ (π r : List Nat) (c u0 : LT), c.get π = some u0 → c.get (π ++ r) = u0.get r
  | [], r, c, u0, e => by
    have e : some c = some u0 := by cases c <;> exact e
    cases e
    rfl
  | i :: s, r, .un b, u0, e => by simp [TL.get] at e
  | i :: s, r, .py b, u0, e => by simp [TL.get] at e
  | i :: s, r, .nd p hd cs, u0, e => by
    simp only [TL.get] at e
    simp only [List.cons_append, TL.get]
    cases ec : cs[i]? with
    | none => rw [ec] at e; cases e
    | some c =>
      rw [ec] at e
      exact get_app s r c u0 e
theorem pv_put_ne {G : List LT} {π π2 : List Nat} {u : LT} (h : ¬ π <+: π2) : pv (gput G π u) π2 = pv G π2 := by
  unfold pv
  cases π with
  | nil => exact absurd List.nil_prefix h
  | cons i r =>
    cases π2 with
    | nil => rfl
    | cons j r2 =>
      simp only [gput, gget]
      cases e : G[i]? with
      | none => simp
      | some c =>
        by_cases ej : i = j
        · subst ej
          have hi : i < G.length := (List.getElem?_eq_some_iff.mp e).1
          simp only [List.getElem?_set_self hi, e]
          exact get_put_ne r r2 c u (fun z => h ((List.prefix_cons_inj i).mpr z))
        · simp only [List.getElem?_set_ne ej]
theorem gget_put_ext {G : List LT} {π r : List Nat} {u u0 : LT} (e : gget G π = some u0) : gget (gput G π u) (π ++ r) = u.get r := by
  cases π with
  | nil => simp [gget] at e
  | cons i s =>
    simp only [gget] at e
    cases ec : G[i]? with
    | none => rw [ec] at e; cases e
    | some c =>
      rw [ec] at e
      have hi : i < G.length := (List.getElem?_eq_some_iff.mp ec).1
      simp only [gput, ec, List.cons_append, gget, List.getElem?_set_self hi]
      exact get_put_ext s r c u u0 e
theorem gget_app {G : List LT} {π r : List Nat} {u0 : LT} (e : gget G π = some u0) : gget G (π ++ r) = u0.get r := by
  cases π with
  | nil => simp [gget] at e
  | cons i s =>
    simp only [gget] at e
    simp only [List.cons_append, gget]
    cases ec : G[i]? with
    | none => rw [ec] at e; cases e
    | some c =>
      rw [ec] at e
      exact get_app s r c u0 e
theorem gget_append {G X : List LT} {π : List Nat} {u : LT} (e : gget G π = some u) : gget (G ++ X) π = some u := by
  cases π with
  | nil => simp [gget] at e
  | cons i s =>
    simp only [gget] at e ⊢
    cases ec : G[i]? with
    | none => rw [ec] at e; cases e
    | some c =>
      rw [ec] at e
      rw [List.getElem?_append_left (List.getElem?_eq_some_iff.mp ec).1, ec]
      exact e
theorem gput_append {G X : List LT} {π : List Nat} {u u0 : LT} (e : gget G π = some u0) : gput (G ++ X) π u = gput G π u ++ X := by
  cases π with
  | nil => simp [gget] at e
  | cons i s =>
    simp only [gget] at e
    cases ec : G[i]? with
    | none => rw [ec] at e; cases e
    | some c =>
      have hi := (List.getElem?_eq_some_iff.mp ec).1
      simp only [gput, List.getElem?_append_left hi, ec]
      rw [List.set_append_left _ _ hi]
theorem pv_append {G X : List LT} {π : List Nat} {v : V} (e : pv G π = some v) : pv (G ++ X) π = some v := by
  unfold pv at e ⊢
  cases h : gget G π with
  | none => rw [h] at e; cases e
  | some u => rw [gget_append h]; rw [h] at e; exact e
theorem pv_set {G : List LT} {i : Nat} {u : LT} {π : List Nat} (h : ¬ [i] <+: π) : pv (G.set i u) π = pv G π := by
  unfold pv
  cases π with
  | nil => rfl
  | cons j r =>
    have ne : i ≠ j := fun z => h (by subst z; exact ⟨r, rfl⟩)
    simp only [gget, List.getElem?_set_ne ne]
/-! ### the relation -/
structure Rl (K : PySem.W.Frag) (cl : Kl) (B F H : Hp) (G : List LT) (us : List V) : Prop where
  exB : Ex B H
  exF : Ex F H
  out : ∀ q o, H q = some o → B q = none → OwnX o
  at_ : LtAll K cl B H us G
  nod : (addrsAll G).Nodup
  off : ∀ q ∈ addrsAll G, F q = none
  tb : ∀ p ∈ cl.t, B p.1 = none ∧ F p.1 = none ∧ LamX.TabS H p.1 p.2
/-- growth alone -/
structure Gw (B H B' H' : Hp) : Prop where
  b : Ex B B'
  h : Ex H H'
  exB : Ex B' H'
  new : ∀ q, H q ≠ none → B q = none → B' q = none
  out : ∀ q o, H' q = some o → B' q = none → H q = some o ∨ OwnX o
/-- what a frame knows of it -/
structure Kp (F B B' : Hp) : Prop where
  b : Ex B B'
  new : ∀ q, F q ≠ none → B q = none → B' q = none
theorem Kp.refl (F B : Hp) : Kp F B B := ⟨Evl.Ex.refl B, fun _ _ h => h⟩
theorem Kp.trans {F B B' B2 : Hp} (a : Kp F B B') (b : Kp F B' B2) : Kp F B B2 := ⟨a.b.trans b.b, fun q h1 h2 => b.new q h1 (a.new q h1 h2)⟩
section
variable {K : PySem.W.Frag} {B F H B' H' B2 H2 : Hp} {G : List LT} {us : List V}
theorem Gw.refl (e : Ex B H) : Gw B H B H := ⟨Evl.Ex.refl B, Evl.Ex.refl H, e, fun _ _ h => h, fun _ _ h _ => .inl h⟩
theorem Gw.trans (a : Gw B H B' H') (b : Gw B' H' B2 H2) : Gw B H B2 H2 := ⟨a.b.trans b.b, a.h.trans b.h, b.exB, fun q h1 h2 => b.new q (by
    cases e : H q with
    | none => exact absurd e h1
    | some o => rw [a.h q o e]; simp) (a.new q h1 h2), fun q o h1 h2 => by
    rcases b.out q o h1 h2 with h | h
    · have h3 : B' q = none := by
        cases e : B' q with
        | none => rfl
        | some u => rw [b.b q u e] at h2; cases h2
      exact a.out q o h h3
    · exact .inr h⟩
theorem Gw.kp (g : Gw B H B' H') (e : Ex F H) : Kp F B B' := ⟨g.b, fun q h1 h2 => g.new q (by
  cases z : F q with
  | none => exact absurd z h1
  | some o => rw [e q o z]; simp) h2⟩
theorem Gw.nw {p : Addr} {o : HO} (e : Ex B H) (h : H p = none) : Gw B H (upd B p o) (upd H p o) := by
  have hb : B p = none := by
    cases z : B p with
    | none => rfl
    | some u => rw [e p u z] at h; cases h
  refine ⟨Evl.Ex.new hb, Evl.Ex.new h, fun q u z => ?_, fun q h1 h2 => ?_, fun q u h1 h2 => ?_⟩
  · by_cases y : q = p
    · subst y; rw [upd_same] at z ⊢; exact z
    · rw [upd_ne y] at z ⊢; exact e q u z
  · have y : q ≠ p := fun y => by subst y; exact h1 h
    rw [upd_ne y]; exact h2
  · by_cases y : q = p
    · subst y; rw [upd_same] at h2; cases h2
    · rw [upd_ne y] at h1; exact .inl h1
theorem Gw.ow {p : Addr} {o : HO} (e : Ex B H) (h : H p = none) (ho : OwnO o) : Gw B H B (upd H p o) := by
  refine ⟨Evl.Ex.refl B, Evl.Ex.new h, e.trans (Evl.Ex.new h), fun q _ h2 => h2, fun q u h1 h2 => ?_⟩
  by_cases y : q = p
  · subst y; rw [upd_same] at h1; cases h1; exact .inr (.inl ho)
  · rw [upd_ne y] at h1; exact .inl h1
theorem Rl.there (r : Rl K cl B F H G us) : ∀ q ∈ addrsAll G, B q = none ∧ ∃ o, H q = some o ∧ OwnO o := LtAll.there G us r.at_
theorem Rl.keep (r : Rl K cl B F H G us) (e : Ex B' H') (f : Ex F H') (o : ∀ q o, H' q = some o → B' q = none → OwnX o) (b : Ex B B') (k : ∀ q ∈ addrsAll G, B' q = none ∧ H' q = H q) (t : ∀ p ∈ cl.t, B' p.1 = none ∧ LamX.TabS H' p.1 p.2) : Rl K cl B' F H' G us :=
  ⟨e, f, o, LtAll.keep b G us k r.at_, r.nod, r.off, fun p hp => ⟨(t p hp).1, (r.tb p hp).2.1, (t p hp).2⟩⟩
theorem Rl.grow (r : Rl K cl B F H G us) (g : Gw B H B' H') : Rl K cl B' F H' G us :=
  r.keep g.exB (r.exF.trans g.h) (fun q o h1 h2 => by
    rcases g.out q o h1 h2 with h | h
    · exact r.out q o h (by
        cases z : B q with
        | none => rfl
        | some u => rw [g.b q u z] at h2; cases h2)
    · exact h) g.b (fun q hq => by
    obtain ⟨h1, o, h2, _⟩ := r.there q hq
    exact ⟨g.new q (by rw [h2]; simp) h1, by rw [h2]; exact g.h q o h2⟩) fun p hp => by
    obtain ⟨h1, _, h3⟩ := r.tb p hp
    obtain ⟨ps, e, _⟩ := id h3
    exact ⟨g.new _ (by rw [e]; simp) h1, h3.ext g.h⟩
theorem Rl.keepT (r : Rl K cl B F H G us) : KeepT K H B := fun a xs h => by
  have own : ∀ o, OwnX o → (∀ ys, o ≠ .tup ys) ∧ ∀ ob ys, o ≠ .frz ob (.tup ys) := by
    intro o ho
    refine ⟨fun ys z => ?_, fun ob ys z => ?_⟩ <;> subst z <;> rcases ho with (⟨_, z⟩ | ⟨_, z⟩ | ⟨_, z⟩ | ⟨_, _, _, z⟩ | ⟨_, _, z⟩) | ⟨_, z⟩ | ⟨_, z⟩ <;> cases z
  rcases h with (h | ⟨o, h⟩) | h
  · refine .inl (.inl ?_)
    cases e : B a with
    | none => exact absurd rfl ((own _ (r.out a _ h e)).1 xs)
    | some u => rw [r.exB a u e] at h; exact h
  · refine .inl (.inr ⟨o, ?_⟩)
    cases e : B a with
    | none => exact absurd rfl ((own _ (r.out a _ h e)).2 o xs)
    | some u => rw [r.exB a u e] at h; exact h
  · exact .inr h
/-- data without lists stays -/
theorem Rl.down (r : Rl K cl B F H G us) {v : V} {d : PyData} (n : noList d = true) (h : Dp K H v d) : Dp K B v d := Dp.keepT r.keepT d v n h
theorem Rl.up (r : Rl K cl B F H G us) {v : V} {d : PyData} (h : Dp K B v d) : Dp K H v d := Dp.mono r.exB d v h
/-- the node at a place -/
theorem Rl.node (r : Rl K cl B F H G us) {π : List Nat} {p : Addr} {h : Hd} {cs : List LT} (e : gget G π = some (.nd p h cs)) : ∃ vs, Node K cl B H p h vs ∧ LtAll K cl B H vs cs := by
  obtain ⟨A1, A2, e1, e2, e3⟩ := at_root G π _ e
  obtain ⟨w, hw, _⟩ := e3 K B H us r.at_
  cases hw with
  | nd hh hc => exact ⟨_, hh, hc⟩
theorem Rl.at (r : Rl K cl B F H G us) {π : List Nat} {u : LT} (e : gget G π = some u) : ∃ v, LtAt K cl B H v u := by
  obtain ⟨A1, A2, e1, e2, e3⟩ := at_root G π _ e
  obtain ⟨w, hw, _⟩ := e3 K B H us r.at_
  exact ⟨w, hw⟩
theorem in_root {π : List Nat} {u : LT} (e : gget G π = some u) : ∀ a ∈ u.addrs, a ∈ addrsAll G := fun a ha => by
  obtain ⟨A1, A2, e1, _, _⟩ := at_root (cl := ⟨fun _ => 0, []⟩) G π _ e
  rw [e1]; simp [ha]
/-- a tree is read as data, for the moment -/
theorem Rl.data (r : Rl K cl B F H G us) {π : List Nat} {u : LT} {v : V} {d : PyData} (e : gget G π = some u) (hv : lref u = some v) (hd : u.data = some d) : Dp K H v d := by
  obtain ⟨w, hw⟩ := r.at e
  have := LtAt.data (B' := H) r.exB u w d hw hd fun q _ => rfl
  cases u with
  | un _ => cases hv
  | py _ => cases hv
  | nd p h cs => cases hv; cases hw; exact this
theorem own_tbl {o : HO} (h : OwnO o) : (∀ ps, o ≠ .tbl ps) ∧ ∀ φ, o ≠ .ext φ := by
  refine ⟨fun ys z => ?_, fun ys z => ?_⟩ <;> subst z <;> rcases h with ⟨_, z⟩ | ⟨_, z⟩ | ⟨_, z⟩ | ⟨_, _, _, z⟩ | ⟨_, _, z⟩ <;> cases z
theorem TabS.upd {p P : Addr} {q : Str} {u o : HO} (t : LamX.TabS H P q) (h : H p = some u) (ho : OwnO u) : LamX.TabS (upd H p o) P q := by
  obtain ⟨ps, h1, h2, h3⟩ := t
  have nP : P ≠ p := fun z => by subst z; rw [h] at h1; cases h1; exact (own_tbl ho).1 _ rfl
  refine ⟨ps, by rw [upd_ne nP]; exact h1, h2, fun pos cv hc => ?_⟩
  obtain ⟨c, e1, e2⟩ := h3 pos cv hc
  refine ⟨c, e1, ?_⟩
  have nc : c ≠ p := fun z => by subst z; rw [h] at e2; cases e2; exact (own_tbl ho).2 _ rfl
  rw [upd_ne nc]; exact e2
/-! ### a node takes other values -/
theorem Rl.mut (r : Rl K cl B F H G us) {π : List Nat} {p : Addr} {h h' : Hd} {cs cs' : List LT} {vs' : List V} {o : HO} (e : gget G π = some (.nd p h cs)) (ho : h.own = true) (ho' : h'.own = true) (own : OwnO o)
    (hn : Node K cl B (upd H p o) p h' vs') (hc : LtAll K cl B H vs' cs') (nd : (addrsAll cs').Nodup) (hq : ∀ q ∈ addrsAll cs', q ∈ addrsAll cs ∨ (q ∉ addrsAll G ∧ F q = none)) :
    Rl K cl B F (upd H p o) (gput G π (.nd p h' cs')) us := by
  obtain ⟨A1, A2, e1, e2, e3⟩ := at_root G π _ e
  obtain ⟨w, hw, hp⟩ := e3 K B H us r.at_
  have nod := r.nod
  rw [e1] at nod
  simp only [TL.addrs, ho, ho', if_true] at nod e1 e2
  have hb : B p = none := (r.there p (by rw [e1]; simp)).1
  have pg : p ∈ addrsAll G := by rw [e1]; simp
  have n1 := List.nodup_append.mp nod
  have n2 := List.nodup_append.mp n1.1
  have pc : ∀ q ∈ addrsAll cs, q ≠ p := fun q h z => by
    subst z
    exact (List.nodup_append.mp n2.2.1).2.2 q (by simp) q h rfl
  have pA : ∀ q ∈ A1 ++ A2, q ≠ p := fun q h z => by
    subst z
    rcases List.mem_append.mp h with h | h
    · exact n2.2.2 q h q (by simp) rfl
    · exact n1.2.2 q (by simp) q h rfl
  have pc' : ∀ q ∈ addrsAll cs', q ≠ p := fun q h => by
    rcases hq q h with h | ⟨h, _⟩
    · exact pc q h
    · exact fun z => h (z ▸ pg)
  have inA : ∀ q, q ∈ A1 ++ A2 → q ∈ addrsAll G := fun q h => by
    rw [e1]
    rcases List.mem_append.mp h with h | h <;> simp [h]
  have cross : ∀ q ∈ A1 ++ A2, q ∉ addrsAll cs' := fun q h1 h2 => by
    rcases hq q h2 with h3 | ⟨h3, _⟩
    · rcases List.mem_append.mp h1 with h1 | h1
      · exact n2.2.2 q h1 q (by simp [h3]) rfl
      · exact n1.2.2 q (by simp [h3]) q h1 rfl
    · exact h3 (inA q h1)
  have keepA : ∀ q ∈ A1 ++ A2, B q = none ∧ upd H p o q = H q := fun q h => ⟨(r.there q (inA q h)).1, upd_ne (pA q h)⟩
  have hc1 : LtAll K cl B (upd H p o) vs' cs' := LtAll.keep (Evl.Ex.refl B) cs' vs' (fun q h => ⟨(LtAll.there cs' vs' hc q h).1, upd_ne (pc' q h)⟩) hc
  have ew : w = .ref p := by cases hw; rfl
  subst ew
  have hall := hp (.nd p h' cs') B (upd H p o) (Evl.Ex.refl B) keepA (.nd hn hc1)
  refine ⟨fun q u h => ?_, fun q u h => ?_, fun q u h1 h2 => ?_, hall, ?_, fun q h => ?_, fun q h => ?_⟩
  · rw [upd_ne (fun z => by subst z; rw [hb] at h; cases h)]; exact r.exB q u h
  · rw [upd_ne (fun z => by subst z; rw [r.off _ pg] at h; cases h)]; exact r.exF q u h
  · by_cases z : q = p
    · subst z; rw [upd_same] at h1; cases h1; exact .inl own
    · rw [upd_ne z] at h1; exact r.out q u h1 h2
  · rw [e2]
    simp only [TL.addrs, ho', if_true]
    refine List.nodup_append.mpr ⟨List.nodup_append.mpr ⟨n2.1, List.nodup_append.mpr ⟨by simp, nd, fun a ha b hb' z => ?_⟩, fun a ha b hb' z => ?_⟩, n1.2.1, fun a ha b hb' z => ?_⟩
    · subst z
      simp at ha
      exact pc' a hb' ha
    · subst z
      rcases List.mem_append.mp hb' with h | h
      · simp at h
        exact pA a (by simp [ha]) h
      · exact cross a (by simp [ha]) h
    · subst z
      rcases List.mem_append.mp ha with h | h
      · exact n1.2.2 a (by simp [h]) a hb' rfl
      · rcases List.mem_append.mp h with h | h
        · simp at h
          exact pA a (by simp [hb']) h
        · exact cross a (by simp [hb']) h
  · rw [e2] at h
    simp only [TL.addrs, ho', if_true, List.mem_append] at h
    rcases h with (h | h | h) | h
    · exact r.off q (inA q (by simp [h]))
    · simp at h; subst h; exact r.off q pg
    · rcases hq q h with h1 | ⟨_, h1⟩
      · exact r.off q (by rw [e1]; simp [h1])
      · exact h1
    · exact r.off q (inA q (by simp [h]))
  · obtain ⟨t1, t2, t3⟩ := r.tb q h
    obtain ⟨_, u, hu, ou⟩ := r.there p pg
    exact ⟨t1, t2, TabS.upd t3 hu ou⟩
/-! ### roots -/
end
end Fx

/-! Roots that come, go and are lent; slots. -/
namespace Fx
open PySem L2
open Evl (Ex)
variable {cl : Kl}
theorem free_of {B H : Hp} (e : Ex B H) {p : Addr} (h : H p = none) : B p = none := by
  cases z : B p with
  | none => rfl
  | some u => rw [e p u z] at h; cases h
section
variable {K : PySem.W.Frag} {B F H B' F' H' : Hp} {G G' X M M' : List LT} {us us' ws ms ms' vs : List V} {u : LT} {v w : V} {p : Addr} {o : HO}
theorem Rl.re (r : Rl K cl B F H G us) (a : LtAll K cl B H us' G') (n : (addrsAll G').Nodup) (s : ∀ q ∈ addrsAll G', q ∈ addrsAll G) : Rl K cl B F H G' us' :=
  ⟨r.exB, r.exF, r.out, a, n, fun q hq => r.off q (s q hq), r.tb⟩
theorem Rl.left (r : Rl K cl B F H (G ++ X) (us ++ ws)) (h : us.length = G.length) : Rl K cl B F H G us := by
  obtain ⟨us', ws', e, a, b⟩ := LtAll.split r.at_
  have : us' = us := (List.append_inj_left e (by rw [h, a.length])).symm
  subst this
  have n := r.nod
  rw [addrsAll_append] at n
  exact r.re a (List.nodup_append.mp n).1 fun q hq => by rw [addrsAll_append]; simp [hq]
theorem Rl.addpy (r : Rl K cl B F H G us) {ds : List PyData} (h : DpAll K B vs ds) : Rl K cl B F H (G ++ ds.map TL.py) (us ++ vs) :=
  r.re (r.at_.append (LtAll.of_py h)) (by rw [addrsAll_append, addrsAll_py, List.append_nil]; exact r.nod) fun q hq => by rw [addrsAll_append, addrsAll_py, List.append_nil] at hq; exact hq
theorem Rl.free (r : Rl K cl B F H G us) (h : H p = none) : p ∉ addrsAll G := fun z => by
  obtain ⟨_, o, e, _⟩ := r.there p z
  rw [h] at e; cases e
/-- the last roots become the children of a new node -/
theorem Rl.pack {h : Hd} (r : Rl K cl B F H (G ++ X) (us ++ ws)) (hl : us.length = G.length) (hp : H p = none) (ho : h.own = true) (own : OwnO o) (hn : Node K cl B (upd H p o) p h ws) :
    Rl K cl B F (upd H p o) (G ++ [.nd p h X]) (us ++ [.ref p]) := by
  have g := Gw.ow r.exB hp own
  have r2 := r.grow g
  have fr := r.free hp
  have n := r.nod
  rw [addrsAll_append] at n fr
  obtain ⟨us', ws', e, a, b⟩ := LtAll.split r2.at_
  have e1 : us' = us := (List.append_inj_left e (by rw [hl, a.length])).symm
  subst e1
  have e2 : ws' = ws := (List.append_cancel_left e).symm
  subst e2
  refine ⟨r2.exB, r2.exF, r2.out, a.append (.cons (.nd hn b) .nil), ?_, fun q hq => ?_, r2.tb⟩
  · rw [addrsAll_append]
    simp only [addrsAll, TL.addrs, ho, if_true, List.append_nil]
    have m := List.nodup_append.mp n
    refine List.nodup_append.mpr ⟨m.1, List.nodup_append.mpr ⟨by simp, m.2.1, fun a ha b hb z => ?_⟩, fun a ha b hb z => ?_⟩
    · subst z; simp at ha; subst ha; exact fr (by simp [hb])
    · subst z
      rcases List.mem_append.mp hb with h | h
      · simp at h; subst h; exact fr (by simp [ha])
      · exact m.2.2 a ha a h rfl
  · rw [addrsAll_append] at hq
    simp only [addrsAll, TL.addrs, ho, if_true, List.append_nil, List.mem_append] at hq
    rcases hq with h | h | h
    · exact r.off q (by rw [addrsAll_append]; simp [h])
    · simp at h; subst h; exact free_of r.exF hp
    · exact r.off q (by rw [addrsAll_append]; simp [h])
theorem Rl.packT (r : Rl K cl B F H (G ++ X) (us ++ ws)) (hl : us.length = G.length) (hp : H p = none) :
    Rl K cl (upd B p (.tup ws)) F (upd H p (.tup ws)) (G ++ [.nd p .tup X]) (us ++ [.ref p]) := by
  have g := Gw.nw (o := .tup ws) r.exB hp
  have r2 := r.grow g
  obtain ⟨us', ws', e, a, b⟩ := LtAll.split r2.at_
  have e1 : us' = us := (List.append_inj_left e (by rw [hl, a.length])).symm
  subst e1
  have e2 : ws' = ws := (List.append_cancel_left e).symm
  subst e2
  refine r2.re (a.append (.cons (.nd (SqT.of upd_same) b) .nil)) ?_ fun q hq => ?_
  · have := r2.nod
    rw [addrsAll_append] at this ⊢
    simpa [addrsAll, TL.addrs, Hd.own] using this
  · rw [addrsAll_append] at hq ⊢
    simpa [addrsAll, TL.addrs, Hd.own] using hq
theorem mem_set : ∀ (cs : List LT) (i : Nat) (c : LT) (q : Addr), q ∈ addrsAll (cs.set i c) → q ∈ addrsAll cs ∨ q ∈ c.addrs
  | [], i, c, q, h => by simp [addrsAll] at h
  | x :: cs, 0, c, q, h => by
    simp only [List.set_cons_zero, addrsAll, List.mem_append] at h ⊢
    rcases h with h | h
    · exact .inr h
    · exact .inl (.inr h)
  | x :: cs, i + 1, c, q, h => by
    simp only [List.set_cons_succ, addrsAll, List.mem_append] at h ⊢
    rcases h with h | h
    · exact .inl (.inl h)
    · rcases mem_set cs i c q h with h | h
      · exact .inl (.inr h)
      · exact .inr h
theorem nod_set : ∀ (cs : List LT) (i : Nat) (c : LT), (addrsAll cs).Nodup → c.addrs.Nodup → (∀ q ∈ c.addrs, q ∉ addrsAll cs) → (addrsAll (cs.set i c)).Nodup
  | [], i, c, h, _, _ => by simpa using h
  | x :: cs, 0, c, h, hc, hd => by
    simp only [List.set_cons_zero, addrsAll] at h hd ⊢
    have m := List.nodup_append.mp h
    exact List.nodup_append.mpr ⟨hc, m.2.1, fun a ha b hb z => hd a ha (by simp [z, hb])⟩
  | x :: cs, i + 1, c, h, hc, hd => by
    simp only [List.set_cons_succ, addrsAll] at h hd ⊢
    have m := List.nodup_append.mp h
    refine List.nodup_append.mpr ⟨m.1, nod_set cs i c m.2.1 hc (fun q hq z => hd q hq (by simp [z])), fun a ha b hb z => ?_⟩
    subst z
    rcases mem_set cs i c a hb with h1 | h1
    · exact m.2.2 a ha a h1 rfl
    · exact hd a h1 (by simp [ha])
theorem mem_erase : ∀ (cs : List LT) (i : Nat), (addrsAll (cs.eraseIdx i)).Sublist (addrsAll cs)
  | [], i => by simp
  | x :: cs, 0 => by simp [addrsAll]
  | x :: cs, i + 1 => by simp only [List.eraseIdx_cons_succ, addrsAll]; exact List.Sublist.append (List.Sublist.refl _) (mem_erase cs i)
theorem Rl.last (r : Rl K cl B F H (G ++ [u]) (us ++ [v])) : Rl K cl B F H G us ∧ LtAt K cl B H v u ∧ u.addrs.Nodup ∧ (∀ q ∈ u.addrs, q ∉ addrsAll G ∧ F q = none) ∧ us.length = G.length := by
  obtain ⟨us', ws', e, a, b⟩ := LtAll.split r.at_
  cases b with
  | cons b1 b2 =>
    cases b2
    obtain ⟨rfl, e2⟩ := List.append_inj' e rfl
    cases e2
    have n := r.nod
    rw [addrsAll_append] at n
    simp only [addrsAll, List.append_nil] at n
    have m := List.nodup_append.mp n
    exact ⟨r.left a.length, b1, m.2.1, fun q hq => ⟨fun z => m.2.2 q z q hq rfl, r.off q (by rw [addrsAll_append]; simp [addrsAll, hq])⟩, a.length⟩
/-- the last root is put in another one's place -/
theorem Rl.setLast (r : Rl K cl B F H (G ++ [u]) (us ++ [v])) (i : Nat) : Rl K cl B F H (G.set i u) (us.set i v) := by
  obtain ⟨r1, h1, h2, h3, _⟩ := r.last
  refine r.re (r1.at_.setAt h1) (nod_set G i u r1.nod h2 fun q hq => (h3 q hq).1) fun q hq => ?_
  rw [addrsAll_append]
  rcases mem_set G i u q hq with h | h
  · simp [h]
  · simp [addrsAll, h]
/-- what stands at a place goes out, to be a root of its own -/
theorem Rl.out1 (r : Rl K cl B F H G us) {π : List Nat} (e : gget G π = some u) : ∃ w, LtAt K cl B H w u ∧ Rl K cl B F H (gput G π (.un w) ++ [u]) (us ++ [w]) := by
  obtain ⟨A1, A2, e1, e2, e3⟩ := at_root G π _ e
  obtain ⟨w, hw, hp⟩ := e3 K B H us r.at_
  refine ⟨w, hw, r.re ((hp (.un w) B H (Evl.Ex.refl B) (fun q hq => ⟨(r.there q (by rw [e1]; rcases List.mem_append.mp hq with h | h <;> simp [h])).1, rfl⟩) .un).append (.cons hw .nil)) ?_ fun q hq => ?_⟩
  · have n := r.nod
    rw [e1] at n
    rw [addrsAll_append, e2]
    simp only [TL.addrs, addrsAll, List.append_nil]
    have n1 := List.nodup_append.mp n
    have n2 := List.nodup_append.mp n1.1
    refine List.nodup_append.mpr ⟨List.nodup_append.mpr ⟨n2.1, n1.2.1, fun a ha b hb z => n1.2.2 a (by simp [ha]) b hb z⟩, n2.2.1, fun a ha b hb z => ?_⟩
    subst z
    rcases List.mem_append.mp ha with h | h
    · exact n2.2.2 a h a hb rfl
    · exact n1.2.2 a (by simp [hb]) a h rfl
  · rw [addrsAll_append, e2] at hq
    rw [e1]
    simp only [TL.addrs, addrsAll, List.append_nil, List.mem_append] at hq ⊢
    rcases hq with (h | h) | h <;> simp [h]
/-- the last root goes to where something is not known -/
theorem Rl.in1 (r : Rl K cl B F H (G ++ [u]) (us ++ [w])) {π : List Nat} (e : gget G π = some (.un w)) : Rl K cl B F H (gput G π u) us := by
  obtain ⟨r1, h1, h2, h3, _⟩ := r.last
  obtain ⟨A1, A2, e1, e2, e3⟩ := at_root G π _ e
  obtain ⟨w', hw, hp⟩ := e3 K B H us r1.at_
  cases hw
  simp only [TL.addrs, List.append_nil] at e1
  refine r.re (hp u B H (Evl.Ex.refl B) (fun q hq => ⟨(r1.there q (by rw [e1]; exact hq)).1, rfl⟩) h1) ?_ fun q hq => ?_
  · have n := r1.nod
    rw [e1] at n
    rw [e2]
    have n1 := List.nodup_append.mp n
    refine List.nodup_append.mpr ⟨List.nodup_append.mpr ⟨n1.1, h2, fun a ha b hb z => ?_⟩, n1.2.1, fun a ha b hb z => ?_⟩
    · subst z; exact (h3 a hb).1 (by rw [e1]; simp [ha])
    · subst z
      rcases List.mem_append.mp ha with h | h
      · exact n1.2.2 a h a hb rfl
      · exact (h3 a h).1 (by rw [e1]; simp [hb])
  · rw [e2] at hq
    rw [addrsAll_append, e1]
    simp only [addrsAll, List.append_nil, List.mem_append] at hq ⊢
    rcases hq with (h | h) | h <;> simp [h]
/-! ### a call: the last roots are lent -/
noncomputable def lendB (t : List (Addr × Str)) (H : Hp) (A : List Addr) : Hp := fun q => if q ∈ A ∨ q ∈ t.map (·.1) then none else H q
section
variable {t : List (Addr × Str)}
theorem lend_in {A : List Addr} {q : Addr} (h : q ∈ A) : lendB t H A q = none := if_pos (.inl h)
theorem lend_tab {A : List Addr} {q : Addr} (h : q ∈ t.map (·.1)) : lendB t H A q = none := if_pos (.inr h)
theorem lend_out {A : List Addr} {q : Addr} (h : q ∉ A) (h' : q ∉ t.map (·.1)) : lendB t H A q = H q := if_neg fun z => z.elim h h'
end
theorem Rl.tab (r : Rl K cl B F H G us) {q : Addr} (h : q ∈ cl.t.map (·.1)) : B q = none ∧ F q = none ∧ ∃ ps, H q = some (.tbl ps) := by
  obtain ⟨p, hp, rfl⟩ := List.mem_map.mp h
  obtain ⟨t1, t2, ps, t3, _⟩ := r.tb p hp
  exact ⟨t1, t2, ps, t3⟩
theorem Rl.ntab (r : Rl K cl B F H G us) {q : Addr} (h : q ∈ addrsAll G) : q ∉ cl.t.map (·.1) := fun z => by
  obtain ⟨_, o, h1, h2⟩ := r.there q h
  obtain ⟨_, _, ps, h3⟩ := r.tab z
  rw [h1] at h3; cases h3
  exact (own_tbl h2).1 _ rfl
theorem Rl.lend (r : Rl K cl B F H (G ++ M) (us ++ ms)) (hl : us.length = G.length) : Rl K cl B (lendB cl.t H (addrsAll M)) H M ms := by
  obtain ⟨us', ws', e, a, b⟩ := LtAll.split r.at_
  have e1 : us' = us := (List.append_inj_left e (by rw [hl, a.length])).symm
  subst e1
  have e2 : ws' = ms := (List.append_cancel_left e).symm
  subst e2
  have n := r.nod
  rw [addrsAll_append] at n
  refine ⟨r.exB, fun q o h => ?_, r.out, b, (List.nodup_append.mp n).2.1, fun q hq => lend_in hq, fun p hp => ⟨(r.tb p hp).1, lend_tab (List.mem_map.mpr ⟨p, hp, rfl⟩), (r.tb p hp).2.2⟩⟩
  by_cases z : q ∈ addrsAll M
  · rw [lend_in z] at h; cases h
  · by_cases z2 : q ∈ cl.t.map (·.1)
    · rw [lend_tab z2] at h; cases h
    · rw [lend_out z z2] at h; exact h
theorem Rl.back (r : Rl K cl B F H (G ++ M) (us ++ ms)) (hl : us.length = G.length) (k : Kp (lendB cl.t H (addrsAll M)) B B') (r' : Rl K cl B' (lendB cl.t H (addrsAll M)) H' M' ms') : Rl K cl B' F H' (G ++ M') (us ++ ms') ∧ Kp F B B' := by
  have rG := r.left hl
  have n := r.nod
  rw [addrsAll_append] at n
  have m := List.nodup_append.mp n
  have offM : ∀ q ∈ addrsAll M, F q = none := fun q hq => r.off q (by rw [addrsAll_append]; simp [hq])
  have kF : ∀ q, F q ≠ none → lendB cl.t H (addrsAll M) q = H q := fun q h => lend_out (fun z => h (offM q z)) fun z => h (r.tab z).2.1
  have kG : ∀ q ∈ addrsAll G, B' q = none ∧ H' q = H q := fun q hq => by
    obtain ⟨h1, o, h2, _⟩ := rG.there q hq
    have l : lendB cl.t H (addrsAll M) q = some o := by rw [lend_out (fun z => m.2.2 q hq q z rfl) (rG.ntab hq)]; exact h2
    exact ⟨k.new q (by rw [l]; simp) h1, by rw [h2]; exact r'.exF q o l⟩
  have fr : ∀ q ∈ addrsAll M', q ∈ addrsAll M ∨ H q = none := fun q hq => by
    by_cases z : q ∈ addrsAll M
    · exact .inl z
    · right
      have := r'.off q hq
      rw [lend_out z (r'.ntab hq)] at this
      exact this
  have hF : Ex F H' := fun q o h => r'.exF q o (by rw [kF q (by rw [h]; simp)]; exact r.exF q o h)
  refine ⟨⟨r'.exB, hF, r'.out, (LtAll.keep k.b G us kG rG.at_).append r'.at_, ?_, fun q hq => ?_, fun p hp => ⟨(r'.tb p hp).1, (r.tb p hp).2.1, (r'.tb p hp).2.2⟩⟩, k.b, fun q h1 h2 => ?_⟩
  · rw [addrsAll_append]
    refine List.nodup_append.mpr ⟨m.1, r'.nod, fun a ha b hb z => ?_⟩
    subst z
    rcases fr a hb with h | h
    · exact m.2.2 a ha a h rfl
    · obtain ⟨_, o, h2, _⟩ := rG.there a ha
      rw [h] at h2; cases h2
  · rw [addrsAll_append] at hq
    rcases List.mem_append.mp hq with h | h
    · exact rG.off q h
    · rcases fr q h with h | h
      · exact offM q h
      · exact free_of r.exF h
  · refine k.new q ?_ h2
    rw [kF q h1]
    cases e : F q with
    | none => exact absurd e h1
    | some o => rw [r.exF q o e]; simp
/-! ### the last root becomes data that stays -/
noncomputable def frzB (B H : Hp) (A : List Addr) : Hp := fun q => if q ∈ A then H q else B q
theorem Rl.freeze (r : Rl K cl B F H (G ++ [u]) (us ++ [v])) {d : PyData} (hd : u.data = some d) : Rl K cl (frzB B H u.addrs) F H G us ∧ Kp F B (frzB B H u.addrs) ∧ Dp K (frzB B H u.addrs) v d := by
  obtain ⟨r1, h1, h2, h3, _⟩ := r.last
  have th := LtAt.there u v h1
  have b : Ex B (frzB B H u.addrs) := fun q o e => by
    unfold frzB
    rw [if_neg fun z => by rw [(th q z).1] at e; cases e]
    exact e
  have e' : Ex (frzB B H u.addrs) H := fun q o e => by
    unfold frzB at e
    split at e
    · exact e
    · exact r.exB q o e
  have nt : ∀ p ∈ cl.t, p.1 ∉ u.addrs := fun p hp z => r.ntab (show p.1 ∈ addrsAll (G ++ [u]) by rw [addrsAll_append]; simp [addrsAll, z]) (List.mem_map.mpr ⟨p, hp, rfl⟩)
  refine ⟨r1.keep e' r.exF (fun q o e1 e2 => r.out q o e1 ?_) b (fun q hq => ⟨?_, rfl⟩) (fun p hp => ⟨?_, (r.tb p hp).2.2⟩), ⟨b, fun q e1 e2 => ?_⟩, LtAt.data b u v d h1 hd fun q hq => if_pos hq⟩
  · cases z : B q with
    | none => rfl
    | some w => rw [b q w z] at e2; cases e2
  · unfold frzB
    rw [if_neg fun z => (h3 q z).1 hq]
    exact (r1.there q hq).1
  · unfold frzB
    rw [if_neg (nt p hp)]
    exact (r.tb p hp).1
  · unfold frzB
    rw [if_neg fun z => e1 (h3 q z).2]
    exact e2
end
/-! ### slots -/
inductive Sv where
  | py (d : PyData)
  | pt (π : List Nat)
  | at (v : V)
def SvAt (K : PySem.W.Frag) (B : Hp) (G : List LT) (v : V) : Sv → Prop
  | .py d => Dp K B v d
  | .pt π => pv G π = some v
  | .at u => v = u
structure SlAt (K : PySem.W.Frag) (B : Hp) (G : List LT) (σ : List (Option V)) (sl : List (Option Sv)) : Prop where
  len : σ.length = sl.length
  has : ∀ (i : Nat) (s : Sv), sl[i]? = some (some s) → ∃ v, σ[i]? = some (some v) ∧ SvAt K B G v s
/-- what is told of a place that is no more is forgotten -/
def msk1 (bad : List Nat → Bool) : Option Sv → Option Sv
  | some (.pt π) => if bad π then none else some (.pt π)
  | s => s
def msk (bad : List Nat → Bool) (sl : List (Option Sv)) : List (Option Sv) := sl.map (msk1 bad)
section
variable {K : PySem.W.Frag} {B B' : Hp} {G G' : List LT} {σ : List (Option V)} {sl : List (Option Sv)} {v : V} {s : Sv} {i : Nat} {bad : List Nat → Bool}
theorem set_cases {α : Type} {l : List α} {i j : Nat} {a x : α} (h : (l.set i a)[j]? = some x) : (i = j ∧ x = a ∧ i < l.length) ∨ (i ≠ j ∧ l[j]? = some x) := by
  by_cases e : i = j
  · subst e
    have hl : i < l.length := by
      refine Classical.byContradiction fun hn => ?_
      rw [List.getElem?_eq_none (by rw [List.length_set]; omega)] at h
      cases h
    rw [List.getElem?_set_self hl] at h
    cases h
    exact .inl ⟨rfl, rfl, hl⟩
  · rw [List.getElem?_set_ne e] at h
    exact .inr ⟨e, h⟩
theorem SlAt.set (a : SlAt K B G σ sl) (h : SvAt K B G v s) : SlAt K B G (σ.set i (some v)) (sl.set i (some s)) := ⟨by simp [a.len], fun j t hj => by
  rcases set_cases hj with ⟨rfl, e, hl⟩ | ⟨ne, hj⟩
  · cases e
    exact ⟨v, by rw [List.getElem?_set_self (by rw [a.len]; exact hl)], h⟩
  · obtain ⟨u, h1, h2⟩ := a.has j t hj
    exact ⟨u, by rw [List.getElem?_set_ne ne]; exact h1, h2⟩⟩
theorem SlAt.forget (a : SlAt K B G σ sl) : SlAt K B G (σ.set i none) (sl.set i none) := ⟨by simp [a.len], fun j t hj => by
  rcases set_cases hj with ⟨rfl, e, hl⟩ | ⟨ne, hj⟩
  · cases e
  · obtain ⟨u, h1, h2⟩ := a.has j t hj
    exact ⟨u, by rw [List.getElem?_set_ne ne]; exact h1, h2⟩⟩
/-- a slot's value is there, nothing is told of it -/
theorem SlAt.hide (a : SlAt K B G σ sl) : SlAt K B G σ (sl.set i none) := ⟨by simp [a.len], fun j t hj => by
  rcases set_cases hj with ⟨rfl, e, hl⟩ | ⟨ne, hj⟩
  · cases e
  · exact a.has j t hj⟩
theorem SlAt.mask (a : SlAt K B G σ sl) (e : Ex B B') (k : ∀ π v, bad π = false → pv G π = some v → pv G' π = some v) : SlAt K B' G' σ (msk bad sl) := ⟨by simp [msk, a.len], fun j t hj => by
  unfold msk at hj
  rw [List.getElem?_map] at hj
  cases ej : sl[j]? with
  | none => rw [ej] at hj; cases hj
  | some o =>
    rw [ej] at hj
    simp only [Option.map_some, Option.some.injEq] at hj
    cases o with
    | none => cases hj
    | some s =>
      obtain ⟨v, h1, h2⟩ := a.has j s ej
      cases s with
      | py d => cases hj; exact ⟨v, h1, Dp.mono e d v h2⟩
      | «at» x => cases hj; exact ⟨v, h1, h2⟩
      | pt π =>
        simp only [msk1] at hj
        cases eb : bad π with
        | true => rw [eb] at hj; cases hj
        | false =>
          rw [eb] at hj
          cases hj
          exact ⟨v, h1, k π v eb h2⟩⟩
theorem SvAt.keep (e : Ex B B') (k : ∀ π, s = .pt π → pv G' π = pv G π) (h : SvAt K B G v s) : SvAt K B' G' v s := by
  cases s with
  | py d => exact Dp.mono e d v h
  | «at» x => exact h
  | pt π => show pv G' π = some v; rw [k π rfl]; exact h
theorem SlAt.keep (a : SlAt K B G σ sl) (e : Ex B B') (k : ∀ π v, pv G π = some v → pv G' π = some v) : SlAt K B' G' σ sl := ⟨a.len, fun j s hj => by
  obtain ⟨v, h1, h2⟩ := a.has j s hj
  refine ⟨v, h1, ?_⟩
  cases s with
  | py d => exact Dp.mono e d v h2
  | «at» x => exact h2
  | pt π => exact k π v h2⟩
theorem SlAt.snoc (a : SlAt K B G σ sl) (h : SvAt K B G v s) : SlAt K B G (σ ++ [some v]) (sl ++ [some s]) := ⟨by simp [a.len], fun j t hj => by
  by_cases hl : j < sl.length
  · rw [List.getElem?_append_left hl] at hj
    obtain ⟨u, h1, h2⟩ := a.has j t hj
    exact ⟨u, by rw [List.getElem?_append_left (by rw [a.len]; exact hl)]; exact h1, h2⟩
  · rw [List.getElem?_append_right (by omega)] at hj
    have : j - sl.length = 0 := by
      cases e : j - sl.length with
      | zero => rfl
      | succ n => rw [e] at hj; simp at hj
    rw [this] at hj
    simp at hj
    subst hj
    have ej : j = σ.length := by rw [a.len]; omega
    subst ej
    exact ⟨v, by simp, h⟩⟩
end
end Fx

/-! Operations on data as functions. -/
namespace Fx
open PySem L2
open Evl (Ex)
theorem ofString_inj {a b : String} : Str.ofString a = Str.ofString b ↔ a = b := by
  refine ⟨fun h => ?_, fun h => by rw [h]⟩
  rw [Str.ofString_eq_toList, Str.ofString_eq_toList] at h
  have h := congrArg (fun s : Str => s.cps.toList) h
  simp at h
  have inj : ∀ l m : List Char, l.map Char.toNat = m.map Char.toNat → l = m := by
    intro l
    induction l with
    | nil => intro m h; cases m with
      | nil => rfl
      | cons => cases h
    | cons a l ih => intro m h; cases m with
      | nil => cases h
      | cons b m =>
        simp only [List.map_cons, List.cons.injEq] at h
        have e : a = b := by
          apply Char.ext
          exact UInt32.toNat_inj.mp h.1
        rw [e, ih m h.2]
  exact String.toList_inj.mp (inj _ _ h)
/-! ### two operands -/
def mulOk (i j : Int) : Bool := (decide (-(2 ^ 64) < i) && decide (i < 2 ^ 64)) || (decide (-(2 ^ 64) < j) && decide (j < 2 ^ 64)) || decide ((Builtin.Int.intBits i : Int) + (Builtin.Int.intBits j : Int) ≤ 134217728)
def addF : PyData → PyData → Option PyData
  | .int i, .int j => some (.int (i + j))
  | .str x, .str y => if x.length + y.length ≤ 16777216 then some (.str (x ++ y)) else none
  | .tuple xs, .tuple ys => if xs.length + ys.length ≤ 16777216 then some (.tuple (xs ++ ys)) else none
  | _, _ => none
def subF : PyData → PyData → Option PyData
  | .int i, .int j => some (.int (i - j))
  | _, _ => none
def mulF : PyData → PyData → Option PyData
  | .int i, .int j => if mulOk i j then some (.int (i * j)) else none
  | _, _ => none
def fdivF : PyData → PyData → Option PyData
  | .int i, .int j => if 0 < j ∧ j < 1073741824 then some (.int (i / j)) else none
  | _, _ => none
def modF : PyData → PyData → Option PyData
  | .int i, .int j => if 0 < j then some (.int (i % j)) else none
  | _, _ => none
def powF : PyData → PyData → Option PyData
  | .int i, .int j => if 0 ≤ j ∧ j ≤ 1000000 ∧ i.natAbs < 2 ^ 64 then some (.int (i ^ j.toNat)) else none
  | _, _ => none
/-- f is what op does -/
def IsBin (op : Operator) (f : PyData → PyData → Option PyData) : Prop := ∀ d e r, f d e = some r → Bin op d e r
theorem isAdd : IsBin .Add addF := fun d e r h => by
  unfold addF at h
  split at h
  · cases h; exact .add _ _
  · split at h
    · rename_i c; cases h; exact .cat _ _ c
    · cases h
  · split at h
    · rename_i c; cases h; exact .catT _ _ c
    · cases h
  · cases h
theorem isSub : IsBin .Sub subF := fun d e r h => by
  unfold subF at h
  split at h
  · cases h; exact .sub _ _
  · cases h
theorem isMul : IsBin .Mult mulF := fun d e r h => by
  unfold mulF at h
  split at h
  · split at h
    · rename_i c
      cases h
      refine .mul _ _ ?_
      unfold mulOk at c
      simp only [Bool.or_eq_true, Bool.and_eq_true, decide_eq_true_eq] at c
      rcases c with (c | c) | c
      · exact .inl (.inl c)
      · exact .inl (.inr c)
      · exact .inr c
    · cases h
  · cases h
theorem isFdiv : IsBin .FloorDiv fdivF := fun d e r h => by
  unfold fdivF at h
  split at h
  · split at h
    · rename_i c; cases h; exact .fdiv _ _ c
    · cases h
  · cases h
theorem isMod : IsBin .Mod modF := fun d e r h => by
  unfold modF at h
  split at h
  · split at h
    · rename_i c; cases h; exact .mod _ _ c
    · cases h
  · cases h
theorem isPow : IsBin .Pow powF := fun d e r h => by
  unfold powF at h
  split at h
  · split at h
    · rename_i c; cases h; exact .pow _ _ c
    · cases h
  · cases h
/-! ### comparisons -/
def ltF : PyData → PyData → Option Bool
  | .int i, .int j => some (decide (i < j))
  | .str x, .str y => some (decide (x.cps.toList < y.cps.toList))
  | _, _ => none
def leF : PyData → PyData → Option Bool
  | .int i, .int j => some (decide (i ≤ j))
  | .str x, .str y => some (!decide (y.cps.toList < x.cps.toList))
  | _, _ => none
def gtF : PyData → PyData → Option Bool
  | .int i, .int j => some (decide (j < i))
  | _, _ => none
def geF : PyData → PyData → Option Bool
  | .int i, .int j => some (decide (j ≤ i))
  | _, _ => none
def eqD (d e : PyData) : Option Bool := if SeqAt.shaped d && SeqAt.shaped e then some (PyData.eqv d e) else none
def eqF : PyData → PyData → Option Bool
  | .int i, .int j => some (decide (i = j))
  | .str i, .str j => some (decide (i = j))
  | .bool i, .bool j => some (decide (i = j))
  | d, e => eqD d e
def neF (d e : PyData) : Option Bool := match eqF d e with
  | some b => some (!b)
  | none => none
def isF : PyData → PyData → Option Bool
  | .bool a, .bool b => some (decide (a = b))
  | .none, .none => some true
  | .bool _, .none => some false
  | .int _, .none => some false
  | .str _, .none => some false
  | .list _, .none => some false
  | .tuple _, .none => some false
  | _, _ => none
def isntF (d e : PyData) : Option Bool := match isF d e with
  | some b => some (!b)
  | none => none
def IsCmp (op : CmpOp) (f : PyData → PyData → Option Bool) : Prop := ∀ d e b, f d e = some b → Cmp op d e b
theorem isLt : IsCmp .Lt ltF := fun d e b h => by
  unfold ltF at h
  split at h
  · cases h; exact .lt _ _
  · cases h; exact .ltS _ _
  · cases h
theorem isLe : IsCmp .LtE leF := fun d e b h => by
  unfold leF at h
  split at h
  · cases h; exact .le _ _
  · cases h; exact .leS _ _
  · cases h
theorem isGt : IsCmp .Gt gtF := fun d e b h => by
  unfold gtF at h
  split at h
  · cases h; exact .gt _ _
  · cases h
theorem isGe : IsCmp .GtE geF := fun d e b h => by
  unfold geF at h
  split at h
  · cases h; exact .ge _ _
  · cases h
theorem isEq : IsCmp .Eq eqF := fun d e b h => by
  unfold eqF at h
  split at h
  · cases h; exact .eqI _ _
  · cases h; exact .eqS _ _
  · cases h; exact .eqB _ _
  · unfold eqD at h
    split at h
    · rename_i c
      simp only [Bool.and_eq_true] at c
      cases h
      exact .eq _ _ c
    · cases h
theorem isNe : IsCmp .NotEq neF := fun d e b h => by
  unfold neF at h
  cases e1 : eqF d e with
  | none => rw [e1] at h; cases h
  | some c =>
    rw [e1] at h
    cases h
    unfold eqF at e1
    split at e1
    · cases e1; exact .neI _ _
    · cases e1; exact .neS _ _
    · cases e1; exact .neB _ _
    · unfold eqD at e1
      split at e1
      · rename_i c
        simp only [Bool.and_eq_true] at c
        cases e1
        exact .ne _ _ c
      · cases e1
theorem isIs : IsCmp .Is isF := fun d e b h => by
  unfold isF at h
  split at h <;> first | (cases h; exact .isB _ _) | (cases h; exact .isN _ _ (by simp)) | cases h
theorem isIsnt : IsCmp .IsNot isntF := fun d e b h => by
  unfold isntF at h
  cases e1 : isF d e with
  | none => rw [e1] at h; cases h
  | some c =>
    rw [e1] at h
    cases h
    unfold isF at e1
    split at e1 <;> first | (cases e1; exact .notB _ _) | (cases e1; exact .notN _ _ (by simp)) | cases e1
/-! ### places, lengths, kinds -/
def idxF : PyData → PyData → Option PyData
  | .list ds, .int i => atI ds i
  | .tuple ds, .int i => atI ds i
  | .str z, .int i => if z.length ≤ 16777216 then match atI z.cps.toList i with
    | some c => some (.str ⟨#[c]⟩)
    | none => none
    else none
  | _, _ => none
theorem isIdx {d e r : PyData} (h : idxF d e = some r) : Idx d e r := by
  unfold idxF at h
  split at h
  · exact .lst _ _ _ h
  · exact .tup _ _ _ h
  · split at h
    · rename_i c
      split at h
      · rename_i e1; cases h; exact .str _ _ _ ⟨c, e1⟩
      · cases h
    · cases h
  · cases h
def lenF : PyData → Option Int
  | .list ds => some ds.length
  | .tuple ds => some ds.length
  | .str z => if z.length ≤ 16777216 then some z.length else none
  | _ => none
theorem isLen {d : PyData} {n : Int} (h : lenF d = some n) : Len d n := by
  unfold lenF at h
  split at h
  · cases h; exact .lst _
  · cases h; exact .tup _
  · split at h
    · rename_i c; cases h; exact .str _ c
    · cases h
  · cases h
def kindF : PyData → Option String
  | .none => some "NoneType"
  | .bool _ => some "bool"
  | .int _ => some "int"
  | .str _ => some "str"
  | .list _ => some "list"
  | .tuple _ => some "tuple"
  | .dict _ => none
theorem isKind {d : PyData} {n : String} (h : kindF d = some n) : Kind d n := by
  unfold kindF at h
  split at h <;> first | (cases h; first | exact .non | exact .bl _ | exact .int _ | exact .str _ | exact .lst _ | exact .tup _) | cases h
/-- is a thing of the kind n one of the built-in class m -/
def kitF (n m : String) : Bool := n == m || (n == "bool" && m == "int")
theorem kitF_of {n m : String} (hn : n ∈ ["NoneType", "bool", "int", "str", "list", "tuple", "dict"]) (hm : m ∈ ["list", "tuple", "str", "int", "bool", "dict"]) : kitB n m = some (kitF n m) := by
  simp only [List.mem_cons, List.not_mem_nil, or_false] at hn hm
  rcases hn with rfl | rfl | rfl | rfl | rfl | rfl | rfl <;> rcases hm with rfl | rfl | rfl | rfl | rfl | rfl <;> decide +kernel
theorem kind_mem {d : PyData} {n : String} (h : kindF d = some n) : n ∈ ["NoneType", "bool", "int", "str", "list", "tuple", "dict"] := by
  unfold kindF at h
  split at h <;> first | (cases h; simp) | cases h
/-! ### keys of dicts -/
def keyF : PyData → Option Key
  | .int i => some (.inl i)
  | .str x => some (.inr x)
  | _ => none
theorem key_val {K : PySem.W.Frag} {H : Hp} {v : V} {d : PyData} {k : Key} (h : keyF d = some k) (hv : Dp K H v d) : v = kV k := by
  unfold keyF at h
  split at h
  · cases h; cases hv; rfl
  · cases h; cases hv; rfl
  · cases h
def ixS : List Str → Str → Option Nat
  | [], _ => none
  | g :: r, f => if g = f then some 0 else match ixS r f with
    | some i => some (i + 1)
    | none => none
def ixK {κ : Type} [DecidableEq κ] : List κ → κ → Option Nat
  | [], _ => none
  | g :: r, f => if g = f then some 0 else match ixK r f with
    | some i => some (i + 1)
    | none => none
end Fx

/-! A body's state; expressions that change nothing. -/
namespace Fx
open PySem L2
open Evl (Ex)
variable {cl : Kl}
/-- slots, values on the way, trees; bs: how many roots stay -/
structure Rh where
  sl : List (Option Sv)
  tm : List (Option Sv)
  g : List T
  bs : Nat
structure Rg (K : PySem.W.Frag) (cl : Kl) (B F H : Hp) (ul : List V) (σ : St) (tv : List V) (ρ : Rh) (G : List LT) (us : List V) : Prop where
  er : G.map TL.er = ρ.g
  rl : Rl K cl B F H G us
  bs : σ.length + ul.length = ρ.bs
  le : ρ.bs ≤ G.length
  ul : (us.drop σ.length).take ul.length = ul
  sl : SlAt K B G σ ρ.sl
  tm : SlAt K B G (tv.map some) ρ.tm
section
variable {K : PySem.W.Frag} {B F H B' H' : Hp} {ul tv us : List V} {σ : St} {ρ : Rh} {G : List LT}
theorem Rg.grow (r : Rg K cl B F H ul σ tv ρ G us) (g : Gw B H B' H') : Rg K cl B' F H' ul σ tv ρ G us :=
  ⟨r.er, r.rl.grow g, r.bs, r.le, r.ul, r.sl.keep g.b (fun _ _ h => h), r.tm.keep g.b (fun _ _ h => h)⟩
theorem Rg.get (r : Rg K cl B F H ul σ tv ρ G us) {π : List Nat} {t : T} (e : gget ρ.g π = some t) : ∃ u, gget G π = some u ∧ u.er = t := by
  rw [← r.er, gget_er] at e
  cases h : gget G π with
  | none => rw [h] at e; cases e
  | some u => rw [h] at e; cases e; exact ⟨u, rfl, rfl⟩
end
/-- the value is as s tells, the trees as they were -/
def Pv (K : PySem.W.Frag) (cl : Kl) (te : TE) (f : Rh → Option Sv) : Prop := ∀ (B F H : Hp) (ul : List V) (σ : St) (tv : List V) (ρ : Rh) (G : List LT) (us : List V) (s : Sv), Rg K cl B F H ul σ tv ρ G us → f ρ = some s →
  ∀ Q : VK, (∀ v B' H', Gw B H B' H' → SvAt K B' G v s → Q v H') → te σ H Q
/-- the value, read now -/
def Dv (K : PySem.W.Frag) (cl : Kl) (te : TE) (f : Rh → Option PyData) : Prop := ∀ (B F H : Hp) (ul : List V) (σ : St) (tv : List V) (ρ : Rh) (G : List LT) (us : List V) (d : PyData), Rg K cl B F H ul σ tv ρ G us → f ρ = some d →
  ∀ Q : VK, (∀ v B' H', Gw B H B' H' → Dp K H' v d → Q v H') → te σ H Q
/-- a new object of data -/
def Nv (K : PySem.W.Frag) (cl : Kl) (te : TE) (f : Rh → Option (Hd × List PyData)) : Prop := ∀ (B F H : Hp) (ul : List V) (σ : St) (tv : List V) (ρ : Rh) (G : List LT) (us : List V) (h : Hd) (ds : List PyData), Rg K cl B F H ul σ tv ρ G us → f ρ = some (h, ds) →
  ∀ Q : VK, (∀ p vs B' H' o, Gw B H B' H' → H' p = none → h.own = true → OwnO o → Node K cl B' (upd H' p o) p h vs → DpAll K B' vs ds → Q (.ref p) (upd H' p o)) → te σ H Q
def Pa (K : PySem.W.Frag) (cl : Kl) (ta : TA) (f : Rh → Option (List PyData)) : Prop := ∀ (B F H : Hp) (ul : List V) (σ : St) (tv : List V) (ρ : Rh) (G : List LT) (us : List V) (ds : List PyData), Rg K cl B F H ul σ tv ρ G us → f ρ = some ds →
  ∀ Q : List V → Hp → Prop, (∀ vs B' H', Gw B H B' H' → DpAll K B' vs ds → Q vs H') → ta σ H Q
def Da (K : PySem.W.Frag) (cl : Kl) (ta : TA) (f : Rh → Option (List PyData)) : Prop := ∀ (B F H : Hp) (ul : List V) (σ : St) (tv : List V) (ρ : Rh) (G : List LT) (us : List V) (ds : List PyData), Rg K cl B F H ul σ tv ρ G us → f ρ = some ds →
  ∀ Q : List V → Hp → Prop, (∀ vs B' H', Gw B H B' H' → DpAll K H' vs ds → Q vs H') → ta σ H Q
def Pt (K : PySem.W.Frag) (cl : Kl) (t : TT) (f : Rh → Option Bool) : Prop := ∀ (B F H : Hp) (ul : List V) (σ : St) (tv : List V) (ρ : Rh) (G : List LT) (us : List V) (b : Bool), Rg K cl B F H ul σ tv ρ G us → f ρ = some b →
  ∀ Q : Bool → Hp → Prop, (∀ B' H', Gw B H B' H' → Q b H') → t σ H Q
def Po (K : PySem.W.Frag) (cl : Kl) (t : TO) (f : Rh → Option (Option Int)) : Prop := ∀ (B F H : Hp) (ul : List V) (σ : St) (tv : List V) (ρ : Rh) (G : List LT) (us : List V) (o : Option Int), Rg K cl B F H ul σ tv ρ G us → f ρ = some o →
  ∀ Q : Option Int → Hp → Prop, (∀ B' H', Gw B H B' H' → Q o H') → t σ H Q
/-! ### what they come to -/
def vVar (i : Nat) (ρ : Rh) : Option Sv := match ρ.sl[i]? with
  | some (some s) => some s
  | _ => none
def vC (d : PyData) (_ : Rh) : Option Sv := some (.py d)
def vAt (v : V) (_ : Rh) : Option Sv := some (.at v)
def dat (ρ : Rh) : Sv → Option PyData
  | .py d => some d
  | .pt π => match gget ρ.g π with
    | some t => t.data
    | none => none
  | .at _ => none
/-- as data, read now -/
def vD (f : Rh → Option Sv) (ρ : Rh) : Option PyData := match f ρ with
  | some s => dat ρ s
  | none => none
/-- data without lists -/
def vS (f : Rh → Option PyData) (ρ : Rh) : Option Sv := match f ρ with
  | some d => if noList d then some (.py d) else none
  | none => none
def vPy (f : Rh → Option Sv) (ρ : Rh) : Option PyData := match f ρ with
  | some (.py d) => some d
  | _ => none
def d2 (op : PyData → PyData → Option PyData) (f g : Rh → Option PyData) (ρ : Rh) : Option PyData := match f ρ, g ρ with
  | some d, some e => op d e
  | _, _ => none
def dB (op : PyData → PyData → Option Bool) (f g : Rh → Option PyData) (ρ : Rh) : Option Bool := match f ρ, g ρ with
  | some d, some e => op d e
  | _, _ => none
def vB (f : Rh → Option Bool) (ρ : Rh) : Option Sv := match f ρ with
  | some b => some (.py (.bool b))
  | none => none
def bV (f : Rh → Option Sv) (ρ : Rh) : Option Bool := match f ρ with
  | some (.py (.bool b)) => some b
  | _ => none
def child (π : List Nat) (k : Nat) : T → Option Sv
  | .py d => some (.py d)
  | .nd _ _ _ => some (.pt (π ++ [k]))
  | .un _ => none
def kidAt (π : List Nat) (cs : List T) (k : Nat) : Option Sv := match cs[k]? with
  | some c => child π k c
  | none => none
/-- xs[i], xs data that stays or a tree -/
def vIdx (f : Rh → Option Sv) (g : Rh → Option PyData) (ρ : Rh) : Option Sv := match f ρ, g ρ with
  | some (.py d), some e => match idxF d e with
    | some r => some (.py r)
    | none => none
  | some (.pt π), some (.int i) => match gget ρ.g π with
    | some (.nd _ .lst cs) => match ixN cs.length i with
      | some k => kidAt π cs k
      | none => none
    | some (.nd _ .tup cs) => match ixN cs.length i with
      | some k => kidAt π cs k
      | none => none
    | _ => none
  | _, _ => none
/-- d[k], d a tree -/
def vGet (f : Rh → Option Sv) (g : Rh → Option PyData) (ρ : Rh) : Option Sv := match f ρ, g ρ with
  | some (.pt π), some e => match keyF e, gget ρ.g π with
    | some k, some (.nd _ (.dct ks) cs) => match ixK ks k with
      | some i => kidAt π cs i
      | none => none
    | some k, some (.nd _ (.lok ks) cs) => match ixK ks k with
      | some i => kidAt π cs i
      | none => none
    | _, _ => none
  | _, _ => none
/-- o.f, o of the class C -/
def vFld (C : String) (n : Str) (f : Rh → Option Sv) (ρ : Rh) : Option Sv := match f ρ with
  | some (.pt π) => match gget ρ.g π with
    | some (.nd _ (.ins D fs) cs) => if D = C then match ixS fs n with
        | some i => kidAt π cs i
        | none => none
      else none
    | _ => none
  | _ => none
def vLen (f : Rh → Option Sv) (ρ : Rh) : Option Sv := match f ρ with
  | some (.py d) => match lenF d with
    | some n => some (.py (.int n))
    | none => none
  | some (.pt π) => match gget ρ.g π with
    | some (.nd _ .lst cs) => some (.py (.int cs.length))
    | some (.nd _ .tup cs) => some (.py (.int cs.length))
    | _ => none
  | _ => none
def kindS (ρ : Rh) : Sv → Option String
  | .py d => kindF d
  | .pt π => match gget ρ.g π with
    | some (.nd _ .lst _) => some "list"
    | some (.nd _ .tup _) => some "tuple"
    | _ => none
  | .at _ => none
def vIsi (m : String) (f : Rh → Option Sv) (ρ : Rh) : Option Sv := match f ρ with
  | some s => match kindS ρ s with
    | some n => some (.py (.bool (kitF n m)))
    | none => none
  | none => none
def vIsi2 (m1 m2 : String) (f : Rh → Option Sv) (ρ : Rh) : Option Sv := match f ρ with
  | some s => match kindS ρ s with
    | some n => some (.py (.bool (kitF n m1 || kitF n m2)))
    | none => none
  | none => none
def aNil (_ : Rh) : Option (List PyData) := some []
def aCons (f : Rh → Option PyData) (g : Rh → Option (List PyData)) (ρ : Rh) : Option (List PyData) := match f ρ, g ρ with
  | some d, some ds => some (d :: ds)
  | _, _ => none
def vTup (f : Rh → Option (List PyData)) (ρ : Rh) : Option Sv := match f ρ with
  | some ds => if ds.length ≤ 1000 then some (.py (.tuple ds)) else none
  | none => none
def nLst (f : Rh → Option (List PyData)) (ρ : Rh) : Option (Hd × List PyData) := match f ρ with
  | some ds => if ds.length ≤ 1000 then some (.lst, ds) else none
  | none => none
/-- a new list that nobody changes: data -/
def vFz (f : Rh → Option (Hd × List PyData)) (ρ : Rh) : Option Sv := match f ρ with
  | some (.lst, ds) => some (.py (.list ds))
  | _ => none
def bAnd (f g : Rh → Option Bool) (ρ : Rh) : Option Bool := match f ρ with
  | some true => g ρ
  | some false => some false
  | none => none
def bOr (f g : Rh → Option Bool) (ρ : Rh) : Option Bool := match f ρ with
  | some true => some true
  | some false => g ρ
  | none => none
def bNot (f : Rh → Option Bool) (ρ : Rh) : Option Bool := match f ρ with
  | some b => some (!b)
  | none => none
def vIf (c : Rh → Option Bool) (f g : Rh → Option Sv) (ρ : Rh) : Option Sv := match c ρ with
  | some true => f ρ
  | some false => g ρ
  | none => none
def oNo (_ : Rh) : Option (Option Int) := some none
def oI (f : Rh → Option PyData) (ρ : Rh) : Option (Option Int) := match f ρ with
  | some (.int i) => some (some i)
  | _ => none
def cutF {α : Type} (ds : List α) (lo hi : Option Int) : List α := (ds.drop (HT.sIx ds.length 0 lo)).take (HT.sIx ds.length ds.length hi - HT.sIx ds.length 0 lo)
/-- z[a:b], t[a:b], data that stays -/
def vSlc (f : Rh → Option Sv) (g h : Rh → Option (Option Int)) (ρ : Rh) : Option Sv := match f ρ, g ρ, h ρ with
  | some (.py (.str z)), some lo, some hi => if z.length ≤ 16777216 then some (.py (.str (cutS z lo hi))) else none
  | some (.py (.tuple ds)), some lo, some hi => some (.py (.tuple (cutF ds lo hi)))
  | _, _, _ => none
def nSlc (f : Rh → Option Sv) (g h : Rh → Option (Option Int)) (ρ : Rh) : Option (Hd × List PyData) := match f ρ, g ρ, h ρ with
  | some (.py (.list ds)), some lo, some hi => some (.lst, cutF ds lo hi)
  | _, _, _ => none
/-! ### why -/
section
variable {K : PySem.W.Frag} {te ta tb tc tk : TE} {tr : TA} {f g h : Rh → Option Sv} {df dg dh : Rh → Option PyData} {bf bg : Rh → Option Bool} {t u : TT} {nf : Rh → Option (Hd × List PyData)} {af : Rh → Option (List PyData)}
theorem pv_var (i : Nat) : Pv K cl (tVar i) (vVar i) := fun B F H ul σ tv ρ G us s r e Q q => by
  unfold vVar at e
  split at e
  · rename_i s' h1
    cases e
    obtain ⟨v, h2, h3⟩ := r.sl.has i _ h1
    exact ⟨v, h2, q v B H (Gw.refl r.rl.exB) h3⟩
  · cases e
theorem pv_c {v : V} {d : PyData} (h : ∀ B : Hp, Dp K B v d) : Pv K cl (tC v) (vC d) := fun B F H ul σ tv ρ G us s r e Q q => by
  cases e; exact q v B H (Gw.refl r.rl.exB) (h B)
theorem pv_int (i : Int) : Pv K cl (tC (.int i)) (vC (.int i)) := pv_c fun _ => .int i
theorem pv_str (x : Str) : Pv K cl (tC (.str x)) (vC (.str x)) := pv_c fun _ => .str x
theorem pv_bl (b : Bool) : Pv K cl (tC (.bl b)) (vC (.bool b)) := pv_c fun _ => .bl b
theorem pv_non : Pv K cl (tC .non) (vC .none) := pv_c fun _ => .non
theorem pv_at (v : V) : Pv K cl (tC v) (vAt v) := fun B F H ul σ tv ρ G us s r e Q q => by
  cases e; exact q v B H (Gw.refl r.rl.exB) rfl
theorem pv_ext {te : TE} {f g : Rh → Option Sv} (h : Pv K cl te f) (e : ∀ ρ, g ρ = f ρ) : Pv K cl te g := fun B F H ul σ tv ρ G us s r z => h B F H ul σ tv ρ G us s r (by rw [← e]; exact z)
theorem dat_of {B F H : Hp} {ul tv us : List V} {σ : St} {ρ : Rh} {G : List LT} {s : Sv} {v : V} {d : PyData} (r : Rg K cl B F H ul σ tv ρ G us) (h : SvAt K B G v s) (e : dat ρ s = some d) : Dp K H v d := by
  cases s with
  | py x => simp only [dat, Option.some.injEq] at e; subst e; exact r.rl.up h
  | «at» x => cases e
  | pt π =>
    simp only [dat] at e
    cases et : gget ρ.g π with
    | none => rw [et] at e; cases e
    | some t =>
      rw [et] at e
      obtain ⟨u, h1, rfl⟩ := r.get et
      simp only [data_er] at e
      have h : pv G π = some v := h
      unfold pv at h
      rw [h1] at h
      exact r.rl.data h1 h e
theorem dv_of (hf : Pv K cl te f) : Dv K cl te (vD f) := fun B F H ul σ tv ρ G us d r e Q q => by
  unfold vD at e
  split at e
  · rename_i s h1
    exact hf B F H ul σ tv ρ G us s r h1 Q fun v B' H' w hs => q v B' H' w (dat_of (r.grow w) hs e)
  · cases e
theorem dv_py (hf : Pv K cl te f) : Dv K cl te (vPy f) := fun B F H ul σ tv ρ G us d r e Q q => by
  unfold vPy at e
  split at e
  · rename_i d' h1
    cases e
    exact hf B F H ul σ tv ρ G us _ r h1 Q fun v B' H' w hs => q v B' H' w ((r.grow w).rl.up hs)
  · cases e
theorem pv_s (hf : Dv K cl te df) : Pv K cl te (vS df) := fun B F H ul σ tv ρ G us s r e Q q => by
  unfold vS at e
  split at e
  · rename_i d h1
    split at e
    · rename_i n
      cases e
      exact hf B F H ul σ tv ρ G us d r h1 Q fun v B' H' w hd => q v B' H' w ((r.grow w).rl.down n hd)
    · cases e
  · cases e
theorem dv_bin {op : Operator} {o : PyData → PyData → Option PyData} (ho : IsBin op o) (ha : Dv K cl ta df) (hb : Dv K cl tb dg) : Dv K cl (tOp (rBin K op) ta tb) (d2 o df dg) := fun B F H ul σ tv ρ G us r0 r e Q q => by
  unfold d2 at e
  split at e
  · rename_i d e' h1 h2
    refine ha B F H ul σ tv ρ G us d r h1 _ fun x B1 H1 w1 hx => hb B1 F H1 ul σ tv ρ G us e' (r.grow w1) h2 _ fun y B2 H2 w2 hy => ?_
    have r2 := (r.grow w1).grow w2
    refine ⟨d, e', r0, Dp.mono w2.h d x hx, hy, ho _ _ _ e, fun v H' e3 hv => ?_⟩
    -- what is new stays
    let B3 : Hp := fun q => if (H2 q).isNone then H' q else B2 q
    have w3 : Gw B2 H2 B3 H' := by
      refine ⟨fun q o h => ?_, e3, fun q o h => ?_, fun q h1 h2 => ?_, fun q o h1 h2 => ?_⟩
      · show (if (H2 q).isNone then H' q else B2 q) = some o
        rw [w2.exB q o h]
        exact h
      · have h : (if (H2 q).isNone then H' q else B2 q) = some o := h
        split at h
        · exact h
        · exact e3 q o (w2.exB q o h)
      · show (if (H2 q).isNone then H' q else B2 q) = none
        rw [if_neg (by cases z : H2 q with
          | none => exact absurd z h1
          | some => simp)]
        exact h2
      · have h2 : (if (H2 q).isNone then H' q else B2 q) = none := h2
        split at h2
        · rw [h2] at h1; cases h1
        · rename_i c
          cases z : H2 q with
          | none => rw [z] at c; simp at c
          | some u =>
            have := e3 q u z
            rw [this] at h1; cases h1
            exact .inl rfl
    exact q v B3 H' ((w1.trans w2).trans w3) hv
  · cases e
theorem pt_cmp {op : CmpOp} {o : PyData → PyData → Option Bool} (ho : IsCmp op o) (ha : Dv K cl ta df) (hb : Dv K cl tb dg) : Pt K cl (tTest (tOp (rCmp K op) ta tb)) (dB o df dg) := fun B F H ul σ tv ρ G us b r e Q q => by
  unfold dB at e
  split at e
  · rename_i d e' h1 h2
    refine ha B F H ul σ tv ρ G us d r h1 _ fun x B1 H1 w1 hx => hb B1 F H1 ul σ tv ρ G us e' (r.grow w1) h2 _ fun y B2 H2 w2 hy => ?_
    exact ⟨d, e', b, Dp.mono w2.h d x hx, hy, ho _ _ _ e, b, rfl, q B2 H2 (w1.trans w2)⟩
  · cases e
theorem pv_cmp {op : CmpOp} {o : PyData → PyData → Option Bool} (ho : IsCmp op o) (ha : Dv K cl ta df) (hb : Dv K cl tb dg) : Pv K cl (tOp (rCmp K op) ta tb) (vB (dB o df dg)) := fun B F H ul σ tv ρ G us s r e Q q => by
  unfold vB dB at e
  split at e
  · rename_i b h0
    cases e
    split at h0
    · rename_i d e' h1 h2
      refine ha B F H ul σ tv ρ G us d r h1 _ fun x B1 H1 w1 hx => hb B1 F H1 ul σ tv ρ G us e' (r.grow w1) h2 _ fun y B2 H2 w2 hy => ?_
      exact ⟨d, e', b, Dp.mono w2.h d x hx, hy, ho _ _ _ h0, q _ B2 H2 (w1.trans w2) (.bl b)⟩
    · cases h0
  · cases e
/-- a <= b <= c -/
theorem pv_chain {op op' : CmpOp} {o o' : PyData → PyData → Option Bool} (ho : IsCmp op o) (ho' : IsCmp op' o') (ha : Dv K cl ta df) (hb : Dv K cl tb dg) (hc : Dv K cl tc dh) : Pv K cl (tChain (rCmp K op) (rCmp K op') ta tb tc) (vB (bAnd (dB o df dg) (dB o' dg dh))) := fun B F H ul σ tv ρ G us s r e Q q => by
  unfold vB at e
  split at e
  · rename_i b h0
    cases e
    unfold bAnd at h0
    have key : ∀ b1, dB o df dg ρ = some b1 → (b1 = false → b = false) → (b1 = true → dB o' dg dh ρ = some b) → tChain (rCmp K op) (rCmp K op') ta tb tc σ H Q := by
      intro b1 z k1 k2
      unfold dB at z
      split at z
      · rename_i d e' h1 h2
        refine ha B F H ul σ tv ρ G us d r h1 _ fun x B1 H1 w1 hx => hb B1 F H1 ul σ tv ρ G us e' (r.grow w1) h2 _ fun y B2 H2 w2 hy => ?_
        refine ⟨d, e', b1, Dp.mono w2.h d x hx, hy, ho _ _ _ z, b1, rfl, ?_⟩
        cases b1 with
        | false =>
          rw [k1 rfl] at q
          exact iteF (q _ B2 H2 (w1.trans w2) (.bl false))
        | true =>
          have z2 := k2 rfl
          unfold dB at z2
          rw [h2] at z2
          cases h3 : dh ρ with
          | none => rw [h3] at z2; cases z2
          | some f' =>
            rw [h3] at z2
            refine iteT (hc B2 F H2 ul σ tv ρ G us f' ((r.grow w1).grow w2) h3 _ fun w B3 H3 w3 hw => ?_)
            exact ⟨e', f', b, Dp.mono w3.h _ y hy, hw, ho' _ _ _ z2, q _ B3 H3 ((w1.trans w2).trans w3) (.bl b)⟩
      · cases z
    split at h0
    · rename_i z
      exact key true z (fun x => nomatch x) fun _ => h0
    · rename_i z
      cases h0
      exact key false z (fun _ => rfl) fun x => nomatch x
    · cases h0
  · cases e
theorem pt_test (ha : Pv K cl te f) : Pt K cl (tTest te) (bV f) := fun B F H ul σ tv ρ G us b r e Q q => by
  unfold bV at e
  split at e
  · rename_i b' h1
    cases e
    refine ha B F H ul σ tv ρ G us _ r h1 _ fun v B' H' w hv => ?_
    have hv : Dp K B' v (.bool b) := hv
    cases hv
    exact ⟨b, rfl, q B' H' w⟩
  · cases e
theorem pt_val (ha : Pv K cl te f) : Pt K cl (tB te) (bV f) := fun B F H ul σ tv ρ G us b r e Q q => by
  unfold bV at e
  split at e
  · rename_i b' h1
    cases e
    refine ha B F H ul σ tv ρ G us _ r h1 _ fun v B' H' w hv => ?_
    have hv : Dp K B' v (.bool b) := hv
    cases hv
    exact ⟨b, rfl, q B' H' w⟩
  · cases e
theorem pt_and (ha : Pt K cl t bf) (hb : Pt K cl u bg) : Pt K cl (tAnd t u) (bAnd bf bg) := fun B F H ul σ tv ρ G us b r e Q q => by
  unfold bAnd at e
  split at e
  · rename_i h1
    exact ha B F H ul σ tv ρ G us true r h1 _ fun B1 H1 w1 => iteT (hb B1 F H1 ul σ tv ρ G us b (r.grow w1) e _ fun B2 H2 w2 => q B2 H2 (w1.trans w2))
  · rename_i h1
    cases e
    exact ha B F H ul σ tv ρ G us false r h1 _ fun B1 H1 w1 => iteF (q B1 H1 w1)
  · cases e
theorem pt_or (ha : Pt K cl t bf) (hb : Pt K cl u bg) : Pt K cl (tOr t u) (bOr bf bg) := fun B F H ul σ tv ρ G us b r e Q q => by
  unfold bOr at e
  split at e
  · rename_i h1
    cases e
    exact ha B F H ul σ tv ρ G us true r h1 _ fun B1 H1 w1 => iteT (q B1 H1 w1)
  · rename_i h1
    exact ha B F H ul σ tv ρ G us false r h1 _ fun B1 H1 w1 => iteF (hb B1 F H1 ul σ tv ρ G us b (r.grow w1) e _ fun B2 H2 w2 => q B2 H2 (w1.trans w2))
  · cases e
theorem pt_not (ha : Pt K cl t bf) : Pt K cl (tNot t) (bNot bf) := fun B F H ul σ tv ρ G us b r e Q q => by
  unfold bNot at e
  split at e
  · rename_i b' h1
    cases e
    exact ha B F H ul σ tv ρ G us b' r h1 _ fun B1 H1 w1 => q B1 H1 w1
  · cases e
theorem pv_and (ha : Pv K cl ta f) (hb : Pv K cl tb g) : Pv K cl (tAndV ta tb) (vB (bAnd (bV f) (bV g))) := fun B F H ul σ tv ρ G us s r e Q q => by
  unfold vB at e
  split at e
  · rename_i b h0
    cases e
    unfold bAnd at h0
    have key : ∀ b1, bV f ρ = some b1 → (b1 = false → b = false) → (b1 = true → bV g ρ = some b) → tAndV ta tb σ H Q := by
      intro b1 z k1 k2
      unfold bV at z
      split at z
      · rename_i b' h1
        cases z
        refine ha B F H ul σ tv ρ G us _ r h1 _ fun v B' H' w hv => ?_
        have hv : Dp K B' v (.bool b1) := hv
        cases hv
        refine ⟨b1, rfl, ?_⟩
        cases b1 with
        | false => rw [k1 rfl] at q; exact iteF (q _ B' H' w (.bl false))
        | true =>
          have z2 := k2 rfl
          unfold bV at z2
          split at z2
          · rename_i h2
            cases z2
            exact iteT (hb B' F H' ul σ tv ρ G us _ (r.grow w) h2 _ fun v B2 H2 w2 hv => q v B2 H2 (w.trans w2) hv)
          · cases z2
      · cases z
    split at h0
    · rename_i z
      exact key true z (fun x => nomatch x) fun _ => h0
    · rename_i z
      cases h0
      exact key false z (fun _ => rfl) fun x => nomatch x
    · cases h0
  · cases e
theorem pv_or (ha : Pv K cl ta f) (hb : Pv K cl tb g) : Pv K cl (tOrV ta tb) (vB (bOr (bV f) (bV g))) := fun B F H ul σ tv ρ G us s r e Q q => by
  unfold vB at e
  split at e
  · rename_i b h0
    cases e
    unfold bOr at h0
    have key : ∀ b1, bV f ρ = some b1 → (b1 = true → b = true) → (b1 = false → bV g ρ = some b) → tOrV ta tb σ H Q := by
      intro b1 z k1 k2
      unfold bV at z
      split at z
      · rename_i b' h1
        cases z
        refine ha B F H ul σ tv ρ G us _ r h1 _ fun v B' H' w hv => ?_
        have hv : Dp K B' v (.bool b1) := hv
        cases hv
        refine ⟨b1, rfl, ?_⟩
        cases b1 with
        | true => rw [k1 rfl] at q; exact iteT (q _ B' H' w (.bl true))
        | false =>
          have z2 := k2 rfl
          unfold bV at z2
          split at z2
          · rename_i h2
            cases z2
            exact iteF (hb B' F H' ul σ tv ρ G us _ (r.grow w) h2 _ fun v B2 H2 w2 hv => q v B2 H2 (w.trans w2) hv)
          · cases z2
      · cases z
    split at h0
    · rename_i z
      cases h0
      exact key true z (fun _ => rfl) fun x => nomatch x
    · rename_i z
      exact key false z (fun x => nomatch x) fun _ => h0
    · cases h0
  · cases e
theorem pv_not (ha : Pv K cl ta f) : Pv K cl (tNotV ta) (vB (bNot (bV f))) := fun B F H ul σ tv ρ G us s r e Q q => by
  unfold vB bNot bV at e
  split at e
  · rename_i b h0
    cases e
    split at h0
    · rename_i b' h1
      cases h0
      split at h1
      · rename_i h2
        cases h1
        refine ha B F H ul σ tv ρ G us _ r h2 _ fun v B' H' w hv => ?_
        have hv : Dp K B' v (.bool b') := hv
        cases hv
        exact ⟨b', rfl, q _ B' H' w (.bl _)⟩
      · cases h1
    · cases h0
  · cases e
theorem pv_if (hc : Pt K cl t bf) (ha : Pv K cl ta f) (hb : Pv K cl tb g) : Pv K cl (tIf t ta tb) (vIf bf f g) := fun B F H ul σ tv ρ G us s r e Q q => by
  unfold vIf at e
  split at e
  · rename_i h1
    exact hc B F H ul σ tv ρ G us true r h1 _ fun B1 H1 w1 => iteT (ha B1 F H1 ul σ tv ρ G us s (r.grow w1) e _ fun v B2 H2 w2 => q v B2 H2 (w1.trans w2))
  · rename_i h1
    exact hc B F H ul σ tv ρ G us false r h1 _ fun B1 H1 w1 => iteF (hb B1 F H1 ul σ tv ρ G us s (r.grow w1) e _ fun v B2 H2 w2 => q v B2 H2 (w1.trans w2))
  · cases e
def negF : PyData → Option PyData
  | .int i => some (.int (-i))
  | _ => none
def dNeg (f : Rh → Option PyData) (ρ : Rh) : Option PyData := match f ρ with
  | some d => negF d
  | none => none
theorem dv_neg (ha : Dv K cl ta df) : Dv K cl (tUn (rU fun i => .int (-i)) ta) (dNeg df) := fun B F H ul σ tv ρ G us d r e Q q => by
  unfold dNeg at e
  split at e
  · rename_i d' h1
    unfold negF at e
    split at e
    · cases e
      refine ha B F H ul σ tv ρ G us _ r h1 _ fun v B' H' w hv => ?_
      cases hv
      exact ⟨_, rfl, q _ B' H' w (.int _)⟩
    · cases e
  · cases e
/-! a part of a tree -/
theorem kid_of {B F H : Hp} {ul tv us : List V} {σ : St} {ρ : Rh} {G : List LT} {π : List Nat} {p : Addr} {h : Hd} {cs : List LT} {vs : List V} {k : Nat} {s : Sv} (r : Rg K cl B F H ul σ tv ρ G us) (e : gget G π = some (.nd p h cs)) (hc : LtAll K cl B H vs cs) (z : kidAt π (erAll cs) k = some s) :
    ∃ v, vs[k]? = some v ∧ SvAt K B G v s := by
  unfold kidAt at z
  rw [erAll_map, List.getElem?_map] at z
  cases ec : cs[k]? with
  | none => rw [ec] at z; cases z
  | some c =>
    rw [ec] at z
    obtain ⟨v, h1, h2⟩ := hc.get ec
    refine ⟨v, h1, ?_⟩
    cases c with
    | un b => cases z
    | py d => cases z; cases h2 with | py h => exact h
    | nd p' h' cs' =>
      cases z
      cases h2
      show pv G (π ++ [k]) = _
      unfold pv
      rw [gget_app e]
      simp only [TL.get, ec]
      rfl
theorem atI_of {α : Type} {xs : List α} {i : Int} {k : Nat} {v : α} (h : ixN xs.length i = some k) (hv : xs[k]? = some v) : atI xs i = some v := by
  unfold atI; rw [h]; exact hv
theorem pv_idx (ha : Pv K cl ta f) (hb : Dv K cl tb dg) : Pv K cl (tOp (rIx K) ta tb) (vIdx f dg) := fun B F H ul σ tv ρ G us s r e Q q => by
  unfold vIdx at e
  split at e
  · rename_i d e' h1 h2
    split at e
    · rename_i r' hr
      cases e
      refine ha B F H ul σ tv ρ G us _ r h1 _ fun x B1 H1 w1 hx => hb B1 F H1 ul σ tv ρ G us e' (r.grow w1) h2 _ fun y B2 H2 w2 hy => ?_
      have hx : Dp K B1 x d := hx
      have r2 := (r.grow w1).grow w2
      have i1 := isIdx hr
      cases i1 with
      | lst ds i r hh =>
        cases hy
        cases hx with
        | lst s1 a1 =>
          obtain ⟨v, h3, h4⟩ := DpAll.atI a1 hh
          exact .inl ⟨_, _, i, v, rfl, rfl, Evl.ex_l (w2.b.trans r2.rl.exB) s1, h3, q v B2 H2 (w1.trans w2) (Dp.mono w2.b _ _ h4)⟩
      | tup ds i r hh =>
        cases hy
        cases hx with
        | tup s1 a1 =>
          obtain ⟨v, h3, h4⟩ := DpAll.atI a1 hh
          exact .inr (.inl ⟨_, _, i, v, rfl, rfl, Evl.ex_t (w2.b.trans r2.rl.exB) s1, h3, q v B2 H2 (w1.trans w2) (Dp.mono w2.b _ _ h4)⟩)
      | str z i c hh =>
        cases hy
        cases hx
        exact .inr (.inr ⟨z, i, c, rfl, rfl, hh.1, hh.2, q _ B2 H2 (w1.trans w2) (.str _)⟩)
    · cases e
  · rename_i π i h1 h2
    refine ha B F H ul σ tv ρ G us _ r h1 _ fun x B1 H1 w1 hx => hb B1 F H1 ul σ tv ρ G us _ (r.grow w1) h2 _ fun y B2 H2 w2 hy => ?_
    have hx : pv G π = some x := hx
    cases hy
    have r2 := (r.grow w1).grow w2
    split at e
    · rename_i cs hg
      obtain ⟨u, g1, g2⟩ := r.get hg
      cases u with
      | un => cases g2
      | py => cases g2
      | nd p hd cs' =>
        simp only [TL.er, TL.nd.injEq] at g2
        obtain ⟨_, rfl, rfl⟩ := g2
        unfold pv at hx
        rw [g1] at hx
        cases hx
        obtain ⟨vs, hn, hc⟩ := r2.rl.node g1
        split at e
        · rename_i k hk
          obtain ⟨v, h3, h4⟩ := kid_of r2 g1 hc e
          have hl : vs.length = (erAll cs').length := by rw [hc.length, erAll_map, List.length_map]
          exact .inl ⟨p, vs, i, v, rfl, rfl, SqL.of hn.2, atI_of (by rw [hl]; exact hk) h3, q v B2 H2 (w1.trans w2) h4⟩
        · cases e
    · rename_i cs hg
      obtain ⟨u, g1, g2⟩ := r.get hg
      cases u with
      | un => cases g2
      | py => cases g2
      | nd p hd cs' =>
        simp only [TL.er, TL.nd.injEq] at g2
        obtain ⟨_, rfl, rfl⟩ := g2
        unfold pv at hx
        rw [g1] at hx
        cases hx
        obtain ⟨vs, hn, hc⟩ := r2.rl.node g1
        split at e
        · rename_i k hk
          obtain ⟨v, h3, h4⟩ := kid_of r2 g1 hc e
          have hl : vs.length = (erAll cs').length := by rw [hc.length, erAll_map, List.length_map]
          exact .inr (.inl ⟨p, vs, i, v, rfl, rfl, Evl.ex_t r2.rl.exB hn, atI_of (by rw [hl]; exact hk) h3, q v B2 H2 (w1.trans w2) h4⟩)
        · cases e
    · cases e
  · cases e
end
end Fx

/-! More expressions that change nothing. -/
namespace Fx
open PySem L2
open Evl (Ex)
variable {cl : Kl}
theorem look_zip : ∀ {fs : List Str} {vs : List V} {f : Str} {i : Nat} {v : V}, ixS fs f = some i → vs[i]? = some v → (fs.zip vs).lookup f = some v
  | [], _, _, _, _, h, _ => by simp [ixS] at h
  | g :: r, [], _, _, _, h, e => by simp at e
  | g :: r, x :: vs, f, i, v, h, e => by
    unfold ixS at h
    split at h
    · rename_i z
      subst z
      cases h
      simp at e
      simp [e]
    · rename_i z
      cases h1 : ixS r f with
      | none => rw [h1] at h; simp at h
      | some j =>
        rw [h1] at h
        simp at h
        subst h
        have := look_zip (vs := vs) h1 (by simpa using e)
        have n : (f == g) = false := by simp; exact fun z' => z z'.symm
        simp [List.lookup, n, this]
theorem val_zip {κ : Type} [DecidableEq κ] : ∀ {ks : List κ} {vs : List V} {k : κ} {i : Nat} {v : V}, ixK ks k = some i → vs[i]? = some v → valV (ks.zip vs) k = some v
  | [], _, _, _, _, h, _ => by simp [ixK] at h
  | g :: r, [], _, _, _, h, e => by simp at e
  | g :: r, x :: vs, k, i, v, h, e => by
    unfold ixK at h
    split at h
    · rename_i z
      subst z
      cases h
      simp at e
      simp [valV, e]
    · rename_i z
      cases h1 : ixK r k with
      | none => rw [h1] at h; simp at h
      | some j =>
        rw [h1] at h
        simp at h
        subst h
        have := val_zip (vs := vs) h1 (by simpa using e)
        unfold valV at this ⊢
        simp only [List.zip_cons_cons]
        rw [List.find?_cons_of_neg (by simpa using z)]
        exact this
theorem val_none {κ : Type} [DecidableEq κ] : ∀ {ks : List κ} {vs : List V} {k : κ}, ixK ks k = none → valV (ks.zip vs) k = none
  | [], _, _, h => rfl
  | g :: r, [], _, h => rfl
  | g :: r, x :: vs, k, h => by
    unfold ixK at h
    split at h
    · cases h
    · rename_i z
      have h1 : ixK r k = none := by
        cases h1 : ixK r k with
        | none => rfl
        | some j => rw [h1] at h; simp at h
      have := val_none (vs := vs) h1
      unfold valV at this ⊢
      simp only [List.zip_cons_cons]
      rw [List.find?_cons_of_neg (by simpa using z)]
      exact this
section
variable {K : PySem.W.Frag} {te ta tb tc tk : TE} {tr : TA} {f g h : Rh → Option Sv} {df dg dh : Rh → Option PyData} {bf bg : Rh → Option Bool} {t u : TT} {nf : Rh → Option (Hd × List PyData)} {af : Rh → Option (List PyData)} {tl th : TO} {fl fh : Rh → Option (Option Int)}
theorem node_of {B F H : Hp} {ul tv us : List V} {σ : St} {ρ : Rh} {G : List LT} {π : List Nat} {hd : Hd} {cs : List T} {x : V} (r : Rg K cl B F H ul σ tv ρ G us) (e : gget ρ.g π = some (.nd () hd cs)) (hx : pv G π = some x) :
    ∃ p cs', gget G π = some (.nd p hd cs') ∧ cs = erAll cs' ∧ x = .ref p := by
  obtain ⟨u, g1, g2⟩ := r.get e
  cases u with
  | un => cases g2
  | py => cases g2
  | nd p hd' cs' =>
    simp only [TL.er, TL.nd.injEq] at g2
    obtain ⟨_, rfl, rfl⟩ := g2
    unfold pv at hx
    rw [g1] at hx
    cases hx
    exact ⟨p, cs', g1, rfl, rfl⟩
theorem pv_get (ha : Pv K cl ta f) (hb : Dv K cl tb dg) : Pv K cl (tDGet ta tb) (vGet f dg) := fun B F H ul σ tv ρ G us s r e Q q => by
  unfold vGet at e
  split at e
  · rename_i π e' h1 h2
    refine ha B F H ul σ tv ρ G us _ r h1 _ fun x B1 H1 w1 hx => hb B1 F H1 ul σ tv ρ G us _ (r.grow w1) h2 _ fun y B2 H2 w2 hy => ?_
    have hx : pv G π = some x := hx
    have r2 := (r.grow w1).grow w2
    split at e
    · rename_i k _ ks cs hk hg
      obtain ⟨p, cs', g1, rfl, rfl⟩ := node_of r hg hx
      obtain ⟨vs, hn, hc⟩ := r2.rl.node g1
      have := key_val hk hy
      subst this
      split at e
      · rename_i i hi
        obtain ⟨v, h3, h4⟩ := kid_of r2 g1 hc e
        have hd : DGet H2 p (kV k) (valV (ks.zip vs) k) := DGet.k hn.2.2.2
        rw [val_zip hi h3] at hd
        exact ⟨p, v, rfl, hd, q v B2 H2 (w1.trans w2) h4⟩
      · cases e
    · rename_i k _ ks cs hk hg
      obtain ⟨p, cs', g1, rfl, rfl⟩ := node_of r hg hx
      obtain ⟨vs, hn, hc⟩ := r2.rl.node g1
      have := key_val hk hy
      subst this
      obtain ⟨_, _, _, od, ho⟩ := hn
      split at e
      · rename_i i hi
        obtain ⟨v, h3, h4⟩ := kid_of r2 g1 hc e
        have hd : DGet H2 p (kV k) (valV (ks.zip vs) k) := .inl ⟨_, k, .inr ⟨od, ho⟩, rfl, rfl⟩
        rw [val_zip hi h3] at hd
        exact ⟨p, v, rfl, hd, q v B2 H2 (w1.trans w2) h4⟩
      · cases e
    · cases e
  · cases e
theorem pv_fld {C : String} {n : Str} (hC : Cls K (cl C)) (hA : NoAttr K (cl C) n) (ha : Pv K cl ta f) : Pv K cl (tFld K ta n) (vFld C n f) := fun B F H ul σ tv ρ G us s r e Q q => by
  unfold vFld at e
  split at e
  · rename_i π h1
    refine ha B F H ul σ tv ρ G us _ r h1 _ fun x B1 H1 w1 hx => ?_
    have hx : pv G π = some x := hx
    have r1 := r.grow w1
    split at e
    · rename_i D fs cs hg
      obtain ⟨p, cs', g1, rfl, rfl⟩ := node_of r hg hx
      split at e
      · rename_i eD
        subst eD
        obtain ⟨vs, hn, hc⟩ := r1.rl.node g1
        obtain ⟨_, hl, dx, hh⟩ := hn
        split at e
        · rename_i i hi
          obtain ⟨v, h3, h4⟩ := kid_of r1 g1 hc e
          exact ⟨p, cl D, dx, _, v, rfl, hh, hC, hA, look_zip hi h3, q v B1 H1 w1 h4⟩
        · cases e
      · cases e
    · cases e
  · cases e
/-- len of what is a tree -/
def rLenN (K : PySem.W.Frag) : List V → Hp → VK → Prop := fun xs H Q => rLen K xs H Q ∨ ∃ a ys, xs = [.ref a] ∧ (SqL K H a ys ∨ SqT K H a ys) ∧ Q (.int ys.length) H
theorem lenN_ {X : Cx} (K : PySem.W.Frag) (h : X.K = K := by rfl) : CallR X (.builtin "len") (rLenN K) := by
  subst h
  intro pins s σ H xs us Q I r h
  rcases h with h | ⟨a, ys, rfl, h, q⟩
  · exact call_lenU pins s σ H xs us Q I r h
  · exact call_len_seq pins s σ H _ us Q I r ⟨a, ys, rfl, h, q⟩
theorem pv_len (ha : Pv K cl ta f) : Pv K cl (tCB (rLenN K) (tCons ta tNil)) (vLen f) := fun B F H ul σ tv ρ G us s r e Q q => by
  unfold vLen at e
  split at e
  · rename_i d h1
    split at e
    · rename_i n hn
      cases e
      exact ha B F H ul σ tv ρ G us _ r h1 _ fun x B1 H1 w1 hx => .inl ⟨x, d, n, rfl, (r.grow w1).rl.up hx, isLen hn, q _ B1 H1 w1 (.int n)⟩
    · cases e
  · rename_i π h1
    refine ha B F H ul σ tv ρ G us _ r h1 _ fun x B1 H1 w1 hx => ?_
    have hx : pv G π = some x := hx
    have r1 := r.grow w1
    split at e
    · rename_i cs hg
      obtain ⟨p, cs', g1, rfl, rfl⟩ := node_of r hg hx
      obtain ⟨vs, hn, hc⟩ := r1.rl.node g1
      cases e
      have hl : vs.length = (erAll cs').length := by rw [hc.length, erAll_map, List.length_map]
      exact .inr ⟨p, vs, rfl, .inl (SqL.of hn.2), by rw [hl]; exact q _ B1 H1 w1 (.int _)⟩
    · rename_i cs hg
      obtain ⟨p, cs', g1, rfl, rfl⟩ := node_of r hg hx
      obtain ⟨vs, hn, hc⟩ := r1.rl.node g1
      cases e
      have hl : vs.length = (erAll cs').length := by rw [hc.length, erAll_map, List.length_map]
      exact .inr ⟨p, vs, rfl, .inr (Evl.ex_t r1.rl.exB hn), by rw [hl]; exact q _ B1 H1 w1 (.int _)⟩
    · cases e
  · cases e
/-! isinstance -/
def rIsiN (K : PySem.W.Frag) : List V → Hp → VK → Prop := fun xs H Q => ∃ x n m b, xs = [x, .ty m] ∧ TyX K H x (.type n) ∧ kitB n m = some b ∧ Q (.bl b) H
theorem isiN_ {X : Cx} (K : PySem.W.Frag) (h : X.K = K := by rfl) : CallR X (.builtin "isinstance") (rIsiN K) := by
  subst h
  intro pins s σ H xs us Q I r h
  obtain ⟨x, n, m, b, rfl, k, e, q⟩ := h
  exact call_isi pins s σ H _ us Q I r ⟨x, _, _, _, b, rfl, .ty m, k, kit_ty e, q⟩
def rIsiN2 (K : PySem.W.Frag) : List V → Hp → VK → Prop := fun xs H Q => ∃ x n tp m1 m2 b1 b2, xs = [x, .ref tp] ∧ H tp = some (.tup [.ty m1, .ty m2]) ∧ TyX K H x (.type n) ∧ kitB n m1 = some b1 ∧ kitB n m2 = some b2 ∧ Q (.bl (b1 || b2)) H
theorem isiN2_ {X : Cx} (K : PySem.W.Frag) (h : X.K = K := by rfl) : CallR X (.builtin "isinstance") (rIsiN2 K) := by
  subst h
  intro pins s σ H xs us Q I r h
  obtain ⟨x, n, tp, m1, m2, b1, b2, rfl, ht, k, e1, e2, q⟩ := h
  refine call_isiT pins s σ H _ us Q I r ⟨x, tp, _, _, _, b1 || b2, rfl, ht, .cons (.ty m1) (.cons (.ty m2) .nil), k, ?_, q⟩
  refine kitAny_cons (b := b1) (kit_ty e1) (fun h1 => ?_) (fun h1 => by rw [h1]; rfl)
  refine kitAny_cons (b := b2) (kit_ty e2) (fun h2 => ?_) (fun h2 => by rw [h2, h1]; rfl)
  rw [h1, h2]
  rfl
theorem kind_of {B F H : Hp} {ul tv us : List V} {σ : St} {ρ : Rh} {G : List LT} {s : Sv} {v : V} {n : String} (r : Rg K cl B F H ul σ tv ρ G us) (h : SvAt K B G v s) (e : kindS ρ s = some n) : TyX K H v (.type n) ∧ n ∈ ["NoneType", "bool", "int", "str", "list", "tuple", "dict"] := by
  cases s with
  | py d => exact ⟨(isKind e).ty (r.rl.up h), kind_mem e⟩
  | «at» x => cases e
  | pt π =>
    have h : pv G π = some v := h
    simp only [kindS] at e
    split at e
    · rename_i cs hg
      cases e
      obtain ⟨p, cs', g1, rfl, rfl⟩ := node_of r hg h
      obtain ⟨vs, hn, hc⟩ := r.rl.node g1
      exact ⟨.base (.lst hn.2), by simp⟩
    · rename_i cs hg
      cases e
      obtain ⟨p, cs', g1, rfl, rfl⟩ := node_of r hg h
      obtain ⟨vs, hn, hc⟩ := r.rl.node g1
      refine ⟨?_, by simp⟩
      rcases Evl.ex_t r.rl.exB hn with (h | ⟨o, h⟩) | ⟨o, its, n, h, c, _⟩
      · exact .base (.tup h)
      · exact .fTuple h
      · exact .kTuple h c
    · cases e
theorem ty_grow {B F H B' H' : Hp} {ul tv us : List V} {σ : St} {ρ : Rh} {G : List LT} {s : Sv} {v : V} {n : String} (r : Rg K cl B F H ul σ tv ρ G us) (w : Gw B H B' H') (h : SvAt K B G v s) (e : kindS ρ s = some n) : TyX K H' v (.type n) := (kind_of (r.grow w) (SvAt.keep w.b (fun _ _ => rfl) h) e).1
theorem pv_isi {m : String} (hm : m ∈ ["list", "tuple", "str", "int", "bool", "dict"]) (ha : Pv K cl ta f) (hb : Pv K cl tb (vAt (.ty m))) : Pv K cl (tCB (rIsiN K) (tCons ta (tCons tb tNil))) (vIsi m f) := fun B F H ul σ tv ρ G us s r e Q q => by
  unfold vIsi at e
  split at e
  · rename_i s' h1
    split at e
    · rename_i n hn
      cases e
      refine ha B F H ul σ tv ρ G us _ r h1 _ fun x B1 H1 w1 hx => hb B1 F H1 ul σ tv ρ G us _ (r.grow w1) rfl _ fun y B2 H2 w2 hy => ?_
      have hy : y = .ty m := hy
      subst hy
      exact ⟨x, n, m, _, rfl, ty_grow (r.grow w1) w2 hx hn, kitF_of (kind_of (r.grow w1) hx hn).2 hm, q _ B2 H2 (w1.trans w2) (.bl _)⟩
    · cases e
  · cases e
theorem pv_isi2 {t1 t2 : TE} {m1 m2 : String} (hm1 : m1 ∈ ["list", "tuple", "str", "int", "bool", "dict"]) (hm2 : m2 ∈ ["list", "tuple", "str", "int", "bool", "dict"]) (ha : Pv K cl ta f) (h1 : Pv K cl t1 (vAt (.ty m1))) (h2 : Pv K cl t2 (vAt (.ty m2))) :
    Pv K cl (tCB (rIsiN2 K) (tCons ta (tCons (tTup (tCons t1 (tCons t2 tNil))) tNil))) (vIsi2 m1 m2 f) := fun B F H ul σ tv ρ G us s r e Q q => by
  unfold vIsi2 at e
  split at e
  · rename_i s' e1
    split at e
    · rename_i n hn
      cases e
      refine ha B F H ul σ tv ρ G us _ r e1 _ fun x B1 H1 w1 hx => h1 B1 F H1 ul σ tv ρ G us _ (r.grow w1) rfl _ fun y B2 H2 w2 hy => h2 B2 F H2 ul σ tv ρ G us _ ((r.grow w1).grow w2) rfl _ fun z B3 H3 w3 hz => ?_
      have hy : y = .ty m1 := hy
      have hz : z = .ty m2 := hz
      subst hy
      subst hz
      have r3 := ((r.grow w1).grow w2).grow w3
      refine ⟨by show 2 ≤ sizeLine; decide, fun p hp => ?_⟩
      have w4 := Gw.nw (o := .tup [.ty m1, .ty m2]) r3.rl.exB hp
      have hk := kind_of (r.grow w1) hx hn
      exact ⟨x, n, p, m1, m2, _, _, rfl, upd_same, ty_grow (r.grow w1) (w2.trans (w3.trans w4)) hx hn, kitF_of hk.2 hm1, kitF_of hk.2 hm2, q _ _ _ (w1.trans (w2.trans (w3.trans w4))) (.bl _)⟩
    · cases e
  · cases e
/-! what is made -/
theorem pa_nil : Pa K cl tNil aNil := fun B F H ul σ tv ρ G us ds r e Q q => by
  cases e; exact q [] B H (Gw.refl r.rl.exB) .nil
theorem pa_cons (ha : Pv K cl te f) (hr : Pa K cl tr af) : Pa K cl (tCons te tr) (aCons (vPy f) af) := fun B F H ul σ tv ρ G us ds r e Q q => by
  unfold aCons at e
  split at e
  · rename_i d ds' h1 h2
    cases e
    unfold vPy at h1
    split at h1
    · rename_i d' h3
      cases h1
      exact ha B F H ul σ tv ρ G us _ r h3 _ fun x B1 H1 w1 hx => hr B1 F H1 ul σ tv ρ G us _ (r.grow w1) h2 _ fun xs B2 H2 w2 hxs => q _ B2 H2 (w1.trans w2) (.cons (Dp.mono w2.b _ _ hx) hxs)
    · cases h1
  · cases e
theorem da_nil : Da K cl tNil aNil := fun B F H ul σ tv ρ G us ds r e Q q => by
  cases e; exact q [] B H (Gw.refl r.rl.exB) .nil
theorem da_cons (ha : Dv K cl te df) (hr : Da K cl tr af) : Da K cl (tCons te tr) (aCons df af) := fun B F H ul σ tv ρ G us ds r e Q q => by
  unfold aCons at e
  split at e
  · rename_i d ds' h1 h2
    cases e
    exact ha B F H ul σ tv ρ G us _ r h1 _ fun x B1 H1 w1 hx => hr B1 F H1 ul σ tv ρ G us _ (r.grow w1) h2 _ fun xs B2 H2 w2 hxs => q _ B2 H2 (w1.trans w2) (.cons (Dp.mono w2.h _ _ hx) hxs)
  · cases e
theorem pv_tup (ha : Pa K cl tr af) : Pv K cl (tTup tr) (vTup af) := fun B F H ul σ tv ρ G us s r e Q q => by
  unfold vTup at e
  split at e
  · rename_i ds h1
    split at e
    · rename_i hl
      cases e
      refine ha B F H ul σ tv ρ G us _ r h1 _ fun xs B1 H1 w1 hx => ⟨Nat.le_trans (by rw [DpAll.length hx]; exact hl) (by decide), fun p hp => ?_⟩
      have w2 := Gw.nw (o := .tup xs) (r.grow w1).rl.exB hp
      exact q _ _ _ (w1.trans w2) (.tup (SqT.of upd_same) (DpAll.mono w2.b _ _ hx))
    · cases e
  · cases e
theorem nv_lst (ha : Pa K cl tr af) : Nv K cl (tLst tr) (nLst af) := fun B F H ul σ tv ρ G us h ds r e Q q => by
  unfold nLst at e
  split at e
  · rename_i ds' h1
    split at e
    · rename_i hl
      cases e
      refine ha B F H ul σ tv ρ G us _ r h1 _ fun xs B1 H1 w1 hx => ⟨Nat.le_trans (by rw [DpAll.length hx]; exact hl) (by decide), fun p hp => ?_⟩
      exact q p xs B1 H1 (.lst xs) w1 hp rfl (.inl ⟨_, rfl⟩) ⟨free_of (r.grow w1).rl.exB hp, upd_same⟩ hx
    · cases e
  · cases e
def nDct0 (_ : Rh) : Option (Hd × List PyData) := some (.dct [], [])
theorem nv_dct0 : Nv K cl tDNewK nDct0 := fun B F H ul σ tv ρ G us h ds r e Q q => by
  cases e
  intro p hp
  exact q p [] B H (.dK []) (Gw.refl r.rl.exB) hp rfl (.inr (.inl ⟨_, rfl⟩)) ⟨free_of r.rl.exB hp, rfl, List.nodup_nil, upd_same⟩ .nil
def nDdt0 (_ : Rh) : Option (Hd × List PyData) := some (.ddt [], [])
theorem nv_ddt0 : Nv K cl tDNewT nDdt0 := fun B F H ul σ tv ρ G us h ds r e Q q => by
  cases e
  intro p hp
  exact q p [] B H (.dT []) (Gw.refl r.rl.exB) hp rfl (.inr (.inr (.inl ⟨_, rfl⟩))) ⟨free_of r.rl.exB hp, rfl, List.nodup_nil, upd_same⟩ .nil
theorem pv_fz (ha : Nv K cl te nf) : Pv K cl te (vFz nf) := fun B F H ul σ tv ρ G us s r e Q q => by
  unfold vFz at e
  split at e
  · rename_i ds h1
    cases e
    refine ha B F H ul σ tv ρ G us _ _ r h1 _ fun p vs B1 H1 o w1 hp ho own hn a => ?_
    have hn2 := hn.2
    rw [upd_same] at hn2
    cases hn2
    have w2 := Gw.nw (o := .lst vs) (r.grow w1).rl.exB hp
    exact q _ _ _ (w1.trans w2) (.lst (SqL.of upd_same) (DpAll.mono w2.b _ _ a))
  · cases e
theorem po_no : Po K cl tNoPart oNo := fun B F H ul σ tv ρ G us o r e Q q => by
  cases e; exact q B H (Gw.refl r.rl.exB)
theorem po_i (ha : Dv K cl te df) : Po K cl (tPart te) (oI df) := fun B F H ul σ tv ρ G us o r e Q q => by
  unfold oI at e
  split at e
  · rename_i i h1
    cases e
    refine ha B F H ul σ tv ρ G us _ r h1 _ fun v B' H' w hv => ?_
    cases hv
    exact ⟨i, rfl, q B' H' w⟩
  · cases e
theorem cut_dp {B : Hp} {xs : List V} {ds : List PyData} (a : DpAll K B xs ds) (lo hi : Option Int) : DpAll K B (cutV xs lo hi) (cutF ds lo hi) := by
  unfold cutV cutF
  rw [DpAll.length a]
  exact DpAll.take _ (DpAll.drop _ a)
theorem cutF_all {α : Type} {ds : List α} {lo hi : Option Int} (h1 : HT.sIx ds.length 0 lo = 0) (h2 : HT.sIx ds.length ds.length hi = ds.length) : cutF ds lo hi = ds := by
  unfold cutF
  rw [h1, h2]
  simp
theorem pv_slc (ha : Pv K cl te f) (hl : Po K cl tl fl) (hh : Po K cl th fh) : Pv K cl (tSl (rSlc K) te tl th) (vSlc f fl fh) := fun B F H ul σ tv ρ G us s r e Q q => by
  unfold vSlc at e
  split at e
  · rename_i z lo hi h1 h2 h3
    split at e
    · rename_i hz
      cases e
      refine ha B F H ul σ tv ρ G us _ r h1 _ fun x B1 H1 w1 hx => hl B1 F H1 ul σ tv ρ G us _ (r.grow w1) h2 _ fun B2 H2 w2 => hh B2 F H2 ul σ tv ρ G us _ ((r.grow w1).grow w2) h3 _ fun B3 H3 w3 => ?_
      have hx : Dp K B1 x (.str z) := hx
      cases hx
      exact .inl ⟨z, rfl, hz, q _ B3 H3 (w1.trans (w2.trans w3)) (.str _)⟩
    · cases e
  · rename_i ds lo hi h1 h2 h3
    cases e
    refine ha B F H ul σ tv ρ G us _ r h1 _ fun x B1 H1 w1 hx => hl B1 F H1 ul σ tv ρ G us _ (r.grow w1) h2 _ fun B2 H2 w2 => hh B2 F H2 ul σ tv ρ G us _ ((r.grow w1).grow w2) h3 _ fun B3 H3 w3 => ?_
    have hx : Dp K B1 x (.tuple ds) := hx
    have w := w1.trans (w2.trans w3)
    have r3 := r.grow w
    cases hx with
    | @tup _ xs _ s1 a1 =>
      have a3 := DpAll.mono (w2.b.trans w3.b) _ _ a1
      have s3 := Evl.ex_t (w2.b.trans w3.b) s1
      refine .inr (.inr ⟨_, _, rfl, Evl.ex_t r3.rl.exB s3, fun z => ?_, fun _ p hp => ?_⟩)
      · have hn := DpAll.length a1
        rw [hn] at z
        refine q _ B3 H3 w ?_
        rw [cutF_all z.1 z.2]
        exact .tup s3 a3
      · have w4 := Gw.nw (o := .tup (cutV xs lo hi)) r3.rl.exB hp
        exact q _ _ _ (w.trans w4) (.tup (SqT.of upd_same) (DpAll.mono w4.b _ _ (cut_dp a3 lo hi)))
  · cases e
theorem nv_slc (ha : Pv K cl te f) (hl : Po K cl tl fl) (hh : Po K cl th fh) : Nv K cl (tSl (rSlc K) te tl th) (nSlc f fl fh) := fun B F H ul σ tv ρ G us h ds r e Q q => by
  unfold nSlc at e
  split at e
  · rename_i ds lo hi h1 h2 h3
    cases e
    refine ha B F H ul σ tv ρ G us _ r h1 _ fun x B1 H1 w1 hx => hl B1 F H1 ul σ tv ρ G us _ (r.grow w1) h2 _ fun B2 H2 w2 => hh B2 F H2 ul σ tv ρ G us _ ((r.grow w1).grow w2) h3 _ fun B3 H3 w3 => ?_
    have hx : Dp K B1 x (.list ds) := hx
    have w := w1.trans (w2.trans w3)
    have r3 := r.grow w
    cases hx with
    | lst s1 a1 =>
      have a3 := DpAll.mono (w2.b.trans w3.b) _ _ a1
      have s3 := Evl.ex_l (w2.b.trans w3.b) s1
      refine .inr (.inl ⟨_, _, rfl, Evl.ex_l r3.rl.exB s3, fun p hp => ?_⟩)
      exact q p _ B3 H3 _ w hp rfl (.inl ⟨_, rfl⟩) ⟨free_of r3.rl.exB hp, upd_same⟩ (cut_dp a3 lo hi)
  · cases e
end
end Fx

/-! What is lent to a call, and what comes back. -/
namespace Fx
open PySem L2
open Evl (Ex)
variable {cl : Kl}
/-- the trees that a call is handed go out; where from -/
def lendF : List (Option Sv) → List T → Nat → List (List Nat) → Option (List Sv × List T × List T × List (List Nat))
  | [], g, _, _ => some ([], g, [], [])
  | none :: _, _, _, _ => none
  | some (.py d) :: r, g, k, old => match lendF r g k old with
    | some (ss, g', ms, ps) => some (.py d :: ss, g', ms, ps)
    | none => none
  | some (.at v) :: r, g, k, old => match lendF r g k old with
    | some (ss, g', ms, ps) => some (.at v :: ss, g', ms, ps)
    | none => none
  | some (.pt π) :: r, g, k, old => match gget g π with
    | some (.nd a h cs) => if old.all (fun p => !π.isPrefixOf p) then match lendF r (gput g π (.un ())) (k + 1) (π :: old) with
        | some (ss, g', ms, ps) => some (.pt [k] :: ss, g', .nd a h cs :: ms, π :: ps)
        | none => none
      else none
    | _ => none
def backF : List T → List (List Nat) → List T → Option (List T × List T)
  | g, [], ms => some (g, ms)
  | g, π :: ps, m :: ms => match m with
    | .nd _ _ _ => backF (gput g π m) ps ms
    | _ => none
  | _, _ :: _, [] => none
theorem pre_iff {a b : List Nat} : a.isPrefixOf b = true ↔ a <+: b := List.isPrefixOf_iff_prefix
theorem get_put_off : ∀ (π π2 : List Nat) (c u : LT), ¬ π <+: π2 → ¬ π2 <+: π → (c.put π u).get π2 = c.get π2
  | [], π2, c, u, h, _ => absurd List.nil_prefix h
  | i :: r, π2, .un b, u, h, _ => rfl
  | i :: r, π2, .py b, u, h, _ => rfl
  | i :: r, [], .nd p hd cs, u, h, h2 => absurd List.nil_prefix h2
  | i :: r, j :: r2, .nd p hd cs, u, h, h2 => by
    simp only [TL.put, TL.get]
    cases e : cs[i]? with
    | none => simp
    | some c =>
      by_cases ej : i = j
      · subst ej
        have hi : i < cs.length := (List.getElem?_eq_some_iff.mp e).1
        simp only [List.getElem?_set_self hi, e]
        exact get_put_off r r2 c u (fun z => h ((List.prefix_cons_inj i).mpr z)) (fun z => h2 ((List.prefix_cons_inj i).mpr z))
      · simp only [List.getElem?_set_ne ej]
theorem gget_put_off {G : List LT} {π π2 : List Nat} {u : LT} (h : ¬ π <+: π2) (h2 : ¬ π2 <+: π) : gget (gput G π u) π2 = gget G π2 := by
  cases π with
  | nil => exact absurd List.nil_prefix h
  | cons i r =>
    cases π2 with
    | nil => rfl
    | cons j r2 =>
      simp only [gput, gget]
      cases e : G[i]? with
      | none => simp
      | some c =>
        by_cases ej : i = j
        · subst ej
          have hi : i < G.length := (List.getElem?_eq_some_iff.mp e).1
          simp only [List.getElem?_set_self hi, e]
          exact get_put_off r r2 c u (fun z => h ((List.prefix_cons_inj i).mpr z)) (fun z => h2 ((List.prefix_cons_inj i).mpr z))
        · simp only [List.getElem?_set_ne ej]
theorem gget_put_self {G : List LT} {π : List Nat} {u u0 : LT} (e : gget G π = some u0) : gget (gput G π u) π = some u := by
  have := gget_put_ext (r := []) (u := u) e
  rw [List.append_nil] at this
  rw [this]
  cases u <;> rfl
/-- nothing lies below what is not known -/
theorem un_below {G : List LT} {π π2 : List Nat} {w : V} {u : LT} (e : gget G π = some (.un w)) (h : π <+: π2) (e2 : gget G π2 = some u) : π2 = π := by
  obtain ⟨r, rfl⟩ := h
  rw [gget_app e] at e2
  cases r with
  | nil => simp
  | cons => simp [TL.get] at e2
/-- to put what is not known somewhere only takes away -/
theorem pv_hole {G : List LT} {π π2 : List Nat} {w v : V} {u : LT} (e : gget G π = some u) (h : pv (gput G π (.un w)) π2 = some v) : pv G π2 = some v ∧ ¬ π <+: π2 := by
  by_cases hp : π <+: π2
  · exfalso
    have e1 := gget_put_self (u := .un w) e
    unfold pv at h
    cases e2 : gget (gput G π (.un w)) π2 with
    | none => rw [e2] at h; cases h
    | some x =>
      have := un_below e1 hp e2
      subst this
      rw [e1] at e2
      cases e2
      rw [e1] at h
      cases h
  · rw [pv_put_ne hp] at h
    exact ⟨h, hp⟩
section
variable {K : PySem.W.Frag} {B F H B' H' : Hp}
theorem nodup_mid {a b c : List Addr} : (a ++ (b ++ c)).Nodup ↔ ((a ++ c) ++ b).Nodup := by
  have : List.Perm (a ++ (b ++ c)) ((a ++ c) ++ b) := by
    rw [List.append_assoc]
    exact List.Perm.append_left a List.perm_append_comm
  exact this.nodup_iff
/-- a root from the middle goes to where something is not known -/
theorem Rl.inM {G R : List LT} {us rs : List V} {u : LT} {w : V} {π : List Nat} (r : Rl K cl B F H (G ++ u :: R) (us ++ w :: rs)) (hl : us.length = G.length) (e : gget G π = some (.un w)) : Rl K cl B F H (gput G π u ++ R) (us ++ rs) := by
  obtain ⟨us', ws', e1, a, b⟩ := LtAll.split r.at_
  have e2 : us' = us := (List.append_inj_left e1 (by rw [hl, a.length])).symm
  subst e2
  have e3 : ws' = w :: rs := (List.append_cancel_left e1).symm
  subst e3
  cases b with
  | cons b1 b2 =>
    have r2 : Rl K cl B F H ((G ++ R) ++ [u]) ((us' ++ rs) ++ [w]) := by
      refine r.re ((a.append b2).append (.cons b1 .nil)) ?_ fun q hq => ?_
      · have n := r.nod
        rw [addrsAll_append] at n
        rw [addrsAll_append, addrsAll_append]
        simp only [addrsAll, List.append_nil] at n ⊢
        exact nodup_mid.mp n
      · rw [addrsAll_append, addrsAll_append] at hq
        rw [addrsAll_append]
        simp only [addrsAll, List.append_nil, List.mem_append] at hq ⊢
        rcases hq with (h | h) | h <;> simp [h]
    have := r2.in1 (gget_append e)
    rw [gput_append e] at this
    exact this
/-- what a call hands goes out -/
theorem lend_ok (G0 : List LT) (B0 : Hp) : ∀ (args : List (Option Sv)) (vs : List V) (G M : List LT) (us ms : List V) (old : List (List Nat)) (ow : List V) (ss : List Sv) (g' m' : List T) (ps : List (List Nat)),
    Rl K cl B F H (G ++ M) (us ++ ms) → us.length = G.length → ms.length = M.length → lendF args (G.map TL.er) M.length old = some (ss, g', m', ps) →
    vs.length = args.length → (∀ (i : Nat) (s : Sv), args[i]? = some (some s) → ∃ v, vs[i]? = some v ∧ SvAt K B G0 v s) → (∀ π v, pv G π = some v → pv G0 π = some v) → old.length = ow.length → (∀ (j : Nat) (p : List Nat) (w : V), old[j]? = some p → ow[j]? = some w → gget G p = some (.un w)) →
    ∃ (G' M' : List LT) (ws : List V), G'.map TL.er = g' ∧ M'.map TL.er = m' ∧ Rl K cl B F H (G' ++ (M ++ M')) (us ++ (ms ++ ws)) ∧ us.length = G'.length ∧ ws.length = M'.length ∧ ps.length = ws.length ∧
      ss.length = args.length ∧ (∀ (i : Nat) (s : Sv), ss[i]? = some s → ∃ v, vs[i]? = some v ∧ SvAt K B (M ++ M') v s) ∧ (∀ (j : Nat) (p : List Nat) (w : V), old[j]? = some p → ow[j]? = some w → gget G' p = some (.un w)) ∧
      (∀ (j : Nat) (p : List Nat) (w : V), ps[j]? = some p → ws[j]? = some w → gget G' p = some (.un w) ∧ pv G0 p = some w) ∧ (∀ π, (∀ p ∈ ps, ¬ p <+: π) → pv G' π = pv G π) ∧ ps.Nodup ∧ ∀ p ∈ ps, p ∉ old
  | [], vs, G, M, us, ms, old, ow, ss, g', m', ps, r, hl, hm, e, hv, ha, hp, ho, hh => by
    simp only [lendF, Option.some.injEq, Prod.mk.injEq] at e
    obtain ⟨rfl, rfl, rfl, rfl⟩ := e
    refine ⟨G, [], [], rfl, rfl, by simpa using r, hl, rfl, rfl, rfl, fun i s h => by simp at h, hh, fun j p w h => by simp at h, fun π _ => rfl, List.nodup_nil, fun p h => by simp at h⟩
  | none :: ar, vs, G, M, us, ms, old, ow, ss, g', m', ps, r, hl, hm, e, hv, ha, hp, ho, hh => by simp [lendF] at e
  | some (.py d) :: ar, vs, G, M, us, ms, old, ow, ss, g', m', ps, r, hl, hm, e, hv, ha, hp, ho, hh => by
    simp only [lendF] at e
    split at e
    · rename_i ss1 g1 m1 p1 e1
      simp only [Option.some.injEq, Prod.mk.injEq] at e
      obtain ⟨rfl, rfl, rfl, rfl⟩ := e
      cases vs with
      | nil => simp at hv
      | cons v vs =>
        obtain ⟨G', M', ws, a1, a2, a3, a4, a5, a6, a7, a8, a9, a10, a11, a12, a13⟩ := lend_ok G0 B0 ar vs G M us ms old ow ss1 g1 m1 p1 r hl hm e1 (by simpa using hv) (fun i s h => by simpa using ha (i + 1) s (by simpa using h)) hp ho hh
        refine ⟨G', M', ws, a1, a2, a3, a4, a5, a6, by simp [a7], fun i s h => ?_, a9, a10, a11, a12, a13⟩
        cases i with
        | zero =>
          simp at h; subst h
          obtain ⟨v', h1, h2⟩ := ha 0 (.py d) rfl
          simp at h1; subst h1
          exact ⟨v, rfl, h2⟩
        | succ i => simpa using a8 i s (by simpa using h)
    · cases e
  | some (.at x) :: ar, vs, G, M, us, ms, old, ow, ss, g', m', ps, r, hl, hm, e, hv, ha, hp, ho, hh => by
    simp only [lendF] at e
    split at e
    · rename_i ss1 g1 m1 p1 e1
      simp only [Option.some.injEq, Prod.mk.injEq] at e
      obtain ⟨rfl, rfl, rfl, rfl⟩ := e
      cases vs with
      | nil => simp at hv
      | cons v vs =>
        obtain ⟨G', M', ws, a1, a2, a3, a4, a5, a6, a7, a8, a9, a10, a11, a12, a13⟩ := lend_ok G0 B0 ar vs G M us ms old ow ss1 g1 m1 p1 r hl hm e1 (by simpa using hv) (fun i s h => by simpa using ha (i + 1) s (by simpa using h)) hp ho hh
        refine ⟨G', M', ws, a1, a2, a3, a4, a5, a6, by simp [a7], fun i s h => ?_, a9, a10, a11, a12, a13⟩
        cases i with
        | zero =>
          simp at h; subst h
          obtain ⟨v', h1, h2⟩ := ha 0 (.at x) rfl
          simp at h1; subst h1
          exact ⟨v, rfl, h2⟩
        | succ i => simpa using a8 i s (by simpa using h)
    · cases e
  | some (.pt π) :: ar, vs, G, M, us, ms, old, ow, ss, g', m', ps, r, hl, hm, e, hv, ha, hp, ho, hh => by
    simp only [lendF] at e
    split at e
    · rename_i a h cs eg
      split at e
      · rename_i hall
        split at e
        · rename_i ss1 g1 m1 p1 e1
          simp only [Option.some.injEq, Prod.mk.injEq] at e
          obtain ⟨rfl, rfl, rfl, rfl⟩ := e
          cases vs with
          | nil => simp at hv
          | cons v vs =>
            rw [gget_er] at eg
            cases eu : gget G π with
            | none => rw [eu] at eg; cases eg
            | some u =>
              rw [eu] at eg
              simp only [Option.map_some, Option.some.injEq] at eg
              cases u with
              | un => cases eg
              | py => cases eg
              | nd p hd cs' =>
                have hv0 : pv G π = some (.ref p) := by unfold pv; rw [eu]; rfl
                obtain ⟨v', h1, h2⟩ := ha 0 (.pt π) rfl
                simp at h1; subst h1
                have h2 : pv G0 π = some v := h2
                rw [hp π _ hv0] at h2
                cases h2
                obtain ⟨w, hw, r1⟩ := r.out1 (gget_append eu)
                have ew : w = .ref p := by cases hw; rfl
                subst ew
                rw [gput_append eu] at r1
                have r1 : Rl K cl B F H (gput G π (.un (.ref p)) ++ (M ++ [.nd p hd cs'])) (us ++ (ms ++ [.ref p])) := by
                  rw [← List.append_assoc, ← List.append_assoc]; exact r1
                have e1' : lendF ar ((gput G π (.un (.ref p))).map TL.er) (M ++ [TL.nd p hd cs']).length (π :: old) = some (ss1, g1, m1, p1) := by
                  rw [gput_er]
                  have : (M ++ [TL.nd p hd cs']).length = M.length + 1 := by simp
                  rw [this]
                  exact e1
                have hne : ∀ q ∈ old, ¬ π <+: q := fun q hq z => by
                  have := List.all_eq_true.mp hall q hq
                  rw [pre_iff.mpr z] at this
                  simp at this
                have keepOld : ∀ (j : Nat) (q : List Nat) (x : V), old[j]? = some q → ow[j]? = some x → gget (gput G π (.un (.ref p))) q = some (.un x) := fun j q x h1 h2 => by
                  have e3 := hh j q x h1 h2
                  rw [gget_put_off (hne q (List.mem_of_getElem? h1)) fun z => ?_]
                  · exact e3
                  · have := un_below e3 z eu
                    subst this
                    rw [e3] at eu; cases eu
                obtain ⟨G', M', ws, a1, a2, a3, a4, a5, a6, a7, a8, a9, a10, a11, a12, a13⟩ := lend_ok G0 B0 ar vs _ _ us _ (π :: old) (.ref p :: ow) ss1 g1 m1 p1 r1 (by rw [gput_len]; exact hl) (by simp [hm]) e1' (by simpa using hv) (fun i s h => by simpa using ha (i + 1) s (by simpa using h))
                  (fun π2 x h => hp π2 x (pv_hole eu h).1) (by simp [ho]) (fun j q x h1 h2 => by
                    cases j with
                    | zero => simp at h1 h2; subst h1 h2; exact gget_put_self eu
                    | succ j => exact keepOld j q x (by simpa using h1) (by simpa using h2))
                refine ⟨G', .nd p hd cs' :: M', .ref p :: ws, a1, by simp [a2, ← eg], by simpa using a3, a4, by simp [a5], by simp [a6], by simp [a7], fun i s h => ?_, fun j q x h1 h2 => ?_, fun j q x h1 h2 => ?_, fun π2 h => ?_, List.nodup_cons.mpr ⟨fun z => a13 π z (by simp), a12⟩, fun q hq z => ?_⟩
                · cases i with
                  | zero =>
                    simp at h; subst h
                    refine ⟨.ref p, rfl, ?_⟩
                    show pv (M ++ .nd p hd cs' :: M') [M.length] = _
                    unfold pv
                    simp only [gget]
                    rw [List.getElem?_append_right (Nat.le_refl _)]
                    simp [TL.get, lref]
                  | succ i => simpa using a8 i s (by simpa using h)
                · exact a9 (j + 1) q x (by simpa using h1) (by simpa using h2)
                · cases j with
                  | zero =>
                    simp at h1 h2; subst h1 h2
                    exact ⟨a9 0 _ _ rfl rfl, hp _ _ hv0⟩
                  | succ j => exact a10 j q x (by simpa using h1) (by simpa using h2)
                · rw [a11 π2 fun q hq => h q (by simp [hq])]
                  exact pv_put_ne (h π (by simp))
                · rcases List.mem_cons.mp hq with rfl | hq
                  · obtain ⟨j, hj⟩ := List.mem_iff_getElem?.mp z
                    have hjl : j < ow.length := by rw [← ho]; exact (List.getElem?_eq_some_iff.mp hj).1
                    have := hh j q _ hj (List.getElem?_eq_getElem hjl)
                    rw [this] at eu; cases eu
                  · exact a13 q hq (by simp [z])
        · cases e
      · cases e
    · cases e
/-- what comes back goes in -/
theorem back_ok (G0 : List LT) : ∀ (ps : List (List Nat)) (ws : List V) (G M : List LT) (us xs : List V) (m : List T) (g' r' : List T),
    Rl K cl B F H (G ++ M) (us ++ (ws ++ xs)) → us.length = G.length → M.map TL.er = m → backF (G.map TL.er) ps m = some (g', r') → ps.length = ws.length →
    (∀ (j : Nat) (p : List Nat) (w : V), ps[j]? = some p → ws[j]? = some w → gget G p = some (.un w)) → (∀ (i j : Nat) (p q : List Nat), ps[i]? = some p → ps[j]? = some q → i ≠ j → ¬ p <+: q) →
    ∃ (G' R : List LT), G'.map TL.er = g' ∧ R.map TL.er = r' ∧ Rl K cl B F H (G' ++ R) (us ++ xs) ∧ us.length = G'.length ∧ (∀ π, (∀ p ∈ ps, ¬ p <+: π) → pv G' π = pv G π) ∧ (∀ (j : Nat) (p : List Nat) (w : V), ps[j]? = some p → ws[j]? = some w → pv G' p = some w)
  | [], ws, G, M, us, xs, m, g', r', r, hl, hm, e, hw, hh, hd => by
    simp only [backF, Option.some.injEq, Prod.mk.injEq] at e
    obtain ⟨rfl, rfl⟩ := e
    have : ws = [] := List.length_eq_zero_iff.mp (by simpa using hw.symm)
    subst this
    exact ⟨G, M, rfl, hm, r, hl, fun _ _ => rfl, fun j p w h => by simp at h⟩
  | π :: ps, [], G, M, us, xs, m, g', r', r, hl, hm, e, hw, hh, hd => by simp at hw
  | π :: ps, w :: ws, G, [], us, xs, m, g', r', r, hl, hm, e, hw, hh, hd => by
    subst hm
    simp [backF] at e
  | π :: ps, w :: ws, G, u :: M, us, xs, m, g', r', r, hl, hm, e, hw, hh, hd => by
    subst hm
    simp only [List.map_cons, backF] at e
    split at e
    · rename_i a h cs eu
      have e0 := hh 0 π w rfl rfl
      have r1 := r.inM hl e0
      rw [← gput_er] at e
      have offp : ∀ (j : Nat) (p : List Nat) (x : V), ps[j]? = some p → ws[j]? = some x → gget (gput G π u) p = some (.un x) := fun j p x h1 h2 => by
        rw [gget_put_off (hd 0 (j + 1) π p rfl (by simpa using h1) (by omega)) (hd (j + 1) 0 p π (by simpa using h1) rfl (by omega))]
        exact hh (j + 1) p x (by simpa using h1) (by simpa using h2)
      obtain ⟨G', R, a1, a2, a3, a4, a5, a6⟩ := back_ok G0 ps ws (gput G π u) M us xs _ g' r' r1 (by rw [gput_len]; exact hl) rfl e (by simpa using hw) offp (fun i j p q h1 h2 h3 => hd (i + 1) (j + 1) p q (by simpa using h1) (by simpa using h2) (by omega))
      refine ⟨G', R, a1, a2, a3, a4, fun π2 h => ?_, fun j p x h1 h2 => ?_⟩
      · rw [a5 π2 fun p hp => h p (by simp [hp])]
        exact pv_put_ne (h π (by simp))
      · cases j with
        | zero =>
          simp at h1 h2; subst h1 h2
          rw [a5 π fun p hp => ?_]
          · unfold pv
            rw [gget_put_self e0]
            obtain ⟨us', ws', z1, z2, z3⟩ := LtAll.split r.at_
            have z4 : us' = us := (List.append_inj_left z1 (by rw [hl, z2.length])).symm
            subst z4
            have z5 : ws' = w :: (ws ++ xs) := (List.append_cancel_left z1).symm
            subst z5
            cases z3 with
            | cons z6 _ =>
              cases u with
              | un => cases eu
              | py => cases eu
              | nd p2 h2 c2 => cases z6; rfl
          · obtain ⟨i, hi⟩ := List.mem_iff_getElem?.mp hp
            exact hd (i + 1) 0 p π (by simpa using hi) rfl (by omega)
        | succ j => exact a6 j p x (by simpa using h1) (by simpa using h2)
    · cases e
end
end Fx

/-! What a def promises; calls. -/
namespace Fx
open PySem L2
open Evl (Ex)
variable {cl : Kl}
/-- a result: told, or the last root -/
inductive Rv where
  | s (s : Sv)
  | own
inductive Ev where
  | vl (r : Rv) (ρ : Rh)
  | ex (C : String) (ρ : Rh)
inductive Rs where
  | vl (r : Rv) (g : List T)
  | ex (C : String) (g : List T)
abbrev Sem := List Sv → List T → Option Rs
def RvAt (K : PySem.W.Frag) (B : Hp) (G : List LT) (us : List V) (v : V) : Rv → Prop
  | .s s => SvAt K B G v s
  | .own => us.getLast? = some v
def EvP (K : PySem.W.Frag) (cl : Kl) (B F : Hp) (ul : List V) (σ : St) (tv : List V) (Q : VK) (E : XK) : Option Ev → Prop
  | some (.vl r ρ) => ∀ v B' H' G us, Kp F B B' → Rg K cl B' F H' ul σ tv ρ G us → RvAt K B' G us v r → Q v H'
  | some (.ex C ρ) => ∀ B' H' G us, Kp F B B' → Rg K cl B' F H' ul σ tv ρ G us → E (.ref (cl C)) none H'
  | none => False
/-- what a def gives back, the lent roots' values being us -/
def RsAt (K : PySem.W.Frag) (B : Hp) (us us' : List V) (v : V) : Rv → Prop
  | .s (.py d) => us' = us ∧ Dp K B v d
  | .s (.at u) => us' = us ∧ v = u
  | .s (.pt _) => False
  | .own => us' = us ++ [v]
def RsP (K : PySem.W.Frag) (cl : Kl) (B F : Hp) (us : List V) (Q : VK) (E : XK) : Option Rs → Prop
  | some (.vl r g) => ∀ v B' H' G' us', Kp F B B' → Rl K cl B' F H' G' us' → G'.map TL.er = g → RsAt K B' us us' v r → Q v H'
  | some (.ex C g) => ∀ B' H' G', Kp F B B' → Rl K cl B' F H' G' us → G'.map TL.er = g → E (.ref (cl C)) none H'
  | none => False
def PSf (K : PySem.W.Frag) (cl : Kl) (sem : Sem) : Sp := fun vs H Q E => ∃ B F G us ss, Rl K cl B F H G us ∧ vs.length = ss.length ∧ (∀ (i : Nat) (s : Sv), ss[i]? = some s → ∃ v, vs[i]? = some v ∧ SvAt K B G v s) ∧
  RsP K cl B F us Q E (sem ss (G.map TL.er))
def headLt (l : Nat) : List Nat → Bool
  | i :: _ => decide (i < l)
  | [] => false
/-- a slot's place that a call has made void -/
def voidF (l0 : Nat) (ps : List (List Nat)) (π : List Nat) : Bool := ps.any (fun p => p.isPrefixOf π && !(p == π)) || !headLt l0 π
def tidy (l0 n : Nat) (ps : List (List Nat)) (g : List T) (ρ : Rh) : Rh := ⟨msk (voidF l0 ps) ρ.sl, msk (voidF l0 ps) (ρ.tm.take (ρ.tm.length - n)), g, ρ.bs⟩
/-- the call of sem with the last n of tm; behind it l0 roots are left -/
def callF (sem : Sem) (n l0 : Nat) (ρ : Rh) : Option Ev :=
  match lendF (ρ.tm.drop (ρ.tm.length - n)) ρ.g 0 [] with
  | some (ss, gh, ms, ps) => match sem ss ms with
    | some (.vl (.s (.py d)) ms') => match backF gh ps ms' with
      | some (g2, []) => some (.vl (.s (.py d)) (tidy l0 n ps (g2.take l0) ρ))
      | _ => none
    | some (.vl (.s (.at v)) ms') => match backF gh ps ms' with
      | some (g2, []) => some (.vl (.s (.at v)) (tidy l0 n ps (g2.take l0) ρ))
      | _ => none
    | some (.vl .own ms') => match backF gh ps ms' with
      | some (g2, [t]) => some (.vl .own (tidy l0 n ps (g2.take l0 ++ [t]) ρ))
      | _ => none
    | some (.ex C ms') => match backF gh ps ms' with
      | some (g2, []) => some (.ex C (tidy l0 n ps (g2.take l0) ρ))
      | _ => none
    | _ => none
  | none => none
/-- C(..): sem is __init__'s -/
def makeF (C : String) (sem : Sem) (n l0 : Nat) (ρ : Rh) : Option Ev :=
  match lendF (ρ.tm.drop (ρ.tm.length - n)) ρ.g 1 [] with
  | some (ss, gh, ms, ps) => match sem (.pt [0] :: ss) (.nd () (.ins C []) [] :: ms) with
    | some (.vl (.s (.py .none)) (o :: ms')) => match backF gh ps ms' with
      | some (g2, []) => some (.vl .own (tidy l0 n ps (g2.take l0 ++ [o]) ρ))
      | _ => none
    | some (.ex D (o :: ms')) => match backF gh ps ms' with
      | some (g2, []) => some (.ex D (tidy l0 n ps (g2.take l0) ρ))
      | _ => none
    | _ => none
  | none => none
theorem void_not {l0 : Nat} {ps : List (List Nat)} {π : List Nat} (h : voidF l0 ps π = false) : (∀ p ∈ ps, p <+: π → p = π) ∧ headLt l0 π = true := by
  unfold voidF at h
  simp only [Bool.or_eq_false_iff] at h
  refine ⟨fun p hp z => ?_, by simpa using h.2⟩
  have := List.any_eq_false.mp h.1 p hp
  rw [pre_iff.mpr z] at this
  simpa using this
theorem pv_take {G : List LT} {l0 : Nat} {π : List Nat} (h : headLt l0 π = true) : pv (G.take l0) π = pv G π := by
  cases π with
  | nil => cases h
  | cons i r =>
    simp only [headLt, decide_eq_true_eq] at h
    unfold pv
    simp only [gget]
    rw [List.getElem?_take_of_lt h]
theorem pv_app_lt {G X : List LT} {l0 : Nat} {π : List Nat} (h : headLt l0 π = true) (hl : l0 ≤ G.length) : pv (G ++ X) π = pv G π := by
  cases π with
  | nil => cases h
  | cons i r =>
    simp only [headLt, decide_eq_true_eq] at h
    unfold pv
    simp only [gget]
    rw [List.getElem?_append_left (by omega)]
section
variable {K : PySem.W.Frag} {B F H B' H' : Hp} {ul tv us vs : List V} {σ : St} {ρ : Rh} {G : List LT} {sem : Sem} {n l0 : Nat} {Q : VK} {E : XK}
theorem SlAt.left {K : PySem.W.Frag} {B : Hp} {G : List LT} {σ τ : List (Option V)} {sl : List (Option Sv)} (a : SlAt K B G (σ ++ τ) sl) : SlAt K B G σ (sl.take σ.length) := ⟨by
    have := a.len
    simp only [List.length_append] at this
    simp; omega, fun i s h => by
    have hi : i < σ.length := by
      refine Classical.byContradiction fun z => ?_
      rw [List.getElem?_eq_none (by simp; omega)] at h
      cases h
    rw [List.getElem?_take_of_lt hi] at h
    obtain ⟨v, h1, h2⟩ := a.has i s h
    exact ⟨v, by rw [List.getElem?_append_left hi] at h1; exact h1, h2⟩⟩
theorem SlAt.right {K : PySem.W.Frag} {B : Hp} {G : List LT} {σ τ : List (Option V)} {sl : List (Option Sv)} (a : SlAt K B G (σ ++ τ) sl) : SlAt K B G τ (sl.drop σ.length) := ⟨by
    have := a.len
    simp only [List.length_append] at this
    simp; omega, fun i s h => by
    rw [List.getElem?_drop] at h
    obtain ⟨v, h1, h2⟩ := a.has _ s h
    exact ⟨v, by rw [List.getElem?_append_right (by omega)] at h1; simpa using h1, h2⟩⟩
/-- behind a call: what the caller knows -/
theorem after_call {Gf : List LT} {usf : List V} {ps : List (List Nat)} {ws : List V} {gf : List T} (r : Rg K cl B F H ul σ (tv ++ vs) ρ G us) (hn : vs.length = n) (kb : Ex B B') (hb : ρ.bs ≤ l0) (hl : l0 ≤ Gf.length) (rf : Rl K cl B' F H' Gf usf) (ef : Gf.map TL.er = gf) (eu : ∀ k, k < l0 → usf[k]? = us[k]?)
    (off : ∀ π, headLt l0 π = true → (∀ p ∈ ps, ¬ p <+: π) → pv Gf π = pv G π) (on : ∀ p ∈ ps, headLt l0 p = true → ∃ w, pv Gf p = some w ∧ pv G p = some w) : Rg K cl B' F H' ul σ tv (tidy l0 n ps gf ρ) Gf usf := by
  have key : ∀ π v, voidF l0 ps π = false → pv G π = some v → pv Gf π = some v := fun π v h1 h2 => by
    obtain ⟨h3, h4⟩ := void_not h1
    by_cases hp' : ∃ p ∈ ps, p <+: π
    · obtain ⟨p, hp, hq⟩ := hp'
      have := h3 p hp hq
      subst this
      obtain ⟨w, h5, h6⟩ := on p hp h4
      rw [h6] at h2; cases h2
      exact h5
    · rw [off π h4 fun p hp z => hp' ⟨p, hp, z⟩]
      exact h2
  refine ⟨ef, rf, r.bs, Nat.le_trans hb hl, ?_, r.sl.mask kb key, ?_⟩
  · have h1 := r.ul
    have h2 := r.bs
    have : (usf.drop σ.length).take ul.length = (us.drop σ.length).take ul.length := by
      apply List.ext_getElem?
      intro k
      by_cases hk : k < ul.length
      · rw [List.getElem?_take_of_lt hk, List.getElem?_take_of_lt hk, List.getElem?_drop, List.getElem?_drop]
        exact eu _ (by omega)
      · rw [List.getElem?_eq_none (by simp; omega), List.getElem?_eq_none (by simp; omega)]
    rw [this]; exact h1
  · have := r.tm
    rw [List.map_append] at this
    have hlen : (tv.map some).length = ρ.tm.length - n := by
      have := this.len
      simp only [List.length_append, List.length_map] at this ⊢
      omega
    have h2 := this.left
    rw [hlen] at h2
    exact h2.mask kb key
end
end Fx

/-! Calls: why. -/
namespace Fx
open PySem L2
open Evl (Ex)
variable {cl : Kl}
section
variable {K : PySem.W.Frag} {B F H B' H' : Hp} {ul tv us vs : List V} {σ : St} {ρ : Rh} {G : List LT} {sem : Sem} {n l0 : Nat} {Q : VK} {E : XK}
/-- the last n of tm -/
theorem last_tm (r : Rg K cl B F H ul σ (tv ++ vs) ρ G us) (hn : vs.length = n) : ρ.tm.length - n = tv.length ∧ vs.length = (ρ.tm.drop (ρ.tm.length - n)).length ∧
    ∀ (i : Nat) (s : Sv), (ρ.tm.drop (ρ.tm.length - n))[i]? = some (some s) → ∃ v, vs[i]? = some v ∧ SvAt K B G v s := by
  have a := r.tm
  rw [List.map_append] at a
  have hl := a.len
  simp only [List.length_append, List.length_map] at hl
  have e : ρ.tm.length - n = tv.length := by omega
  have b := a.right
  simp only [List.length_map] at b
  rw [e]
  refine ⟨rfl, by simp; omega, fun i s h => ?_⟩
  obtain ⟨v, h1, h2⟩ := b.has i s h
  rw [List.getElem?_map] at h1
  cases e2 : vs[i]? with
  | none => rw [e2] at h1; cases h1
  | some w => rw [e2] at h1; cases h1; exact ⟨v, rfl, h2⟩
theorem drop_roots {Ga X : List LT} {ua xs : List V} {l0 : Nat} (r : Rl K cl B F H (Ga ++ X) (ua ++ xs)) (hl : ua.length = Ga.length) : Rl K cl B F H (Ga.take l0 ++ X) (ua.take l0 ++ xs) := by
  obtain ⟨us', ws', z1, z2, z3⟩ := LtAll.split r.at_
  have z4 : us' = ua := (List.append_inj_left z1 (by rw [hl, z2.length])).symm
  subst z4
  have z5 : ws' = xs := (List.append_cancel_left z1).symm
  subst z5
  have key : ∀ (n : Nat) {vs : List V} {cs : List LT}, LtAll K cl B H vs cs → LtAll K cl B H (vs.take n) (cs.take n) := by
    intro n vs cs h
    induction cs generalizing n vs with
    | nil => cases h; simp; exact .nil
    | cons c cs ih =>
      cases h with
      | cons a b =>
        cases n with
        | zero => exact .nil
        | succ n => exact .cons a (ih n b)
  have sub : ∀ (n : Nat) (cs : List LT), (addrsAll (cs.take n)).Sublist (addrsAll cs) := by
    intro n cs
    induction cs generalizing n with
    | nil => simp
    | cons c cs ih =>
      cases n with
      | zero => simp [addrsAll]
      | succ n => simp only [List.take_succ_cons, addrsAll]; exact List.Sublist.append (List.Sublist.refl _) (ih n)
  have s2 : (addrsAll (Ga.take l0 ++ X)).Sublist (addrsAll (Ga ++ X)) := by
    rw [addrsAll_append, addrsAll_append]
    exact List.Sublist.append (sub l0 Ga) (List.Sublist.refl _)
  exact r.re ((key l0 z2).append z3) (s2.nodup r.nod) fun q hq => s2.subset hq
/-- what is lent, what comes back, for a call that hands M0 first -/
theorem call_lent {M0 : List LT} {m0 : List V} {ss : List Sv} {gh ms : List T} {ps : List (List Nat)} (r : Rg K cl B F H ul σ (tv ++ vs) ρ G us) (hn : vs.length = n) (hb : ρ.bs ≤ l0) (hl : l0 ≤ G.length)
    (r0 : Rl K cl B F H (G ++ M0) (us ++ m0)) (hm0 : m0.length = M0.length) (e : lendF (ρ.tm.drop (ρ.tm.length - n)) ρ.g M0.length [] = some (ss, gh, ms, ps)) :
    ∃ (G' M' : List LT) (ws : List V), G'.map TL.er = gh ∧ M'.map TL.er = ms ∧ Rl K cl B F H (G' ++ (M0 ++ M')) (us ++ (m0 ++ ws)) ∧ us.length = G'.length ∧ ws.length = M'.length ∧ vs.length = ss.length ∧
      (∀ (i : Nat) (s : Sv), ss[i]? = some s → ∃ v, vs[i]? = some v ∧ SvAt K B (M0 ++ M') v s) ∧
      ∀ (B' H' : Hp) (M2 : List LT) (m2 xs : List V) (g2 r2 : List T), Rl K cl B' F H' (G' ++ M2) (us ++ (ws ++ xs)) → Kp F B B' → backF gh ps (M2.map TL.er) = some (g2, r2) →
        ∃ (Gf R : List LT), Gf.map TL.er = g2 ∧ R.map TL.er = r2 ∧ Rl K cl B' F H' (Gf ++ R) (us ++ xs) ∧ us.length = Gf.length ∧
          ∀ (X : List LT) (ys : List V) (tx : List T), X.map TL.er = tx → Rl K cl B' F H' (Gf.take l0 ++ X) (us.take l0 ++ ys) → Rg K cl B' F H' ul σ tv (tidy l0 n ps (g2.take l0 ++ tx) ρ) (Gf.take l0 ++ X) (us.take l0 ++ ys) := by
  obtain ⟨t1, t2, t3⟩ := last_tm r hn
  have hul : us.length = G.length := r.rl.at_.length
  have e' : lendF (ρ.tm.drop (ρ.tm.length - n)) (G.map TL.er) M0.length [] = some (ss, gh, ms, ps) := by rw [r.er]; exact e
  obtain ⟨G', M', ws, a1, a2, a3, a4, a5, a6, a7, a8, a9, a10, a11, a12, a13⟩ := lend_ok G B (ρ.tm.drop (ρ.tm.length - n)) vs G M0 us m0 [] [] ss gh ms ps r0 hul hm0 e' t2 t3 (fun _ _ h => h) rfl (fun j p w h => by simp at h)
  refine ⟨G', M', ws, a1, a2, a3, a4, a5, by rw [a7]; exact t2, a8, fun B' H' M2 m2 xs g2 r2 rr kp eb => ?_⟩
  subst a1
  have disj : ∀ (i j : Nat) (p q : List Nat), ps[i]? = some p → ps[j]? = some q → i ≠ j → ¬ p <+: q := fun i j p q h1 h2 h3 z => by
    have hj : j < ws.length := by rw [← a6]; exact (List.getElem?_eq_some_iff.mp h2).1
    have hi : i < ws.length := by rw [← a6]; exact (List.getElem?_eq_some_iff.mp h1).1
    have w1 := (a10 i p _ h1 (List.getElem?_eq_getElem hi)).1
    have w2 := (a10 j q _ h2 (List.getElem?_eq_getElem hj)).1
    have eq := un_below w1 z w2
    subst eq
    exact h3 ((List.getElem?_inj (List.getElem?_eq_some_iff.mp h1).1 a12).mp (by rw [h1, h2]))
  obtain ⟨Gf, R, b1, b2, b3, b4, b5, b6⟩ := back_ok G ps ws G' M2 us xs _ g2 r2 rr a4 rfl eb a6 (fun j p w h1 h2 => (a10 j p w h1 h2).1) disj
  refine ⟨Gf, R, b1, b2, b3, b4, fun X ys tx ex rf => ?_⟩
  have lf : l0 ≤ (Gf.take l0 ++ X).length := by
    rw [List.length_append, List.length_take, ← b4, hul]; omega
  have l1 : (Gf.take l0).length = l0 := by rw [List.length_take, ← b4, hul]; omega
  have l2 : (us.take l0).length = l0 := by rw [List.length_take, hul]; omega
  refine after_call (ps := ps) (ws := ws) r hn kp.b hb lf rf (by rw [List.map_append, List.map_take, b1, ex]) (fun k hk => ?_) (fun π h1 h2 => ?_) (fun p hp h1 => ?_)
  · rw [List.getElem?_append_left (by omega), List.getElem?_take_of_lt hk]
  · rw [pv_app_lt h1 (by omega), pv_take h1, b5 π h2, a11 π h2]
  · obtain ⟨j, hj⟩ := List.mem_iff_getElem?.mp hp
    have hjw : j < ws.length := by rw [← a6]; exact (List.getElem?_eq_some_iff.mp hj).1
    refine ⟨ws[j], ?_, (a10 j p _ hj (List.getElem?_eq_getElem hjw)).2⟩
    rw [pv_app_lt h1 (by omega), pv_take h1]
    exact b6 j p _ hj (List.getElem?_eq_getElem hjw)
theorem take_nil {us xs : List V} : us ++ (xs ++ []) = us ++ xs := by simp
/-- a call -/
theorem call_core (r : Rg K cl B F H ul σ (tv ++ vs) ρ G us) (hn : vs.length = n) (hb : ρ.bs ≤ l0) (hl : l0 ≤ ρ.g.length) (post : EvP K cl B F ul σ tv Q E (callF sem n l0 ρ)) : PSf K cl sem vs H Q E := by
  have hl' : l0 ≤ G.length := by rw [← List.length_map (f := TL.er) (as := G), r.er]; exact hl
  unfold callF at post
  split at post
  · rename_i ss gh ms ps e
    have r0 : Rl K cl B F H (G ++ []) (us ++ []) := by simpa using r.rl
    obtain ⟨G', M', ws, a1, a2, a3, a4, a5, a6, a7, a8⟩ := call_lent (M0 := []) (m0 := []) r hn hb hl' r0 rfl e
    simp only [List.nil_append] at a3 a7
    have le := a3.lend a4
    refine ⟨B, lendB cl.t H (addrsAll M'), M', ws, ss, le, a6, a7, ?_⟩
    rw [a2]
    split at post
    · -- data
      rename_i d ms' es
      rw [es]
      split at post
      · rename_i g2 eb
        rintro v B' H' M2 us' kp r' em ⟨hu, hd⟩
        subst hu
        obtain ⟨r2, kp2⟩ := a3.back a4 kp r'
        have r2 : Rl K cl B' F H' (G' ++ M2) (us ++ (us' ++ [])) := by simpa using r2
        obtain ⟨Gf, R, b1, b2, b3, b4, b5⟩ := a8 B' H' M2 us' [] g2 [] r2 kp2 (by rw [em]; exact eb)
        have : R = [] := by simpa using b2
        subst this
        have := b5 [] [] [] rfl (drop_roots b3 b4)
        simp only [List.append_nil] at this
        exact post v B' H' _ _ kp2 this hd
      · exact post.elim
    · rename_i u ms' es
      rw [es]
      split at post
      · rename_i g2 eb
        rintro v B' H' M2 us' kp r' em ⟨hu, hd⟩
        subst hu
        obtain ⟨r2, kp2⟩ := a3.back a4 kp r'
        have r2 : Rl K cl B' F H' (G' ++ M2) (us ++ (us' ++ [])) := by simpa using r2
        obtain ⟨Gf, R, b1, b2, b3, b4, b5⟩ := a8 B' H' M2 us' [] g2 [] r2 kp2 (by rw [em]; exact eb)
        have : R = [] := by simpa using b2
        subst this
        have := b5 [] [] [] rfl (drop_roots b3 b4)
        simp only [List.append_nil] at this
        exact post v B' H' _ _ kp2 this hd
      · exact post.elim
    · rename_i ms' es
      rw [es]
      split at post
      · rename_i g2 t eb
        intro v B' H' M2 us' kp r' em hu
        have hu : us' = ws ++ [v] := hu
        subst hu
        obtain ⟨r2, kp2⟩ := a3.back a4 kp r'
        obtain ⟨Gf, R, b1, b2, b3, b4, b5⟩ := a8 B' H' M2 ws [v] g2 [t] r2 kp2 (by rw [em]; exact eb)
        have := b5 R [v] [t] b2 (drop_roots b3 b4)
        exact post v B' H' _ _ kp2 this (by show (us.take l0 ++ [v]).getLast? = some v; simp)
      · exact post.elim
    · rename_i C ms' es
      rw [es]
      split at post
      · rename_i g2 eb
        intro B' H' M2 kp r' em
        obtain ⟨r2, kp2⟩ := a3.back a4 kp r'
        have r2 : Rl K cl B' F H' (G' ++ M2) (us ++ (ws ++ [])) := by simpa using r2
        obtain ⟨Gf, R, b1, b2, b3, b4, b5⟩ := a8 B' H' M2 ws [] g2 [] r2 kp2 (by rw [em]; exact eb)
        have : R = [] := by simpa using b2
        subst this
        have := b5 [] [] [] rfl (drop_roots b3 b4)
        simp only [List.append_nil] at this
        exact post B' H' _ _ kp2 this
      · exact post.elim
    · exact post.elim
  · exact post.elim
/-- a new instance: its __init__ is called -/
theorem make_core {C : String} (r : Rg K cl B F H ul σ (tv ++ vs) ρ G us) (hn : vs.length = n) (hb : ρ.bs ≤ l0) (hl : l0 ≤ ρ.g.length) {x dx : Addr} (hx : H x = none) (hdx : H dx = none) (hne : dx ≠ x)
    (post : EvP K cl B F ul σ tv Q E (makeF C sem n l0 ρ)) : PSf K cl sem (.ref x :: vs) (upd (upd H dx (.own x)) x (.ins (cl C) dx [])) (fun v H2 => v = .non ∧ Q (.ref x) H2) E := by
  have hl' : l0 ≤ G.length := by rw [← List.length_map (f := TL.er) (as := G), r.er]; exact hl
  have g1 := Gw.nw (o := .own x) r.rl.exB hdx
  have hx2 : upd H dx (.own x) x = none := by rw [upd_ne fun z => hne z.symm]; exact hx
  have g2 := Gw.ow (o := .ins (cl C) dx []) (r.grow g1).rl.exB hx2 (.inr (.inr (.inr (.inl ⟨_, _, _, rfl⟩))))
  have gg := g1.trans g2
  have r3 := r.grow gg
  have hul : us.length = G.length := r.rl.at_.length
  have r1 := (r.grow g1).rl
  have r1 : Rl K cl (upd B dx (.own x)) F (upd H dx (.own x)) (G ++ []) (us ++ []) := by simpa using r1
  have r0 := r1.pack (h := .ins C []) hul hx2 rfl (.inr (.inr (.inr (.inl ⟨_, _, _, rfl⟩)))) ⟨free_of r1.exB hx2, rfl, dx, by rw [upd_same]⟩
  unfold makeF at post
  split at post
  · rename_i ss gh ms ps e
    obtain ⟨G', M', ws, a1, a2, a3, a4, a5, a6, a7, a8⟩ := call_lent (M0 := [.nd x (.ins C []) []]) (m0 := [.ref x]) r3 hn hb hl' r0 rfl e
    have le := a3.lend a4
    have kg := gg.kp r.rl.exF
    refine ⟨_, lendB cl.t _ (addrsAll ([.nd x (.ins C []) []] ++ M')), [.nd x (.ins C []) []] ++ M', [.ref x] ++ ws, .pt [0] :: ss, le, by simp [a6], fun i s h => ?_, ?_⟩
    · cases i with
      | zero => simp at h; subst h; exact ⟨.ref x, rfl, rfl⟩
      | succ i => simpa using a7 i s (by simpa using h)
    rw [List.map_append, a2]
    show RsP K cl _ _ _ _ E (sem (.pt [0] :: ss) (.nd () (.ins C []) [] :: ms))
    split at post
    · rename_i o ms' es
      rw [es]
      split at post
      · rename_i g2 eb
        rintro v B' H' M2 us' kp r' em ⟨hu, hd⟩
        subst hu
        cases hd
        refine ⟨rfl, ?_⟩
        obtain ⟨r2, kp2⟩ := a3.back a4 kp r'
        cases M2 with
        | nil => cases em
        | cons u M2 =>
          simp only [List.map_cons, List.cons.injEq] at em
          obtain ⟨eu, em⟩ := em
          -- the object goes behind the others
          have r2' : Rl K cl B' F H' (G' ++ (M2 ++ [u])) (us ++ (ws ++ [.ref x])) := by
            obtain ⟨us', ws', z1, z2, z3⟩ := LtAll.split r2.at_
            have z4 : us' = us := (List.append_inj_left z1 (by rw [a4, z2.length])).symm
            subst z4
            have z5 : ws' = [.ref x] ++ ws := (List.append_cancel_left z1).symm
            subst z5
            cases z3 with
            | cons z6 z7 =>
              refine r2.re (z2.append (z7.append (.cons z6 .nil))) ?_ fun q hq => ?_
              · have n := r2.nod
                rw [addrsAll_append] at n ⊢
                rw [addrsAll_append]
                simp only [addrsAll, List.append_nil] at n ⊢
                have : List.Perm (addrsAll G' ++ (u.addrs ++ addrsAll M2)) (addrsAll G' ++ (addrsAll M2 ++ u.addrs)) := List.Perm.append_left _ List.perm_append_comm
                exact this.nodup_iff.mp n
              · rw [addrsAll_append] at hq ⊢
                rw [addrsAll_append] at hq
                simp only [addrsAll, List.append_nil, List.mem_append] at hq ⊢
                rcases hq with h | h | h <;> simp [h]
          -- the places take theirs back
          have eb' : ∀ (ps : List (List Nat)) (g : List T) (m : List T) (t : T) (g2 : List T), backF g ps m = some (g2, []) → backF g ps (m ++ [t]) = some (g2, [t]) := by
            intro ps
            induction ps with
            | nil => intro g m t g2 h; simp only [backF, Option.some.injEq, Prod.mk.injEq] at h ⊢; obtain ⟨rfl, rfl⟩ := h; exact ⟨rfl, rfl⟩
            | cons p ps ih =>
              intro g m t g2 h
              cases m with
              | nil => simp [backF] at h
              | cons a m =>
                simp only [backF, List.cons_append] at h ⊢
                split at h
                · exact ih _ _ _ _ h
                · cases h
          obtain ⟨Gf, R, b1, b2, b3, b4, b5⟩ := a8 B' H' (M2 ++ [u]) us [.ref x] g2 [o] r2' kp2 (by rw [List.map_append, em]; simp only [List.map_cons, List.map_nil, eu]; exact eb' _ _ _ _ _ eb)
          have := b5 R [.ref x] [o] b2 (drop_roots b3 b4)
          exact post (.ref x) B' H' _ _ (kg.trans kp2) this (by show (us.take l0 ++ [V.ref x]).getLast? = some (.ref x); simp)
      · exact post.elim
    · rename_i D o ms' es
      rw [es]
      split at post
      · rename_i g2 eb
        intro B' H' M2 kp r' em
        obtain ⟨r2, kp2⟩ := a3.back a4 kp r'
        cases M2 with
        | nil => cases em
        | cons u M2 =>
          simp only [List.map_cons, List.cons.injEq] at em
          obtain ⟨eu, em⟩ := em
          have r2' : Rl K cl B' F H' (G' ++ M2) (us ++ (ws ++ [])) := by
            obtain ⟨us', ws', z1, z2, z3⟩ := LtAll.split r2.at_
            have z4 : us' = us := (List.append_inj_left z1 (by rw [a4, z2.length])).symm
            subst z4
            have z5 : ws' = [.ref x] ++ ws := (List.append_cancel_left z1).symm
            subst z5
            cases z3 with
            | cons z6 z7 =>
              have sl : (addrsAll (G' ++ M2)).Sublist (addrsAll (G' ++ (u :: M2))) := by
                rw [addrsAll_append, addrsAll_append]
                exact List.Sublist.append (List.Sublist.refl _) (by simp only [addrsAll]; exact List.sublist_append_right _ _)
              refine r2.re (by simpa using z2.append z7) (sl.nodup r2.nod) fun q hq => sl.subset hq
          obtain ⟨Gf, R, b1, b2, b3, b4, b5⟩ := a8 B' H' M2 us [] g2 [] r2' kp2 (by rw [em]; exact eb)
          have : R = [] := by simpa using b2
          subst this
          have := b5 [] [] [] rfl (drop_roots b3 b4)
          simp only [List.append_nil] at this
          exact post B' H' _ _ (kg.trans kp2) this
      · exact post.elim
    · exact post.elim
  · exact post.elim
end
end Fx

/-! Expressions that may change trees. -/
namespace Fx
open PySem L2
open Evl (Ex)
variable {cl : Kl}
def Fv (K : PySem.W.Frag) (cl : Kl) (W : WX) (te : TE) (f : Rh → Option Ev) : Prop := ∀ (B F H : Hp) (ul : List V) (σ : St) (tv : List V) (ρ : Rh) (G : List LT) (us : List V), Rg K cl B F H ul σ tv ρ G us →
  ∀ Q : VK, EvP K cl B F ul σ tv Q (WE W σ) (f ρ) → te σ H Q
def FaP (K : PySem.W.Frag) (cl : Kl) (B F : Hp) (ul : List V) (σ : St) (tv : List V) (n : Nat) (Q : List V → Hp → Prop) : Option Rh → Prop
  | some ρ => ∀ vs B' H' G us, vs.length = n → Kp F B B' → Rg K cl B' F H' ul σ (tv ++ vs) ρ G us → Q vs H'
  | none => False
/-- arguments, each one laid on tm -/
def Fa (K : PySem.W.Frag) (cl : Kl) (W : WX) (n : Nat) (ta : TA) (f : Rh → Option Rh) : Prop := ∀ (B F H : Hp) (ul : List V) (σ : St) (tv : List V) (ρ : Rh) (G : List LT) (us : List V), Rg K cl B F H ul σ tv ρ G us →
  ∀ Q : List V → Hp → Prop, FaP K cl B F ul σ tv n Q (f ρ) → ta σ H Q
def EtP (K : PySem.W.Frag) (cl : Kl) (B F : Hp) (ul : List V) (σ : St) (tv : List V) (Q : Bool → Hp → Prop) (E : XK) : Option Ev → Prop
  | some (.vl (.s (.py (.bool b))) ρ) => ∀ B' H' G us, Kp F B B' → Rg K cl B' F H' ul σ tv ρ G us → Q b H'
  | some (.ex C ρ) => ∀ B' H' G us, Kp F B B' → Rg K cl B' F H' ul σ tv ρ G us → E (.ref (cl C)) none H'
  | _ => False
def Ft (K : PySem.W.Frag) (cl : Kl) (W : WX) (t : TT) (f : Rh → Option Ev) : Prop := ∀ (B F H : Hp) (ul : List V) (σ : St) (tv : List V) (ρ : Rh) (G : List LT) (us : List V), Rg K cl B F H ul σ tv ρ G us →
  ∀ Q : Bool → Hp → Prop, EtP K cl B F ul σ tv Q (WE W σ) (f ρ) → t σ H Q
def fP (f : Rh → Option Sv) (ρ : Rh) : Option Ev := match f ρ with
  | some s => some (.vl (.s s) ρ)
  | none => none
def fN (f : Rh → Option (Hd × List PyData)) (ρ : Rh) : Option Ev := match f ρ with
  | some (h, ds) => some (.vl .own { ρ with g := ρ.g ++ [.nd () h (ds.map TL.py)] })
  | none => none
def fB (f : Rh → Option Bool) (ρ : Rh) : Option Ev := match f ρ with
  | some b => some (.vl (.s (.py (.bool b))) ρ)
  | none => none
/-- the path of the last root, void -/
def rootF (k : Nat) : List Nat → Bool
  | i :: _ => i == k
  | [] => false
def dropLastF (ρ : Rh) : Rh := { ρ with sl := msk (rootF (ρ.g.length - 1)) ρ.sl, tm := msk (rootF (ρ.g.length - 1)) ρ.tm, g := ρ.g.dropLast }
/-- what is new becomes data that stays -/
def fZ (f : Rh → Option Ev) (ρ : Rh) : Option Ev := match f ρ with
  | some (.vl .own ρ1) => match ρ1.g.getLast? with
    | some t => match t.data with
      | some d => if ρ1.bs < ρ1.g.length then some (.vl (.s (.py d)) (dropLastF ρ1)) else none
      | none => none
    | none => none
  | some (.vl (.s s) ρ1) => some (.vl (.s s) ρ1)
  | some (.ex C ρ1) => some (.ex C ρ1)
  | none => none
def push (r : Rv) (ρ : Rh) : Option Rh := match r with
  | .s s => some { ρ with tm := ρ.tm ++ [some s] }
  | .own => match ρ.g.getLast? with
    | some (.nd _ _ _) => some { ρ with tm := ρ.tm ++ [some (.pt [ρ.g.length - 1])] }
    | _ => none
def gNo (ρ : Rh) : Option Rh := some ρ
def gCo (f : Rh → Option Ev) (g : Rh → Option Rh) (ρ : Rh) : Option Rh := match f ρ with
  | some (.vl r ρ1) => match push r ρ1 with
    | some ρ2 => g ρ2
    | none => none
  | _ => none
def fCall (sem : Sem) (n : Nat) (g : Rh → Option Rh) (ρ : Rh) : Option Ev := match g ρ with
  | some ρ1 => if ρ.g.length ≤ ρ1.g.length then callF sem n ρ.g.length ρ1 else none
  | none => none
def fMake (C : String) (sem : Sem) (n : Nat) (g : Rh → Option Rh) (ρ : Rh) : Option Ev := match g ρ with
  | some ρ1 => if ρ.g.length ≤ ρ1.g.length then makeF C sem n ρ.g.length ρ1 else none
  | none => none
/-- o.m(..) of the class C -/
def fMeth (C : String) (m : Str) (sem : Sem) (n : Nat) (f : Rh → Option Sv) (g : Rh → Option Rh) (ρ : Rh) : Option Ev := match f ρ with
  | some (.pt π) => match gget ρ.g π with
    | some (.nd _ (.ins D fs) _) => if D = C then match ixS fs m with
        | none => match g { ρ with tm := ρ.tm ++ [some (.pt π)] } with
          | some ρ1 => if ρ.g.length ≤ ρ1.g.length then callF sem (n + 1) ρ.g.length ρ1 else none
          | none => none
        | some _ => none
      else none
    | _ => none
  | _ => none
def fBin2 (o : PyData → PyData → Option PyData) (f g : Rh → Option Ev) (ρ : Rh) : Option Ev := match f ρ with
  | some (.vl (.s (.py d)) ρ1) => match g ρ1 with
    | some (.vl (.s s) ρ2) => match dat ρ2 s with
      | some e => match o d e with
        | some r => if noList r then some (.vl (.s (.py r)) ρ2) else none
        | none => none
      | none => none
    | _ => none
  | some (.ex C ρ1) => some (.ex C ρ1)
  | _ => none
def fCmp2 (o : PyData → PyData → Option Bool) (f g : Rh → Option Ev) (ρ : Rh) : Option Ev := match f ρ with
  | some (.vl (.s (.py d)) ρ1) => match g ρ1 with
    | some (.vl (.s s) ρ2) => match dat ρ2 s with
      | some e => match o d e with
        | some b => some (.vl (.s (.py (.bool b))) ρ2)
        | none => none
      | none => none
    | some (.ex C ρ2) => some (.ex C ρ2)
    | _ => none
  | some (.ex C ρ1) => some (.ex C ρ1)
  | _ => none
def fAnd (f g : Rh → Option Ev) (ρ : Rh) : Option Ev := match f ρ with
  | some (.vl (.s (.py (.bool true))) ρ1) => g ρ1
  | some (.vl (.s (.py (.bool false))) ρ1) => some (.vl (.s (.py (.bool false))) ρ1)
  | some (.ex C ρ1) => some (.ex C ρ1)
  | _ => none
def fOr (f g : Rh → Option Ev) (ρ : Rh) : Option Ev := match f ρ with
  | some (.vl (.s (.py (.bool true))) ρ1) => some (.vl (.s (.py (.bool true))) ρ1)
  | some (.vl (.s (.py (.bool false))) ρ1) => g ρ1
  | some (.ex C ρ1) => some (.ex C ρ1)
  | _ => none
def fNot (f : Rh → Option Ev) (ρ : Rh) : Option Ev := match f ρ with
  | some (.vl (.s (.py (.bool b))) ρ1) => some (.vl (.s (.py (.bool (!b)))) ρ1)
  | some (.ex C ρ1) => some (.ex C ρ1)
  | _ => none
/-- a value that is a truth: what and, or give -/
def fBo (f : Rh → Option Ev) (ρ : Rh) : Option Ev := match f ρ with
  | some (.vl (.s (.py (.bool b))) ρ1) => some (.vl (.s (.py (.bool b))) ρ1)
  | some (.ex C ρ1) => some (.ex C ρ1)
  | _ => none
/-- what stands at a place goes out -/
def fMv (f : Rh → Option Sv) (ρ : Rh) : Option Ev := match f ρ with
  | some (.pt π) => match gget ρ.g π with
    | some t => some (.vl .own { ρ with sl := msk (fun π2 => π.isPrefixOf π2) ρ.sl, tm := msk (fun π2 => π.isPrefixOf π2) ρ.tm, g := gput ρ.g π (.un ()) ++ [t] })
    | none => none
  | _ => none
/-- a new list, read by a pure operation: the value is made data, then op -/
def fOn (f : Rh → Option Ev) (o : PyData → Option PyData) (ρ : Rh) : Option Ev := match f ρ with
  | some (.vl (.s s) ρ1) => match dat ρ1 s with
    | some d => match o d with
      | some r => some (.vl (.s (.py r)) ρ1)
      | none => none
    | none => none
  | some (.ex C ρ1) => some (.ex C ρ1)
  | _ => none
section
variable {K : PySem.W.Frag} {W : WX} {te ta tb : TE} {tr : TA} {f g h : Rh → Option Ev} {pf : Rh → Option Sv} {nf : Rh → Option (Hd × List PyData)} {ga gb : Rh → Option Rh} {n m : Nat} {sem : Sem} {t u : TT} {bf : Rh → Option Bool}
theorem Rg.gl {B F H : Hp} {ul tv us : List V} {σ : St} {ρ : Rh} {G : List LT} (r : Rg K cl B F H ul σ tv ρ G us) : ρ.g.length = G.length := by rw [← r.er, List.length_map]
theorem Rg.ul_ {B F H : Hp} {ul tv us : List V} {σ : St} {ρ : Rh} {G : List LT} (r : Rg K cl B F H ul σ tv ρ G us) : us.length = G.length := r.rl.at_.length
theorem EvP.imp {B B1 F : Hp} {ul tv : List V} {σ : St} {Q : VK} {E : XK} (k : Kp F B B1) : ∀ {o : Option Ev}, EvP K cl B F ul σ tv Q E o → EvP K cl B1 F ul σ tv Q E o
  | some (.vl r ρ), h => fun v B' H' G us k' => h v B' H' G us (k.trans k')
  | some (.ex C ρ), h => fun B' H' G us k' => h B' H' G us (k.trans k')
  | none, h => h
theorem FaP.imp {B B1 F : Hp} {ul tv : List V} {σ : St} {Q : List V → Hp → Prop} (k : Kp F B B1) : ∀ {o : Option Rh}, FaP K cl B F ul σ tv n Q o → FaP K cl B1 F ul σ tv n Q o
  | some ρ, h => fun vs B' H' G us hn k' => h vs B' H' G us hn (k.trans k')
  | none, h => h
theorem EtP.imp {B B1 F : Hp} {ul tv : List V} {σ : St} {Q : Bool → Hp → Prop} {E : XK} (k : Kp F B B1) {o : Option Ev} (h : EtP K cl B F ul σ tv Q E o) : EtP K cl B1 F ul σ tv Q E o := by
  unfold EtP at h ⊢
  split at h
  · exact fun B' H' G us k' => h B' H' G us (k.trans k')
  · exact fun B' H' G us k' => h B' H' G us (k.trans k')
  · exact h.elim
theorem fv_p (h : Pv K cl te pf) : Fv K cl W te (fP pf) := fun B F H ul σ tv ρ G us r Q p => by
  unfold fP at p
  split at p
  · rename_i s e
    exact h B F H ul σ tv ρ G us s r e Q fun v B' H' w hs => p v B' H' G us (w.kp r.rl.exF) (r.grow w) hs
  · exact p.elim
theorem ft_b (h : Pt K cl t bf) : Ft K cl W t (fB bf) := fun B F H ul σ tv ρ G us r Q p => by
  unfold fB at p
  split at p
  · rename_i b e
    exact h B F H ul σ tv ρ G us b r e Q fun B' H' w => p B' H' G us (w.kp r.rl.exF) (r.grow w)
  · exact p.elim
/-- a root that is added -/
theorem Rg.addRoot {B F H : Hp} {ul tv us : List V} {σ : St} {ρ : Rh} {G : List LT} {u : LT} {v : V} {H' B' : Hp} (r : Rg K cl B F H ul σ tv ρ G us) (rl : Rl K cl B' F H' (G ++ [u]) (us ++ [v])) (e : Ex B B') : Rg K cl B' F H' ul σ tv { ρ with g := ρ.g ++ [u.er] } (G ++ [u]) (us ++ [v]) := by
  refine ⟨by simp [r.er], rl, r.bs, by have := r.le; simp; omega, ?_, r.sl.keep e fun π v h => pv_append h, r.tm.keep e fun π v h => pv_append h⟩
  have h1 := r.ul
  have h2 := r.bs
  have h3 := r.le
  have h4 := r.ul_
  rw [List.drop_append_of_le_length (by omega), List.take_append_of_le_length (by simp; omega)]
  exact h1
theorem erAll_py (ds : List PyData) : erAll (ds.map (TL.py (α := Addr) (β := V))) = ds.map TL.py := by rw [erAll_map, List.map_map]; rfl
theorem fv_n (h : Nv K cl te nf) : Fv K cl W te (fN nf) := fun B F H ul σ tv ρ G us r Q p => by
  unfold fN at p
  split at p
  · rename_i hd ds e
    refine h B F H ul σ tv ρ G us hd ds r e Q fun q vs B' H' o w hq ho own hn a => ?_
    have r1 := r.grow w
    have r2 := (r1.rl.addpy a).pack (h := hd) r.ul_ hq ho own hn
    have g2 := Gw.ow r1.rl.exB hq own
    have r3 := r.addRoot r2 w.b
    have e2 : (TL.nd q hd (ds.map TL.py) : LT).er = .nd () hd (ds.map TL.py) := by simp only [TL.er, erAll_py]
    rw [e2] at r3
    exact p (.ref q) B' _ _ _ (w.kp r.rl.exF) r3 (by show (us ++ [V.ref q]).getLast? = _; simp)
  · exact p.elim
/-- the last root goes -/
theorem Rg.dropLast {B F H : Hp} {ul tv us : List V} {σ : St} {ρ : Rh} {G : List LT} {u : LT} {v : V} {B' : Hp} (r : Rg K cl B F H ul σ tv ρ (G ++ [u]) (us ++ [v])) (hb : ρ.bs < ρ.g.length) (rl : Rl K cl B' F H G us) (e : Ex B B') : Rg K cl B' F H ul σ tv (dropLastF ρ) G us := by
  have hl : ρ.g.length = G.length + 1 := by rw [r.gl]; simp
  have hu : us.length = G.length := by have := r.ul_; simp at this; omega
  have key : ∀ π v, rootF (ρ.g.length - 1) π = false → pv (G ++ [u]) π = some v → pv G π = some v := fun π v h1 h2 => by
    cases π with
    | nil => simp [pv, gget] at h2
    | cons i s =>
      have hi : i ≠ G.length := by
        intro z
        subst z
        simp [rootF, hl] at h1
      unfold pv at h2 ⊢
      simp only [gget] at h2 ⊢
      by_cases hlt : i < G.length
      · rw [List.getElem?_append_left hlt] at h2; exact h2
      · rw [List.getElem?_eq_none (by simp; omega)] at h2; cases h2
  refine ⟨?_, rl, r.bs, by show ρ.bs ≤ G.length; omega, ?_, r.sl.mask e key, r.tm.mask e key⟩
  · show G.map TL.er = ρ.g.dropLast
    rw [← r.er]; simp
  · have h1 := r.ul
    have h2 := r.bs
    rw [List.drop_append_of_le_length (by omega), List.take_append_of_le_length (by simp; omega)] at h1
    exact h1
theorem last_split {us : List V} {v : V} (h : us.getLast? = some v) : us = us.dropLast ++ [v] := by
  have hne : us ≠ [] := fun z => by rw [z] at h; cases h
  rw [List.getLast?_eq_some_getLast hne] at h
  cases h
  exact (List.dropLast_concat_getLast hne).symm
/-- with a last root that is known -/
theorem Rg.lastRoot {B F H : Hp} {ul tv us : List V} {σ : St} {ρ : Rh} {G : List LT} {v : V} {t : T} (r : Rg K cl B F H ul σ tv ρ G us) (hv : us.getLast? = some v) (ht : ρ.g.getLast? = some t) :
    ∃ (G0 : List LT) (u : LT) (us0 : List V), G = G0 ++ [u] ∧ us = us0 ++ [v] ∧ u.er = t ∧ us0.length = G0.length := by
  have hl := r.ul_
  have e1 := last_split hv
  rw [← r.er, List.getLast?_map] at ht
  cases hG : G.getLast? with
  | none => rw [hG] at ht; cases ht
  | some u =>
    rw [hG] at ht
    simp only [Option.map_some, Option.some.injEq] at ht
    have hne : G ≠ [] := fun z => by rw [z] at hG; cases hG
    have e2 : G = G.dropLast ++ [u] := by
      rw [List.getLast?_eq_some_getLast hne] at hG
      cases hG
      exact (List.dropLast_concat_getLast hne).symm
    refine ⟨G.dropLast, u, us.dropLast, e2, e1, ht, ?_⟩
    rw [List.length_dropLast, List.length_dropLast, hl]
theorem fv_z (h : Fv K cl W te f) : Fv K cl W te (fZ f) := fun B F H ul σ tv ρ G us r Q p => by
  refine h B F H ul σ tv ρ G us r Q ?_
  unfold fZ at p
  split at p
  · rename_i ρ1 e
    rw [e]
    intro v B1 H1 G1 us1 k1 r1 hv
    split at p
    · rename_i t et
      split at p
      · rename_i d ed
        split at p
        · rename_i hb
          obtain ⟨G0, u, us0, rfl, rfl, eu, hl⟩ := r1.lastRoot hv et
          have ed : u.data = some d := by rw [← eu, data_er] at ed; exact ed
          obtain ⟨a1, a2, a3⟩ := r1.rl.freeze ed
          exact p v _ H1 G0 us0 (k1.trans a2) (r1.dropLast hb a1 a2.b) a3
        · exact p.elim
      · exact p.elim
    · exact p.elim
  · rename_i s ρ1 e; rw [e]; exact p
  · rename_i C ρ1 e; rw [e]; exact p
  · exact p.elim
theorem fa_no : Fa K cl W 0 tNil gNo := fun B F H ul σ tv ρ G us r Q p => by
  exact p [] B H G us rfl (Kp.refl F B) (by rw [List.append_nil]; exact r)
theorem push_ok {B F H : Hp} {ul tv us : List V} {σ : St} {ρ ρ' : Rh} {G : List LT} {v : V} {x : Rv} (r : Rg K cl B F H ul σ tv ρ G us) (hv : RvAt K B G us v x) (e : push x ρ = some ρ') : Rg K cl B F H ul σ (tv ++ [v]) ρ' G us := by
  cases x with
  | s s =>
    simp only [push, Option.some.injEq] at e
    subst e
    exact ⟨r.er, r.rl, r.bs, r.le, r.ul, r.sl, by rw [List.map_append]; exact r.tm.snoc hv⟩
  | own =>
    simp only [push] at e
    split at e
    · rename_i a h cs et
      cases e
      obtain ⟨G0, u, us0, rfl, rfl, eu, hl⟩ := r.lastRoot hv et
      refine ⟨r.er, r.rl, r.bs, r.le, r.ul, r.sl, by
        rw [List.map_append]
        refine r.tm.snoc ?_
        show pv (G0 ++ [u]) [ρ.g.length - 1] = some v
        obtain ⟨_, h1, _⟩ := r.rl.last
        have : ρ.g.length - 1 = G0.length := by rw [r.gl]; simp
        rw [this]
        unfold pv
        simp only [gget, List.getElem?_append_right (Nat.le_refl _)]
        cases u with
        | un => cases eu
        | py => cases eu
        | nd q hd c => cases h1; simp [TL.get, lref]⟩
    · cases e
theorem fa_co (h : Fv K cl W te f) (hr : Fa K cl W n tr ga) : Fa K cl W (n + 1) (tCons te tr) (gCo f ga) := fun B F H ul σ tv ρ G us r Q p => by
  refine h B F H ul σ tv ρ G us r _ ?_
  unfold gCo at p
  split at p
  · rename_i x ρ1 e
    rw [e]
    intro v B1 H1 G1 us1 k1 r1 hv
    split at p
    · rename_i ρ2 e2
      have r2 := push_ok r1 hv e2
      refine hr B1 F H1 ul σ (tv ++ [v]) ρ2 G1 us1 r2 _ ?_
      cases e3 : ga ρ2 with
      | none => rw [e3] at p; exact p.elim
      | some ρ3 =>
        rw [e3] at p
        intro vs B2 H2 G2 us2 hn k2 r3
        exact p (v :: vs) B2 H2 G2 us2 (by simp [hn]) (k1.trans k2) (by simpa using r3)
    · exact p.elim
  · exact p.elim
theorem Rg.bs_eq {B F H B' H' : Hp} {ul tv tv' us us' : List V} {σ : St} {ρ ρ' : Rh} {G G' : List LT} (r : Rg K cl B F H ul σ tv ρ G us) (r' : Rg K cl B' F H' ul σ tv' ρ' G' us') : ρ'.bs = ρ.bs := by rw [← r.bs, ← r'.bs]
theorem fv_call (ha : Fa K cl W n tr ga) : Fv K cl W (tCallSD (PSf K cl sem) [] (WE W) tr) (fCall sem n ga) := fun B F H ul σ tv ρ G us r Q p => by
  refine ha B F H ul σ tv ρ G us r _ ?_
  unfold fCall at p
  split at p
  · rename_i ρ1 e
    rw [e]
    intro vs B1 H1 G1 us1 hn k1 r1
    rw [List.append_nil]
    split at p
    · rename_i hl
      refine call_core r1 hn ?_ hl (p.imp k1)
      rw [r.bs_eq r1, r.gl]; exact r.le
    · exact p.elim
  · exact p.elim
theorem fv_make {C : String} (ha : Fa K cl W n tr ga) : Fv K cl W (fun σ H Q => tr σ H fun vs H1 => ∀ x dx, H1 x = none → H1 dx = none → dx ≠ x → PSf K cl sem (.ref x :: (vs ++ [])) (upd (upd H1 dx (.own x)) x (.ins (cl C) dx [])) (fun v H2 => v = .non ∧ Q (.ref x) H2) (WE W σ)) (fMake C sem n ga) := fun B F H ul σ tv ρ G us r Q p => by
  refine ha B F H ul σ tv ρ G us r _ ?_
  unfold fMake at p
  split at p
  · rename_i ρ1 e
    rw [e]
    intro vs B1 H1 G1 us1 hn k1 r1 x dx hx hdx hne
    rw [List.append_nil]
    split at p
    · rename_i hl
      refine make_core r1 hn ?_ hl hx hdx hne (p.imp k1)
      rw [r.bs_eq r1, r.gl]; exact r.le
    · exact p.elim
  · exact p.elim
/-- o.m(..), what is raised wished for at the slots -/
def tMethSD (C : Addr) (m : Str) (sp : Sp) (dvs : List V) (E : St → XK) (ta : TE) (t : TA) : TE := fun σ H Q => ta σ H fun x H1 => ∃ a dx fs, x = .ref a ∧ H1 a = some (.ins C dx fs) ∧ fs.lookup m = none ∧
  t σ H1 fun vs H2 => sp (x :: (vs ++ dvs)) H2 Q (E σ)
theorem look_none : ∀ {fs : List Str} {vs : List V} {f : Str}, ixS fs f = none → (fs.zip vs).lookup f = none
  | [], _, _, _ => rfl
  | g :: r, [], _, _ => rfl
  | g :: r, x :: vs, f, h => by
    unfold ixS at h
    split at h
    · cases h
    · rename_i z
      have h1 : ixS r f = none := by
        cases h1 : ixS r f with
        | none => rfl
        | some j => rw [h1] at h; simp at h
      have n : (f == g) = false := by simp; exact fun z' => z z'.symm
      simp [List.lookup, n, look_none h1]
theorem fv_meth {C : String} {m : Str} (ho : Pv K cl ta pf) (ha : Fa K cl W n tr ga) : Fv K cl W (tMethSD (cl C) m (PSf K cl sem) [] (WE W) ta tr) (fMeth C m sem n pf ga) := fun B F H ul σ tv ρ G us r Q p => by
  unfold fMeth at p
  split at p
  · rename_i π e
    refine ho B F H ul σ tv ρ G us _ r e _ fun x B1 H1 w hx => ?_
    have hx : pv G π = some x := hx
    have r1 := r.grow w
    split at p
    · rename_i D fs cs hg
      obtain ⟨q, cs', g1, rfl, rfl⟩ := node_of r hg hx
      split at p
      · rename_i eD
        subst eD
        split at p
        · rename_i hm
          obtain ⟨vs0, hn, hc⟩ := r1.rl.node g1
          obtain ⟨_, hl, dx, hh⟩ := hn
          have r2 : Rg K cl B1 F H1 ul σ (tv ++ [.ref q]) { ρ with tm := ρ.tm ++ [some (.pt π)] } G us := push_ok (x := .s (.pt π)) r1 hx rfl
          refine ⟨q, dx, _, rfl, hh, look_none hm, ha B1 F H1 ul σ _ _ G us r2 _ ?_⟩
          split at p
          · rename_i ρ1 e2
            rw [e2]
            intro vs B2 H2 G2 us2 hn k2 r3
            rw [List.append_nil]
            split at p
            · rename_i hle
              have r3 : Rg K cl B2 F H2 ul σ (tv ++ (.ref q :: vs)) ρ1 G2 us2 := by simpa using r3
              refine call_core (vs := .ref q :: vs) r3 (by simp [hn]) ?_ hle (p.imp ((w.kp r.rl.exF).trans k2))
              rw [r.bs_eq r3, r.gl]; exact r.le
            · exact p.elim
          · exact p.elim
        · exact p.elim
      · exact p.elim
    · exact p.elim
  · exact p.elim
theorem fv_cmp2 {op : CmpOp} {o : PyData → PyData → Option Bool} (ho : IsCmp op o) (ha : Fv K cl W ta f) (hb : Fv K cl W tb g) : Fv K cl W (tOp (rCmp K op) ta tb) (fCmp2 o f g) := fun B F H ul σ tv ρ G us r Q p => by
  refine ha B F H ul σ tv ρ G us r _ ?_
  unfold fCmp2 at p
  split at p
  · rename_i d ρ1 e
    rw [e]
    intro x B1 H1 G1 us1 k1 r1 hx
    have hx : Dp K B1 x d := hx
    refine hb B1 F H1 ul σ tv ρ1 G1 us1 r1 _ ?_
    split at p
    · rename_i s ρ2 e2
      rw [e2]
      intro y B2 H2 G2 us2 k2 r2 hy
      split at p
      · rename_i d2 ed
        split at p
        · rename_i b eb
          exact ⟨d, d2, b, r2.rl.up (Dp.mono k2.b _ _ hx), dat_of r2 hy ed, ho _ _ _ eb, p (.bl b) B2 H2 G2 us2 (k1.trans k2) r2 (.bl b)⟩
        · exact p.elim
      · exact p.elim
    · rename_i C ρ2 e2
      rw [e2]
      exact fun B2 H2 G2 us2 k2 r2 => p B2 H2 G2 us2 (k1.trans k2) r2
    · exact p.elim
  · rename_i C ρ1 e
    rw [e]
    exact p
  · exact p.elim
theorem ft_test (ha : Fv K cl W te f) : Ft K cl W (tTest te) (fBo f) := fun B F H ul σ tv ρ G us r Q p => by
  refine ha B F H ul σ tv ρ G us r _ ?_
  unfold fBo at p
  split at p
  · rename_i b ρ1 e
    rw [e]
    intro x B1 H1 G1 us1 k1 r1 hx
    have hx : Dp K B1 x (.bool b) := hx
    cases hx
    exact ⟨b, rfl, p B1 H1 G1 us1 k1 r1⟩
  · rename_i C ρ1 e
    rw [e]
    exact p
  · exact p.elim
theorem ft_val (ha : Fv K cl W te f) : Ft K cl W (tB te) (fBo f) := fun B F H ul σ tv ρ G us r Q p => by
  refine ha B F H ul σ tv ρ G us r _ ?_
  unfold fBo at p
  split at p
  · rename_i b ρ1 e
    rw [e]
    intro x B1 H1 G1 us1 k1 r1 hx
    have hx : Dp K B1 x (.bool b) := hx
    cases hx
    exact ⟨b, rfl, p B1 H1 G1 us1 k1 r1⟩
  · rename_i C ρ1 e
    rw [e]
    exact p
  · exact p.elim
theorem EtP_imp {B B1 F : Hp} {ul tv : List V} {σ : St} {Q : Bool → Hp → Prop} {E : XK} {o : Option Ev} (k : Kp F B B1) (h : EtP K cl B F ul σ tv Q E o) : EtP K cl B1 F ul σ tv Q E o := h.imp k
theorem ft_and (ha : Ft K cl W t f) (hb : Ft K cl W u g) : Ft K cl W (tAnd t u) (fAnd f g) := fun B F H ul σ tv ρ G us r Q p => by
  refine ha B F H ul σ tv ρ G us r _ ?_
  unfold fAnd at p
  split at p
  · rename_i ρ1 e
    rw [e]
    intro B1 H1 G1 us1 k1 r1
    exact iteT (hb B1 F H1 ul σ tv ρ1 G1 us1 r1 _ (p.imp k1))
  · rename_i ρ1 e
    rw [e]
    intro B1 H1 G1 us1 k1 r1
    exact iteF (p B1 H1 G1 us1 k1 r1)
  · rename_i C ρ1 e
    rw [e]
    exact p
  · exact p.elim
theorem ft_or (ha : Ft K cl W t f) (hb : Ft K cl W u g) : Ft K cl W (tOr t u) (fOr f g) := fun B F H ul σ tv ρ G us r Q p => by
  refine ha B F H ul σ tv ρ G us r _ ?_
  unfold fOr at p
  split at p
  · rename_i ρ1 e
    rw [e]
    intro B1 H1 G1 us1 k1 r1
    exact iteT (p B1 H1 G1 us1 k1 r1)
  · rename_i ρ1 e
    rw [e]
    intro B1 H1 G1 us1 k1 r1
    exact iteF (hb B1 F H1 ul σ tv ρ1 G1 us1 r1 _ (p.imp k1))
  · rename_i C ρ1 e
    rw [e]
    exact p
  · exact p.elim
theorem ft_not (ha : Ft K cl W t f) : Ft K cl W (tNot t) (fNot f) := fun B F H ul σ tv ρ G us r Q p => by
  refine ha B F H ul σ tv ρ G us r _ ?_
  unfold fNot at p
  split at p
  · rename_i b ρ1 e
    rw [e]
    exact fun B1 H1 G1 us1 k1 r1 => p B1 H1 G1 us1 k1 r1
  · rename_i C ρ1 e
    rw [e]
    exact p
  · exact p.elim
theorem fv_and (ha : Fv K cl W ta f) (hb : Fv K cl W tb g) : Fv K cl W (tAndV ta tb) (fAnd f (fBo g)) := fun B F H ul σ tv ρ G us r Q p => by
  refine ha B F H ul σ tv ρ G us r _ ?_
  unfold fAnd at p
  split at p
  · rename_i ρ1 e
    rw [e]
    intro x B1 H1 G1 us1 k1 r1 hx
    have hx : Dp K B1 x (.bool true) := hx
    cases hx
    refine ⟨true, rfl, iteT (hb B1 F H1 ul σ tv ρ1 G1 us1 r1 _ ?_)⟩
    unfold fBo at p
    split at p
    · rename_i b ρ2 e2
      rw [e2]
      exact fun y B2 H2 G2 us2 k2 r2 hy => p y B2 H2 G2 us2 (k1.trans k2) r2 hy
    · rename_i C ρ2 e2
      rw [e2]
      exact fun B2 H2 G2 us2 k2 r2 => p B2 H2 G2 us2 (k1.trans k2) r2
    · exact p.elim
  · rename_i ρ1 e
    rw [e]
    intro x B1 H1 G1 us1 k1 r1 hx
    have hx : Dp K B1 x (.bool false) := hx
    cases hx
    exact ⟨false, rfl, iteF (p _ B1 H1 G1 us1 k1 r1 (.bl false))⟩
  · rename_i C ρ1 e
    rw [e]
    exact p
  · exact p.elim
theorem fv_or (ha : Fv K cl W ta f) (hb : Fv K cl W tb g) : Fv K cl W (tOrV ta tb) (fOr f (fBo g)) := fun B F H ul σ tv ρ G us r Q p => by
  refine ha B F H ul σ tv ρ G us r _ ?_
  unfold fOr at p
  split at p
  · rename_i ρ1 e
    rw [e]
    intro x B1 H1 G1 us1 k1 r1 hx
    have hx : Dp K B1 x (.bool true) := hx
    cases hx
    exact ⟨true, rfl, iteT (p _ B1 H1 G1 us1 k1 r1 (.bl true))⟩
  · rename_i ρ1 e
    rw [e]
    intro x B1 H1 G1 us1 k1 r1 hx
    have hx : Dp K B1 x (.bool false) := hx
    cases hx
    refine ⟨false, rfl, iteF (hb B1 F H1 ul σ tv ρ1 G1 us1 r1 _ ?_)⟩
    unfold fBo at p
    split at p
    · rename_i b ρ2 e2
      rw [e2]
      exact fun y B2 H2 G2 us2 k2 r2 hy => p y B2 H2 G2 us2 (k1.trans k2) r2 hy
    · rename_i C ρ2 e2
      rw [e2]
      exact fun B2 H2 G2 us2 k2 r2 => p B2 H2 G2 us2 (k1.trans k2) r2
    · exact p.elim
  · rename_i C ρ1 e
    rw [e]
    exact p
  · exact p.elim
theorem fv_not (ha : Fv K cl W ta f) : Fv K cl W (tNotV ta) (fNot f) := fun B F H ul σ tv ρ G us r Q p => by
  refine ha B F H ul σ tv ρ G us r _ ?_
  unfold fNot at p
  split at p
  · rename_i b ρ1 e
    rw [e]
    intro x B1 H1 G1 us1 k1 r1 hx
    have hx : Dp K B1 x (.bool b) := hx
    cases hx
    exact ⟨b, rfl, p _ B1 H1 G1 us1 k1 r1 (.bl _)⟩
  · rename_i C ρ1 e
    rw [e]
    exact p
  · exact p.elim
theorem fv_mv (ha : Pv K cl ta pf) : Fv K cl W ta (fMv pf) := fun B F H ul σ tv ρ G us r Q p => by
  unfold fMv at p
  split at p
  · rename_i π e
    refine ha B F H ul σ tv ρ G us _ r e _ fun x B1 H1 w hx => ?_
    have hx : pv G π = some x := hx
    have r1 := r.grow w
    split at p
    · rename_i t hg
      obtain ⟨u, g1, rfl⟩ := r.get hg
      obtain ⟨y, hy, r2⟩ := r1.rl.out1 g1
      have ex : x = y := by
        unfold pv at hx
        rw [g1] at hx
        cases u with
        | un => cases hx
        | py => cases hx
        | nd q hd cs => cases hx; cases hy; rfl
      subst ex
      have key : ∀ π2 v, (fun π2 => π.isPrefixOf π2) π2 = false → pv G π2 = some v → pv (gput G π (.un x) ++ [u]) π2 = some v := fun π2 v h1 h2 => by
        refine pv_append ?_
        rw [pv_put_ne fun z => by simp only [pre_iff.mpr z] at h1; cases h1]
        exact h2
      refine p x B1 H1 _ _ (w.kp r.rl.exF) ⟨?_, r2, r.bs, ?_, ?_, r1.sl.mask (Evl.Ex.refl _) key, r1.tm.mask (Evl.Ex.refl _) key⟩ ?_
      · rw [List.map_append, gput_er, r.er]; rfl
      · have := r.le
        rw [List.length_append, gput_len]
        show ρ.bs ≤ _
        omega
      · have h1 := r.ul
        have h2 := r.bs
        have h3 := r.le
        have h4 := r.ul_
        rw [List.drop_append_of_le_length (by omega), List.take_append_of_le_length (by simp; omega)]
        exact h1
      · show (us ++ [x]).getLast? = some x
        simp
    · exact p.elim
  · exact p.elim
end
end Fx

/-! Statements. -/
namespace Fx
open PySem L2
open Evl (Ex)
variable {cl : Kl}
inductive Oc where
  | nx (ρ : Rh)
  | rt (r : Rv) (ρ : Rh)
  | bk (ρ : Rh)
  | ct (ρ : Rh)
  | ex (C : String) (ρ : Rh)
def OcP (K : PySem.W.Frag) (cl : Kl) (B F : Hp) (ul tv : List V) (W : WX) (D : Ends) : Option Oc → Prop
  | some (.nx ρ) => ∀ B' H' σ' G us, Kp F B B' → Rg K cl B' F H' ul σ' tv ρ G us → D.nx σ' H'
  | some (.rt r ρ) => ∀ v B' H' σ' G us, Kp F B B' → Rg K cl B' F H' ul σ' tv ρ G us → RvAt K B' G us v r → D.rt v H'
  | some (.bk ρ) => ∀ B' H' σ' G us, Kp F B B' → Rg K cl B' F H' ul σ' tv ρ G us → D.bk σ' H'
  | some (.ct ρ) => ∀ B' H' σ' G us, Kp F B B' → Rg K cl B' F H' ul σ' tv ρ G us → D.ct σ' H'
  | some (.ex C ρ) => ∀ B' H' σ' G us, Kp F B B' → Rg K cl B' F H' ul σ' tv ρ G us → W (.ref (cl C)) none σ' H'
  | none => False
def Sx (K : PySem.W.Frag) (cl : Kl) (W : WX) (t : TS) (f : Rh → Option Oc) : Prop := ∀ (B F H : Hp) (ul : List V) (σ : St) (tv : List V) (ρ : Rh) (G : List LT) (us : List V) (D : Ends), Rg K cl B F H ul σ tv ρ G us →
  OcP K cl B F ul tv W D (f ρ) → t D σ H
/-- a target: what it is handed, where it puts it -/
def Tg (K : PySem.W.Frag) (cl : Kl) (g : TG) (f : Sv → Rh → Option Rh) : Prop := ∀ (B F H : Hp) (ul : List V) (σ : St) (tv : List V) (ρ ρ' : Rh) (G : List LT) (us : List V) (v : V) (s : Sv), Rg K cl B F H ul σ tv ρ G us → SvAt K B G v s → f s ρ = some ρ' →
  ∀ Q : St → Hp → Prop, (∀ σ', Rg K cl B F H ul σ' tv ρ' G us → Q σ' H) → g v σ H Q
def Tgs (K : PySem.W.Frag) (cl : Kl) (g : TGs) (f : List PyData → Rh → Option Rh) : Prop := ∀ (B F H : Hp) (ul : List V) (σ : St) (tv : List V) (ρ ρ' : Rh) (G : List LT) (us : List V) (vs : List V) (ds : List PyData), Rg K cl B F H ul σ tv ρ G us → DpAll K B vs ds → f ds ρ = some ρ' →
  ∀ Q : St → Hp → Prop, (∀ σ', Rg K cl B F H ul σ' tv ρ' G us → Q σ' H) → g vs σ H Q
def sNx (ρ : Rh) : Option Oc := some (.nx ρ)
def sBk (ρ : Rh) : Option Oc := some (.bk ρ)
def sCt (ρ : Rh) : Option Oc := some (.ct ρ)
def sRN (ρ : Rh) : Option Oc := some (.rt (.s (.py .none)) ρ)
def sSq (f g : Rh → Option Oc) (ρ : Rh) : Option Oc := match f ρ with
  | some (.nx ρ1) => g ρ1
  | o => o
def sDr (f : Rh → Option Ev) (ρ : Rh) : Option Oc := match f ρ with
  | some (.vl (.s _) ρ1) => some (.nx ρ1)
  | some (.vl .own ρ1) => if ρ1.bs < ρ1.g.length then some (.nx (dropLastF ρ1)) else none
  | some (.ex C ρ1) => some (.ex C ρ1)
  | none => none
def sRt (f : Rh → Option Ev) (ρ : Rh) : Option Oc := match f ρ with
  | some (.vl r ρ1) => some (.rt r ρ1)
  | some (.ex C ρ1) => some (.ex C ρ1)
  | none => none
def sIf (c : Rh → Option Ev) (f g : Rh → Option Oc) (ρ : Rh) : Option Oc := match c ρ with
  | some (.vl (.s (.py (.bool true))) ρ1) => f ρ1
  | some (.vl (.s (.py (.bool false))) ρ1) => g ρ1
  | some (.ex C ρ1) => some (.ex C ρ1)
  | _ => none
def gN (i : Nat) (s : Sv) (ρ : Rh) : Option Rh := some { ρ with sl := ρ.sl.set i (some s) }
def gT0 (ds : List PyData) (ρ : Rh) : Option Rh := match ds with
  | [] => some ρ
  | _ => none
def gTC (g : Sv → Rh → Option Rh) (h : List PyData → Rh → Option Rh) (ds : List PyData) (ρ : Rh) : Option Rh := match ds with
  | d :: ds => match g (.py d) ρ with
    | some ρ1 => h ds ρ1
    | none => none
  | [] => none
def gTu (n : Nat) (h : List PyData → Rh → Option Rh) (s : Sv) (ρ : Rh) : Option Rh := match s with
  | .py (.tuple ds) => if ds.length = n then h ds ρ else none
  | _ => none
/-- a slot takes the last root -/
def takeRoot (i : Nat) (ρ : Rh) : Option Rh := match ρ.g.getLast? with
  | some (.nd a h cs) => if ρ.bs < ρ.g.length ∧ i < ρ.bs then some { ρ with
      sl := (msk (fun π => rootF i π || rootF (ρ.g.length - 1) π) ρ.sl).set i (some (.pt [i])),
      tm := msk (fun π => rootF i π || rootF (ρ.g.length - 1) π) ρ.tm,
      g := ρ.g.dropLast.set i (.nd a h cs) } else none
  | _ => none
def sAs (i : Nat) (f : Rh → Option Ev) (ρ : Rh) : Option Oc := match f ρ with
  | some (.vl (.s s) ρ1) => some (.nx { ρ1 with sl := ρ1.sl.set i (some s) })
  | some (.vl .own ρ1) => if i < ρ1.sl.length then match takeRoot i ρ1 with
      | some ρ2 => some (.nx ρ2)
      | none => none
    else none
  | some (.ex C ρ1) => some (.ex C ρ1)
  | none => none
def sAt (g : Sv → Rh → Option Rh) (f : Rh → Option Ev) (ρ : Rh) : Option Oc := match f ρ with
  | some (.vl (.s s) ρ1) => match g s ρ1 with
    | some ρ2 => some (.nx ρ2)
    | none => none
  | some (.ex C ρ1) => some (.ex C ρ1)
  | _ => none
/-- what is put somewhere: data, or the last root -/
def childF (r : Rv) (ρ : Rh) : Option (T × Rh) := match r with
  | .s (.py d) => some (.py d, ρ)
  | .own => match ρ.g.getLast? with
    | some (.nd a h cs) => if ρ.bs < ρ.g.length then some (.nd a h cs, dropLastF ρ) else none
    | _ => none
  | _ => none
def kidF (π : List Nat) (i : Nat) (π2 : List Nat) : Bool := (π ++ [i]).isPrefixOf π2
def belowF (π π2 : List Nat) : Bool := π.isPrefixOf π2 && !(π == π2)
def putAt (π : List Nat) (bad : List Nat → Bool) (t : T) (ρ : Rh) : Rh := ⟨msk bad ρ.sl, msk bad ρ.tm, gput ρ.g π t, ρ.bs⟩
/-- o.f = e -/
def sFl (C : String) (n : Str) (pf : Rh → Option Sv) (f : Rh → Option Ev) (ρ : Rh) : Option Oc := match f ρ with
  | some (.vl r ρ1) => match pf ρ1 with
    | some (.pt π) => match childF r ρ1 with
      | some (c, ρ2) => match gget ρ2.g π with
        | some (.nd _ (.ins D fs) cs) => if D = C ∧ fs.length < 500 then match ixS fs n with
            | some i => some (.nx (putAt π (kidF π i) (.nd () (.ins D fs) (cs.set i c)) ρ2))
            | none => some (.nx (putAt π (fun _ => false) (.nd () (.ins D (fs ++ [n])) (cs ++ [c])) ρ2))
          else none
        | _ => none
      | none => none
    | _ => none
  | some (.ex C ρ1) => some (.ex C ρ1)
  | none => none
/-- d[k] = e -/
def sPu (pf : Rh → Option Sv) (kf : Rh → Option PyData) (f : Rh → Option Ev) (ρ : Rh) : Option Oc := match f ρ with
  | some (.vl r ρ1) => match pf ρ1, kf ρ1 with
    | some (.pt π), some dk => match childF r ρ1 with
      | some (c, ρ2) => match keyF dk, gget ρ2.g π with
        | some k, some (.nd _ (.dct ks) cs) => if ks.length < 100000 then match ixK ks k with
            | some i => some (.nx (putAt π (kidF π i) (.nd () (.dct ks) (cs.set i c)) ρ2))
            | none => some (.nx (putAt π (fun _ => false) (.nd () (.dct (ks ++ [k])) (cs ++ [c])) ρ2))
          else none
        | _, _ => none
      | none => none
    | _, _ => none
  | some (.ex C ρ1) => some (.ex C ρ1)
  | none => none
/-- xs[i] = e -/
def sSL (pf : Rh → Option Sv) (kf : Rh → Option PyData) (f : Rh → Option Ev) (ρ : Rh) : Option Oc := match f ρ with
  | some (.vl r ρ1) => match pf ρ1, kf ρ1 with
    | some (.pt π), some (.int k) => match childF r ρ1 with
      | some (c, ρ2) => match gget ρ2.g π with
        | some (.nd _ .lst cs) => match ixN cs.length k with
          | some i => some (.nx (putAt π (kidF π i) (.nd () .lst (cs.set i c)) ρ2))
          | none => none
        | _ => none
      | none => none
    | _, _ => none
  | some (.ex C ρ1) => some (.ex C ρ1)
  | none => none
/-- what lies on top of tm -/
def topPt (ρ : Rh) : Option (List Nat) := match ρ.tm.getLast? with
  | some (some (.pt π)) => some π
  | _ => none
def popTm (ρ : Rh) : Rh := { ρ with tm := ρ.tm.dropLast }
def pushPt (π : List Nat) (ρ : Rh) : Rh := { ρ with tm := ρ.tm ++ [some (.pt π)] }
/-- xs.append(e) -/
def sAp (pf : Rh → Option Sv) (f : Rh → Option Ev) (ρ : Rh) : Option Oc := match pf ρ with
  | some (.pt π0) => match gget ρ.g π0 with
    | some (.nd _ .lst _) => match f (pushPt π0 ρ) with
      | some (.vl r ρ1) => match childF r ρ1 with
        | some (c, ρ2) => match topPt ρ2 with
          | some π => match gget ρ2.g π with
            | some (.nd _ .lst cs) => if cs.length < 100000 then some (.nx (popTm (putAt π (fun _ => false) (.nd () .lst (cs ++ [c])) ρ2))) else none
            | _ => none
          | none => none
        | none => none
      | some (.ex C ρ1) => some (.ex C (popTm ρ1))
      | none => none
    | _ => none
  | _ => none
/-- xs.extend(e), e a list of data -/
def sEx (pf : Rh → Option Sv) (f : Rh → Option Ev) (ρ : Rh) : Option Oc := match pf ρ with
  | some (.pt π0) => match gget ρ.g π0 with
    | some (.nd _ .lst _) => match f (pushPt π0 ρ) with
      | some (.vl .own ρ1) => match ρ1.g.getLast? with
        | some (.nd _ .lst es) => match dataAll es with
          | some ds => if ρ1.bs < ρ1.g.length then match topPt (dropLastF ρ1) with
              | some π => match gget (dropLastF ρ1).g π with
                | some (.nd _ .lst cs) => if cs.length + ds.length ≤ 100000 then some (.nx (popTm (putAt π (fun _ => false) (.nd () .lst (cs ++ ds.map TL.py)) (dropLastF ρ1)))) else none
                | _ => none
              | none => none
            else none
          | none => none
        | _ => none
      | some (.vl (.s (.pt π1)) ρ1) => match gget ρ1.g π1 with
        | some (.nd _ .lst es) => match dataAll es with
          | some ds => match topPt ρ1 with
            | some π => match gget ρ1.g π with
              | some (.nd _ .lst cs) => if cs.length + ds.length ≤ 100000 then some (.nx (popTm (putAt π (fun _ => false) (.nd () .lst (cs ++ ds.map TL.py)) ρ1))) else none
              | _ => none
            | none => none
          | none => none
        | _ => none
      | some (.ex C ρ1) => some (.ex C (popTm ρ1))
      | _ => none
    | _ => none
  | _ => none
section
variable {K : PySem.W.Frag} {W : WX} {te ta tb tk to : TE} {f g : Rh → Option Ev} {pf : Rh → Option Sv} {kf : Rh → Option PyData} {t u : TS} {c : TT} {sf sg : Rh → Option Oc} {n i : Nat}
theorem OcP.imp {B B1 F : Hp} {ul tv : List V} {D : Ends} (k : Kp F B B1) : ∀ {o : Option Oc}, OcP K cl B F ul tv W D o → OcP K cl B1 F ul tv W D o
  | some (.nx ρ), h => fun B' H' σ' G us k' => h B' H' σ' G us (k.trans k')
  | some (.rt r ρ), h => fun v B' H' σ' G us k' => h v B' H' σ' G us (k.trans k')
  | some (.bk ρ), h => fun B' H' σ' G us k' => h B' H' σ' G us (k.trans k')
  | some (.ct ρ), h => fun B' H' σ' G us k' => h B' H' σ' G us (k.trans k')
  | some (.ex C ρ), h => fun B' H' σ' G us k' => h B' H' σ' G us (k.trans k')
  | none, h => h
theorem sx_nx : Sx K cl W tNext sNx := fun B F H ul σ tv ρ G us D r p => p B H σ G us (Kp.refl F B) r
theorem sx_bk : Sx K cl W tBreak sBk := fun B F H ul σ tv ρ G us D r p => p B H σ G us (Kp.refl F B) r
theorem sx_ct : Sx K cl W tCont sCt := fun B F H ul σ tv ρ G us D r p => p B H σ G us (Kp.refl F B) r
theorem sx_rn : Sx K cl W tRetN sRN := fun B F H ul σ tv ρ G us D r p => p .non B H σ G us (Kp.refl F B) r .non
theorem sx_sq (h1 : Sx K cl W t sf) (h2 : Sx K cl W u sg) : Sx K cl W (tSeq t u) (sSq sf sg) := fun B F H ul σ tv ρ G us D r p => by
  refine h1 B F H ul σ tv ρ G us { D with nx := u D } r ?_
  unfold sSq at p
  split at p
  · rename_i ρ1 e
    rw [e]
    exact fun B1 H1 σ1 G1 us1 k1 r1 => h2 B1 F H1 ul σ1 tv ρ1 G1 us1 D r1 (p.imp k1)
  · rename_i o hne
    cases e : sf ρ with
    | none => rw [e] at p; exact p
    | some o =>
      rw [e] at p
      cases o with
      | nx ρ1 => exact absurd e (hne ρ1)
      | rt => exact p
      | bk => exact p
      | ct => exact p
      | ex => exact p
theorem last_of {us : List V} (h : us ≠ []) : ∃ v, us.getLast? = some v := ⟨_, List.getLast?_eq_some_getLast h⟩
/-- the last root, whatever it is, goes -/
theorem Rg.dropAny {B F H : Hp} {ul tv us : List V} {σ : St} {ρ : Rh} {G : List LT} (r : Rg K cl B F H ul σ tv ρ G us) (hb : ρ.bs < ρ.g.length) : ∃ (G0 : List LT) (us0 : List V), Rg K cl B F H ul σ tv (dropLastF ρ) G0 us0 := by
  have hu : us ≠ [] := fun z => by
    have := r.ul_
    rw [z] at this
    rw [r.gl, ← this] at hb
    simp at hb
  obtain ⟨v, hv⟩ := last_of hu
  have hg : ρ.g ≠ [] := fun z => by rw [z] at hb; simp at hb
  obtain ⟨G0, u, us0, rfl, rfl, eu, hl⟩ := r.lastRoot hv (List.getLast?_eq_some_getLast hg)
  exact ⟨G0, us0, r.dropLast hb (r.rl.left hl) (Evl.Ex.refl _)⟩
theorem sx_dr (h : Fv K cl W te f) : Sx K cl W (tDrop te) (sDr f) := fun B F H ul σ tv ρ G us D r p => by
  refine h B F H ul σ tv ρ G us r _ ?_
  unfold sDr at p
  split at p
  · rename_i s ρ1 e
    rw [e]
    exact fun v B1 H1 G1 us1 k1 r1 _ => p B1 H1 σ G1 us1 k1 r1
  · rename_i ρ1 e
    rw [e]
    split at p
    · rename_i hb
      intro v B1 H1 G1 us1 k1 r1 _
      obtain ⟨G0, us0, r0⟩ := r1.dropAny hb
      exact p B1 H1 σ G0 us0 k1 r0
    · exact p.elim
  · rename_i C ρ1 e
    rw [e]
    exact fun B1 H1 G1 us1 k1 r1 => p B1 H1 σ G1 us1 k1 r1
  · exact p.elim
theorem sx_rt (h : Fv K cl W te f) : Sx K cl W (tRet te) (sRt f) := fun B F H ul σ tv ρ G us D r p => by
  refine h B F H ul σ tv ρ G us r _ ?_
  unfold sRt at p
  split at p
  · rename_i x ρ1 e
    rw [e]
    exact fun v B1 H1 G1 us1 k1 r1 hv => p v B1 H1 σ G1 us1 k1 r1 hv
  · rename_i C ρ1 e
    rw [e]
    exact fun B1 H1 G1 us1 k1 r1 => p B1 H1 σ G1 us1 k1 r1
  · exact p.elim
theorem sx_if (hc : Ft K cl W c f) (h1 : Sx K cl W t sf) (h2 : Sx K cl W u sg) : Sx K cl W (tIfS c t u) (sIf f sf sg) := fun B F H ul σ tv ρ G us D r p => by
  refine hc B F H ul σ tv ρ G us r _ ?_
  unfold sIf at p
  split at p
  · rename_i ρ1 e
    rw [e]
    exact fun B1 H1 G1 us1 k1 r1 => iteT (h1 B1 F H1 ul σ tv ρ1 G1 us1 D r1 (p.imp k1))
  · rename_i ρ1 e
    rw [e]
    exact fun B1 H1 G1 us1 k1 r1 => iteF (h2 B1 F H1 ul σ tv ρ1 G1 us1 D r1 (p.imp k1))
  · rename_i C ρ1 e
    rw [e]
    exact fun B1 H1 G1 us1 k1 r1 => p B1 H1 σ G1 us1 k1 r1
  · exact p.elim
/-! targets -/
theorem Rg.set {B F H : Hp} {ul tv us : List V} {σ : St} {ρ : Rh} {G : List LT} {v : V} {s : Sv} (r : Rg K cl B F H ul σ tv ρ G us) (i : Nat) (h : SvAt K B G v s) : Rg K cl B F H ul (σ.set i (some v)) tv { ρ with sl := ρ.sl.set i (some s) } G us :=
  ⟨r.er, r.rl, by rw [List.length_set]; exact r.bs, r.le, by rw [List.length_set]; exact r.ul, r.sl.set h, r.tm⟩
theorem tg_n (i : Nat) : Tg K cl (gName i) (gN i) := fun B F H ul σ tv ρ ρ' G us v s r hv e Q q => by
  cases e
  exact q _ (r.set i hv)
theorem tgs_0 : Tgs K cl gNil gT0 := fun B F H ul σ tv ρ ρ' G us vs ds r hv e Q q => by
  unfold gT0 at e
  split at e
  · cases e; cases hv; exact ⟨rfl, q σ r⟩
  · cases e
theorem tgs_c {g1 : TG} {g2 : TGs} {fg : Sv → Rh → Option Rh} {fh : List PyData → Rh → Option Rh} (h1 : Tg K cl g1 fg) (h2 : Tgs K cl g2 fh) : Tgs K cl (gCons g1 g2) (gTC fg fh) := fun B F H ul σ tv ρ ρ' G us vs ds r hv e Q q => by
  unfold gTC at e
  split at e
  · rename_i d ds
    split at e
    · rename_i ρ1 e1
      cases hv with
      | cons a b => exact ⟨_, _, rfl, h1 B F H ul σ tv ρ ρ1 G us _ (.py d) r a e1 _ fun σ1 r1 => h2 B F H ul σ1 tv ρ1 ρ' G us _ _ r1 b e Q q⟩
    · cases e
  · cases e
theorem tg_tu {g2 : TGs} {fh : List PyData → Rh → Option Rh} (h2 : Tgs K cl g2 fh) : Tg K cl (gTup K n g2) (gTu n fh) := fun B F H ul σ tv ρ ρ' G us v s r hv e Q q => by
  unfold gTu at e
  split at e
  · rename_i ds
    split at e
    · rename_i hn
      have hv : Dp K B v (.tuple ds) := hv
      cases hv with
      | tup s1 a1 => exact ⟨_, _, rfl, Evl.ex_t r.rl.exB s1, by rw [DpAll.length a1]; exact hn, h2 B F H ul σ tv ρ ρ' G us _ _ r a1 e Q q⟩
    · cases e
  · cases e
theorem sx_at {tg : TG} {fg : Sv → Rh → Option Rh} (h : Fv K cl W te f) (ht : Tg K cl tg fg) : Sx K cl W (tAsg te tg) (sAt fg f) := fun B F H ul σ tv ρ G us D r p => by
  refine h B F H ul σ tv ρ G us r _ ?_
  unfold sAt at p
  split at p
  · rename_i s ρ1 e
    rw [e]
    intro v B1 H1 G1 us1 k1 r1 hv
    split at p
    · rename_i ρ2 e2
      exact ht B1 F H1 ul σ tv ρ1 ρ2 G1 us1 v s r1 hv e2 _ fun σ' r' => p B1 H1 σ' G1 us1 k1 r'
    · exact p.elim
  · rename_i C ρ1 e
    rw [e]
    exact fun B1 H1 G1 us1 k1 r1 => p B1 H1 σ G1 us1 k1 r1
  · exact p.elim
theorem sx_as (i : Nat) (h : Fv K cl W te f) : Sx K cl W (tAsg te (gName i)) (sAs i f) := fun B F H ul σ tv ρ G us D r p => by
  refine h B F H ul σ tv ρ G us r _ ?_
  unfold sAs at p
  split at p
  · rename_i s ρ1 e
    rw [e]
    exact fun v B1 H1 G1 us1 k1 r1 hv => p B1 H1 _ G1 us1 k1 (r1.set i hv)
  · rename_i ρ1 e
    rw [e]
    intro v B1 H1 G1 us1 k1 r1 hv
    split at p
    · rename_i hi
      split at p
      · rename_i ρ2 e2
        unfold takeRoot at e2
        split at e2
        · rename_i a hd cs et
          split at e2
          · rename_i hb
            cases e2
            obtain ⟨G0, u, us0, rfl, rfl, eu, hl⟩ := r1.lastRoot hv et
            have hg : ρ1.g.length = G0.length + 1 := by rw [r1.gl]; simp
            have hil : i < σ.length := by rw [r1.sl.len]; exact hi
            have hi0 : i < G0.length := by omega
            have key : ∀ π w, (fun π => rootF i π || rootF (ρ1.g.length - 1) π) π = false → pv (G0 ++ [u]) π = some w → pv (G0.set i u) π = some w := fun π w h1 h2 => by
              simp only [Bool.or_eq_false_iff] at h1
              cases π with
              | nil => simp [pv, gget] at h2
              | cons j s =>
                have n1 : j ≠ i := fun z => by subst z; simp [rootF] at h1
                have n2 : j ≠ G0.length := fun z => by subst z; simp [rootF, hg] at h1
                rw [pv_set fun ⟨t, z⟩ => by simp at z; exact n1 z.1.symm]
                unfold pv at h2 ⊢
                simp only [gget] at h2 ⊢
                by_cases hlt : j < G0.length
                · rw [List.getElem?_append_left hlt] at h2; exact h2
                · rw [List.getElem?_eq_none (by simp; omega)] at h2; cases h2
            have rl := r1.rl.setLast i
            obtain ⟨_, hu1, _, _, _⟩ := r1.rl.last
            have sl1 := (r1.sl.mask (Evl.Ex.refl _) key)
            have hpt : SvAt K B1 (G0.set i u) v (.pt [i]) := by
              show pv (G0.set i u) [i] = some v
              unfold pv
              simp only [gget, List.getElem?_set_self hi0]
              cases u with
              | un => cases eu
              | py => cases eu
              | nd q hq c => cases hu1; simp [TL.get, lref]
            refine p B1 H1 _ (G0.set i u) (us0.set i v) k1 ⟨?_, rl, by rw [List.length_set]; exact r1.bs, ?_, ?_, sl1.set hpt, r1.tm.mask (Evl.Ex.refl _) key⟩
            · show (G0.set i u).map TL.er = ρ1.g.dropLast.set i _
              rw [List.map_set, eu, ← r1.er]
              simp
            · show ρ1.bs ≤ _
              rw [List.length_set]; omega
            · have h1 := r1.ul
              have h2 := r1.bs
              have h3 := r1.le
              rw [List.length_set]
              rw [List.drop_append_of_le_length (by omega), List.take_append_of_le_length (by simp; omega)] at h1
              rw [List.drop_set, if_pos hil]
              exact h1
          · cases e2
        · cases e2
      · exact p.elim
    · exact p.elim
  · rename_i C ρ1 e
    rw [e]
    exact fun B1 H1 G1 us1 k1 r1 => p B1 H1 σ G1 us1 k1 r1
  · exact p.elim
end
end Fx

/-! Statements that change trees: why. -/
namespace Fx
open PySem L2
open Evl (Ex)
variable {cl : Kl}
theorem put_zip : ∀ {fs : List Str} {vs : List V} {f : Str} {i : Nat} {v : V}, ixS fs f = some i → fs.length = vs.length → putF f v (fs.zip vs) = fs.zip (vs.set i v)
  | [], _, _, _, _, h, _ => by simp [ixS] at h
  | g :: r, [], _, _, _, h, e => by simp at e
  | g :: r, x :: vs, f, i, v, h, e => by
    unfold ixS at h
    split at h
    · rename_i z
      subst z
      cases h
      simp [putF]
    · rename_i z
      cases h1 : ixS r f with
      | none => rw [h1] at h; simp at h
      | some j =>
        rw [h1] at h
        simp at h
        subst h
        have := put_zip (vs := vs) (v := v) h1 (by simpa using e)
        simp [putF, z, this]
theorem put_zipN : ∀ {fs : List Str} {vs : List V} {f : Str} {v : V}, ixS fs f = none → fs.length = vs.length → putF f v (fs.zip vs) = (fs ++ [f]).zip (vs ++ [v])
  | [], vs, f, v, _, e => by
    have : vs = [] := List.length_eq_zero_iff.mp (by simpa using e.symm)
    subst this
    rfl
  | g :: r, [], _, _, _, e => by simp at e
  | g :: r, x :: vs, f, v, h, e => by
    unfold ixS at h
    split at h
    · cases h
    · rename_i z
      have h1 : ixS r f = none := by
        cases h1 : ixS r f with
        | none => rfl
        | some j => rw [h1] at h; simp at h
      have := put_zipN (vs := vs) (v := v) h1 (by simpa using e)
      simp [putF, z, this]
section
variable {κ : Type} [DecidableEq κ]
theorem ixK_mem : ∀ {ks : List κ} {k : κ} {i : Nat}, ixK ks k = some i → ks[i]? = some k
  | [], _, _, h => by simp [ixK] at h
  | g :: r, k, i, h => by
    unfold ixK at h
    split at h
    · rename_i z
      cases h
      simp [z]
    · cases h1 : ixK r k with
      | none => rw [h1] at h; simp at h
      | some j =>
        rw [h1] at h
        simp at h
        subst h
        simpa using ixK_mem h1
theorem ixK_not : ∀ {ks : List κ} {k : κ}, ixK ks k = none → k ∉ ks
  | [], _, _ => by simp
  | g :: r, k, h => by
    unfold ixK at h
    split at h
    · cases h
    · rename_i z
      have h1 : ixK r k = none := by
        cases h1 : ixK r k with
        | none => rfl
        | some j => rw [h1] at h; simp at h
      intro hm
      rcases List.mem_cons.mp hm with hm | hm
      · exact z hm.symm
      · exact ixK_not h1 hm
theorem map_zip_ne {k : κ} {v : V} : ∀ {ks : List κ} {vs : List V}, k ∉ ks → (ks.zip vs).map (fun kv => if kv.1 = k then (kv.1, v) else kv) = ks.zip vs
  | [], _, _ => rfl
  | g :: r, [], _ => rfl
  | g :: r, x :: vs, h => by
    have h1 : g ≠ k := fun z => h (by simp [z])
    have ih := map_zip_ne (ks := r) (vs := vs) (k := k) (v := v) (fun z => h (List.mem_cons_of_mem _ z))
    rw [List.zip_cons_cons, List.map_cons, ih, if_neg h1]
theorem putK_zip {ks : List κ} {vs : List V} {k : κ} {i : Nat} {v : V} (h : ixK ks k = some i) (n : ks.Nodup) (e : ks.length = vs.length) : putK (ks.zip vs) k v = ks.zip (vs.set i v) := by
  have hm := ixK_mem h
  have ha : ((ks.zip vs).any fun kv => decide (kv.1 = k)) = true := by
    have hi := (List.getElem?_eq_some_iff.mp hm).1
    have hz : (ks.zip vs)[i]? = some (k, vs[i]'(by omega)) := by
      rw [List.getElem?_zip_eq_some]
      exact ⟨hm, List.getElem?_eq_getElem (by omega)⟩
    exact List.any_eq_true.mpr ⟨_, List.mem_of_getElem? hz, by simp⟩
  unfold putK
  rw [if_pos ha]
  clear ha hm
  induction ks generalizing vs i with
  | nil => simp [ixK] at h
  | cons g r ih =>
    cases vs with
    | nil => simp at e
    | cons x vs =>
      have n := List.nodup_cons.mp n
      unfold ixK at h
      split at h
      · rename_i z
        subst z
        cases h
        simp [map_zip_ne n.1]
      · rename_i z
        cases h1 : ixK r k with
        | none => rw [h1] at h; simp at h
        | some j =>
          rw [h1] at h
          simp at h
          subst h
          simp [z, ih h1 n.2 (by simpa using e)]
theorem putK_new {ks : List κ} {vs : List V} {k : κ} {v : V} (h : ixK ks k = none) (e : ks.length = vs.length) : putK (ks.zip vs) k v = (ks ++ [k]).zip (vs ++ [v]) := by
  have hn := ixK_not h
  have ha : ((ks.zip vs).any fun kv => decide (kv.1 = k)) = false := by
    rw [List.any_eq_false]
    intro kv hk
    have := (List.of_mem_zip (a := kv.1) (b := kv.2) hk).1
    simp
    exact fun z => hn (z ▸ this)
  unfold putK
  rw [if_neg (by rw [ha]; simp)]
  rw [List.zip_append (by omega)]
  simp
end
section
variable {K : PySem.W.Frag} {W : WX} {te ta tb tk to : TE} {f g : Rh → Option Ev} {pf : Rh → Option Sv} {kf : Rh → Option PyData} {t u : TS} {c : TT} {sf sg : Rh → Option Oc} {n i : Nat}
variable {B F H : Hp} {ul tv us : List V} {σ : St} {ρ : Rh} {G : List LT}
/-- a node takes other children -/
theorem Rg.mutAt {π : List Nat} {p : Addr} {h h' : Hd} {cs cs' : List LT} {vs' : List V} {o : HO} {bad : List Nat → Bool} (r : Rg K cl B F H ul σ tv ρ G us) (e : gget G π = some (.nd p h cs)) (ho : h.own = true) (ho' : h'.own = true) (own : OwnO o)
    (hn : Node K cl B (upd H p o) p h' vs') (hc : LtAll K cl B H vs' cs') (nd : (addrsAll cs').Nodup) (hq : ∀ q ∈ addrsAll cs', q ∈ addrsAll cs ∨ (q ∉ addrsAll G ∧ F q = none))
    (hb : ∀ k s, bad (π ++ k :: s) = false → ∀ c, cs[k]? = some c → cs'[k]? = some c) :
    Rg K cl B F (upd H p o) ul σ tv (putAt π bad (.nd () h' (erAll cs')) ρ) (gput G π (.nd p h' cs')) us := by
  have rl := r.rl.mut e ho ho' own hn hc nd hq
  have key : ∀ π2 v, bad π2 = false → pv G π2 = some v → pv (gput G π (.nd p h' cs')) π2 = some v := fun π2 v h1 h2 => by
    by_cases hp : π <+: π2
    · obtain ⟨s, rfl⟩ := hp
      unfold pv at h2 ⊢
      rw [gget_put_ext e]
      rw [gget_app e] at h2
      cases s with
      | nil => simp only [TL.get, Option.bind, lref] at h2 ⊢; exact h2
      | cons k s =>
        simp only [TL.get] at h2 ⊢
        cases ek : cs[k]? with
        | none => rw [ek] at h2; cases h2
        | some c =>
          rw [ek] at h2
          rw [hb k s h1 c ek]
          exact h2
    · rw [pv_put_ne hp]; exact h2
  refine ⟨?_, rl, r.bs, by rw [gput_len]; exact r.le, r.ul, r.sl.mask (Evl.Ex.refl _) key, r.tm.mask (Evl.Ex.refl _) key⟩
  rw [gput_er, r.er]
  rfl
theorem in_rootX {u : LT} {π : List Nat} (e : gget G π = some u) : ∀ a ∈ u.addrs, a ∈ addrsAll G := fun a ha => by
  obtain ⟨A1, A2, e1, _, _⟩ := at_root (cl := ⟨fun _ => 0, []⟩) G π _ e
  rw [e1]; simp [ha]
/-- what is put somewhere -/
theorem child_ok {v : V} {x : Rv} {c : T} {ρ2 : Rh} (r : Rg K cl B F H ul σ tv ρ G us) (hv : RvAt K B G us v x) (e : childF x ρ = some (c, ρ2)) :
    ∃ (G2 : List LT) (us2 : List V) (u : LT), Rg K cl B F H ul σ tv ρ2 G2 us2 ∧ u.er = c ∧ LtAt K cl B H v u ∧ u.addrs.Nodup ∧ (∀ q ∈ u.addrs, q ∉ addrsAll G2 ∧ F q = none) ∧ (∀ π w, pv G2 π = some w → pv G π = some w) := by
  unfold childF at e
  split at e
  · rename_i d
    cases e
    exact ⟨G, us, .py d, r, rfl, .py hv, by simp [TL.addrs], fun q hq => by simp [TL.addrs] at hq, fun _ _ h => h⟩
  · split at e
    · rename_i a h cs et
      split at e
      · rename_i hb
        cases e
        obtain ⟨G0, u, us0, rfl, rfl, eu, hl⟩ := r.lastRoot hv et
        obtain ⟨r1, h1, h2, h3, _⟩ := r.rl.last
        exact ⟨G0, us0, u, r.dropLast hb r1 (Evl.Ex.refl _), eu, h1, h2, h3, fun π w hw => pv_append hw⟩
      · cases e
    · cases e
  · cases e
theorem nodc {π : List Nat} {p : Addr} {h : Hd} {cs : List LT} (r : Rl K cl B F H G us) (e : gget G π = some (.nd p h cs)) : (addrsAll cs).Nodup := by
  obtain ⟨A1, A2, e1, _, _⟩ := at_root (cl := ⟨fun _ => 0, []⟩) G π _ e
  have nod := r.nod
  rw [e1] at nod
  simp only [TL.addrs] at nod
  exact (List.nodup_append.mp (List.nodup_append.mp (List.nodup_append.mp nod).1).2.1).2.1
theorem er_set (cs : List LT) (i : Nat) (u : LT) : (erAll cs).set i u.er = erAll (cs.set i u) := by rw [erAll_map, erAll_map, List.map_set]
theorem er_app (cs es : List LT) : erAll cs ++ erAll es = erAll (cs ++ es) := by rw [erAll_map, erAll_map, erAll_map, List.map_append]
theorem sub_of {cs : List LT} {u : LT} {π : List Nat} {p : Addr} {h : Hd} (e : gget G π = some (.nd p h cs)) : ∀ q ∈ addrsAll cs, q ∈ addrsAll G := fun q hq => in_rootX e q (by simp [TL.addrs, hq])
/-- one child instead of another -/
theorem set_ok {π : List Nat} {p : Addr} {h h' : Hd} {cs : List LT} {vs : List V} {o : HO} {u : LT} {v : V} {k : Nat} (r : Rg K cl B F H ul σ tv ρ G us) (e : gget G π = some (.nd p h cs)) (ho : h.own = true) (ho' : h'.own = true) (own : OwnO o)
    (hn : Node K cl B (upd H p o) p h' (vs.set k v)) (hc : LtAll K cl B H vs cs) (hu : LtAt K cl B H v u) (nu : u.addrs.Nodup) (hq : ∀ q ∈ u.addrs, q ∉ addrsAll G ∧ F q = none) :
    ∃ G', Rg K cl B F (upd H p o) ul σ tv (putAt π (kidF π k) (.nd () h' ((erAll cs).set k u.er)) ρ) G' us := by
  rw [er_set]
  refine ⟨_, r.mutAt e ho ho' own hn (hc.setAt hu) (nod_set cs k u (nodc r.rl e) nu fun q h1 h2 => (hq q h1).1 (sub_of (u := u) e q h2)) (fun q h => ?_) fun j s hb c hc => ?_⟩
  · rcases mem_set cs k u q h with h | h
    · exact .inl h
    · exact .inr (hq q h)
  · have : k ≠ j := fun z => by
      subst z
      unfold kidF at hb
      rw [pre_iff.mpr (show π ++ [k] <+: π ++ k :: s from ⟨s, by simp⟩)] at hb
      cases hb
    rw [List.getElem?_set_ne this]
    exact hc
/-- some more children -/
theorem app_ok {π : List Nat} {p : Addr} {h h' : Hd} {cs es : List LT} {vs ws : List V} {o : HO} (r : Rg K cl B F H ul σ tv ρ G us) (e : gget G π = some (.nd p h cs)) (ho : h.own = true) (ho' : h'.own = true) (own : OwnO o)
    (hn : Node K cl B (upd H p o) p h' (vs ++ ws)) (hc : LtAll K cl B H vs cs) (hu : LtAll K cl B H ws es) (nu : (addrsAll es).Nodup) (hq : ∀ q ∈ addrsAll es, q ∉ addrsAll G ∧ F q = none) :
    ∃ G', Rg K cl B F (upd H p o) ul σ tv (putAt π (fun _ => false) (.nd () h' (erAll cs ++ erAll es)) ρ) G' us := by
  rw [er_app]
  refine ⟨_, r.mutAt e ho ho' own hn (hc.append hu) ?_ (fun q h => ?_) fun j s hb c hc => ?_⟩
  · rw [addrsAll_append]
    exact List.nodup_append.mpr ⟨nodc r.rl e, nu, fun a ha b hb z => (hq b hb).1 (z ▸ sub_of (u := .un .non) e a ha)⟩
  · rw [addrsAll_append] at h
    rcases List.mem_append.mp h with h | h
    · exact .inl h
    · exact .inr (hq q h)
  · rw [List.getElem?_append_left (List.getElem?_eq_some_iff.mp hc).1]
    exact hc
theorem one_at {u : LT} {v : V} (h : LtAt K cl B H v u) : LtAll K cl B H [v] [u] := .cons h .nil
theorem one_addr {u : LT} : addrsAll [u] = u.addrs := by simp [addrsAll]
theorem erAll_one {u : LT} : erAll [u] = [u.er] := rfl
theorem sx_fl {C : String} {n : Str} (hC : Cls K (cl C)) (hA : NoAttr K (cl C) n) (ho : Pv K cl ta pf) (h : Fv K cl W te f) : Sx K cl W (sFld K ta te n) (sFl C n pf f) := fun B F H ul σ tv ρ G us D r p => by
  refine h B F H ul σ tv ρ G us r _ ?_
  unfold sFl at p
  split at p
  · rename_i x ρ1 e
    rw [e]
    intro v B1 H1 G1 us1 k1 r1 hv
    split at p
    · rename_i π eπ
      refine ho B1 F H1 ul σ tv ρ1 G1 us1 _ r1 eπ _ fun y B2 H2 w hy => ?_
      have hy : pv G1 π = some y := hy
      have r2 := r1.grow w
      split at p
      · rename_i c ρ2 ec
        obtain ⟨G2, us2, u, r3, rfl, hu, nu, hq, hs⟩ := child_ok r2 (by
          cases x with
          | s s => exact SvAt.keep w.b (fun _ _ => rfl) hv
          | own => exact hv) ec
        split at p
        · rename_i D' fs cs hg
          obtain ⟨u2, g1, g2⟩ := r3.get hg
          cases u2 with
          | un => cases g2
          | py => cases g2
          | nd q hd cs' =>
            simp only [TL.er, TL.nd.injEq] at g2
            obtain ⟨_, rfl, rfl⟩ := g2
            have ey : y = .ref q := by
              have := hs π (.ref q) (by unfold pv; rw [g1]; rfl)
              rw [hy] at this; cases this; rfl
            subst ey
            obtain ⟨vs, hn, hc⟩ := r3.rl.node g1
            obtain ⟨hB, hl, dx, hh⟩ := hn
            split at p
            · rename_i hD
              obtain ⟨rfl, hlen⟩ := hD
              have hfl : (fs.zip vs).length < 1000 := by rw [List.length_zip]; omega
              have kk : Kp F B B2 := k1.trans (w.kp r1.rl.exF)
              split at p
              · rename_i k hk
                have ep : HO.ins (cl D') dx (putF n v (fs.zip vs)) = .ins (cl D') dx (fs.zip (vs.set k v)) := by rw [put_zip hk hl]
                obtain ⟨G', r4⟩ := set_ok (h' := .ins D' fs) (vs := vs) (v := v) (u := u) (k := k) (o := .ins (cl D') dx (putF n v (fs.zip vs))) r3 g1 rfl rfl (.inr (.inr (.inr (.inl ⟨_, _, _, rfl⟩)))) ⟨hB, by simp [hl], dx, by rw [upd_same, ep]⟩ hc hu nu hq
                exact ⟨q, cl D', dx, _, rfl, hh, hC, hA, hfl, p B2 _ σ G' us2 kk r4⟩
              · rename_i hk
                have ep : HO.ins (cl D') dx (putF n v (fs.zip vs)) = .ins (cl D') dx ((fs ++ [n]).zip (vs ++ [v])) := by rw [put_zipN hk hl]
                obtain ⟨G', r4⟩ := app_ok (h' := .ins D' (fs ++ [n])) (vs := vs) (ws := [v]) (es := [u]) (o := .ins (cl D') dx (putF n v (fs.zip vs))) r3 g1 rfl rfl (.inr (.inr (.inr (.inl ⟨_, _, _, rfl⟩)))) ⟨hB, by simp [hl], dx, by rw [upd_same, ep]⟩ hc (one_at hu) (by rw [one_addr]; exact nu) (by rw [one_addr]; exact hq)
                exact ⟨q, cl D', dx, _, rfl, hh, hC, hA, hfl, p B2 _ σ G' us2 kk r4⟩
            · exact p.elim
        · exact p.elim
      · exact p.elim
    · exact p.elim
  · rename_i C' ρ1 e
    rw [e]
    exact fun B1 H1 G1 us1 k1 r1 => p B1 H1 σ G1 us1 k1 r1
  · exact p.elim
theorem sx_pu (ho : Pv K cl ta pf) (hk : Dv K cl tk kf) (h : Fv K cl W te f) : Sx K cl W (sDPut ta tk te) (sPu pf kf f) := fun B F H ul σ tv ρ G us D r p => by
  refine h B F H ul σ tv ρ G us r _ ?_
  unfold sPu at p
  split at p
  · rename_i x ρ1 e
    rw [e]
    intro v B1 H1 G1 us1 k1 r1 hv
    split at p
    · rename_i π dk eπ ek
      refine ho B1 F H1 ul σ tv ρ1 G1 us1 _ r1 eπ _ fun y B2 H2 w hy => hk B2 F H2 ul σ tv ρ1 G1 us1 _ (r1.grow w) ek _ fun z B3 H3 w3 hz => ?_
      have hy : pv G1 π = some y := hy
      have r2 := (r1.grow w).grow w3
      split at p
      · rename_i c ρ2 ec
        obtain ⟨G2, us2, u, r3, rfl, hu, nu, hq, hs⟩ := child_ok r2 (by
          cases x with
          | s s => exact SvAt.keep (w.b.trans w3.b) (fun _ _ => rfl) hv
          | own => exact hv) ec
        split at p
        · rename_i key _ ks cs hkey hg
          have := key_val hkey hz
          subst this
          obtain ⟨u2, g1, g2⟩ := r3.get hg
          cases u2 with
          | un => cases g2
          | py => cases g2
          | nd q hd cs' =>
            simp only [TL.er, TL.nd.injEq] at g2
            obtain ⟨_, rfl, rfl⟩ := g2
            have ey : y = .ref q := by
              have := hs π (.ref q) (by unfold pv; rw [g1]; rfl)
              rw [hy] at this; cases this; rfl
            subst ey
            obtain ⟨vs, hn, hc⟩ := r3.rl.node g1
            obtain ⟨hB, hl, hnd, hh⟩ := hn
            split at p
            · rename_i hlen
              have hfl : (ks.zip vs).length < sizeLine := by rw [List.length_zip]; exact Nat.lt_of_le_of_lt (Nat.min_le_left _ _) (Nat.lt_of_lt_of_le hlen (by decide))
              have kk : Kp F B B3 := k1.trans ((w.trans w3).kp r1.rl.exF)
              split at p
              · rename_i k hk'
                have ep : HO.dK (putK (ks.zip vs) key v) = .dK (ks.zip (vs.set k v)) := by rw [putK_zip hk' hnd hl]
                obtain ⟨G', r4⟩ := set_ok (h' := .dct ks) (vs := vs) (v := v) (u := u) (k := k) (o := .dK (putK (ks.zip vs) key v)) r3 g1 rfl rfl (.inr (.inl ⟨_, rfl⟩)) ⟨hB, by simp [hl], hnd, by rw [upd_same, ep]⟩ hc hu nu hq
                exact ⟨q, _, rfl, DPut.k hh hfl, p B3 _ σ G' us2 kk r4⟩
              · rename_i hk'
                have ep : HO.dK (putK (ks.zip vs) key v) = .dK ((ks ++ [key]).zip (vs ++ [v])) := by rw [putK_new hk' hl]
                have hnd2 : (ks ++ [key]).Nodup := List.nodup_append.mpr ⟨hnd, by simp, fun a ha b hb z => by simp at hb; subst hb z; exact ixK_not hk' ha⟩
                obtain ⟨G', r4⟩ := app_ok (h' := .dct (ks ++ [key])) (vs := vs) (ws := [v]) (es := [u]) (o := .dK (putK (ks.zip vs) key v)) r3 g1 rfl rfl (.inr (.inl ⟨_, rfl⟩)) ⟨hB, by simp [hl], hnd2, by rw [upd_same, ep]⟩ hc (one_at hu) (by rw [one_addr]; exact nu) (by rw [one_addr]; exact hq)
                exact ⟨q, _, rfl, DPut.k hh hfl, p B3 _ σ G' us2 kk r4⟩
            · exact p.elim
        · exact p.elim
      · exact p.elim
    · exact p.elim
  · rename_i C' ρ1 e
    rw [e]
    exact fun B1 H1 G1 us1 k1 r1 => p B1 H1 σ G1 us1 k1 r1
  · exact p.elim
theorem sx_sl (ho : Pv K cl ta pf) (hk : Dv K cl tk kf) (h : Fv K cl W te f) : Sx K cl W (tAsg te (gSub ta tk rSetL)) (sSL pf kf f) := fun B F H ul σ tv ρ G us D r p => by
  refine h B F H ul σ tv ρ G us r _ ?_
  unfold sSL at p
  split at p
  · rename_i x ρ1 e
    rw [e]
    intro v B1 H1 G1 us1 k1 r1 hv
    split at p
    · rename_i π k0 eπ ek
      refine ho B1 F H1 ul σ tv ρ1 G1 us1 _ r1 eπ _ fun y B2 H2 w hy => hk B2 F H2 ul σ tv ρ1 G1 us1 _ (r1.grow w) ek _ fun z B3 H3 w3 hz => ?_
      have hy : pv G1 π = some y := hy
      cases hz
      have r2 := (r1.grow w).grow w3
      split at p
      · rename_i c ρ2 ec
        obtain ⟨G2, us2, u, r3, rfl, hu, nu, hq, hs⟩ := child_ok r2 (by
          cases x with
          | s s => exact SvAt.keep (w.b.trans w3.b) (fun _ _ => rfl) hv
          | own => exact hv) ec
        split at p
        · rename_i cs hg
          obtain ⟨u2, g1, g2⟩ := r3.get hg
          cases u2 with
          | un => cases g2
          | py => cases g2
          | nd q hd cs' =>
            simp only [TL.er, TL.nd.injEq] at g2
            obtain ⟨_, rfl, rfl⟩ := g2
            have ey : y = .ref q := by
              have := hs π (.ref q) (by unfold pv; rw [g1]; rfl)
              rw [hy] at this; cases this; rfl
            subst ey
            obtain ⟨vs, hn, hc⟩ := r3.rl.node g1
            obtain ⟨hB, hh⟩ := hn
            have kk : Kp F B B3 := k1.trans ((w.trans w3).kp r1.rl.exF)
            split at p
            · rename_i k hk'
              have hl : vs.length = (erAll cs').length := by rw [hc.length, erAll_map, List.length_map]
              obtain ⟨G', r4⟩ := set_ok (h' := .lst) (vs := vs) (v := v) (u := u) (k := k) (o := .lst (vs.set k v)) r3 g1 rfl rfl (.inl ⟨_, rfl⟩) ⟨hB, by rw [upd_same]⟩ hc hu nu hq
              exact ⟨q, vs, k0, k, rfl, rfl, hh, by rw [hl]; exact hk', p B3 _ σ G' us2 kk r4⟩
            · exact p.elim
        · exact p.elim
      · exact p.elim
    · exact p.elim
  · rename_i C' ρ1 e
    rw [e]
    exact fun B1 H1 G1 us1 k1 r1 => p B1 H1 σ G1 us1 k1 r1
  · exact p.elim
end
end Fx

/-! Lists that grow and shrink. -/
namespace Fx
open PySem L2
open Evl (Ex)
variable {cl : Kl}
/-- xs.pop(i), data -/
def fPop (pf : Rh → Option Sv) (kf : Rh → Option PyData) (ρ : Rh) : Option Ev := match pf ρ, kf ρ with
  | some (.pt π), some (.int i) => match gget ρ.g π with
    | some (.nd _ .lst cs) => if -(2 ^ 63) ≤ i ∧ i < 2 ^ 63 then match seqIndex? i cs.length with
        | some k => match cs[k]? with
          | some (.py d) => some (.vl (.s (.py d)) (putAt π (belowF π) (.nd () .lst (cs.eraseIdx k)) ρ))
          | _ => none
        | none => none
      else none
    | _ => none
  | _, _ => none
/-- del xs[i] -/
def sDe (pf : Rh → Option Sv) (kf : Rh → Option PyData) (ρ : Rh) : Option Oc := match pf ρ, kf ρ with
  | some (.pt π), some (.int i) => match gget ρ.g π with
    | some (.nd _ .lst cs) => if -(2 ^ 63) ≤ i ∧ i < 2 ^ 63 then match seqIndex? i cs.length with
        | some k => some (.nx (putAt π (belowF π) (.nd () .lst (cs.eraseIdx k)) ρ))
        | none => none
      else none
    | _ => none
  | _, _ => none
section
variable {K : PySem.W.Frag} {W : WX} {te ta tb tk to : TE} {f g : Rh → Option Ev} {pf : Rh → Option Sv} {kf : Rh → Option PyData} {t u : TS} {c : TT} {sf sg : Rh → Option Oc} {n i : Nat}
variable {B F H : Hp} {ul tv us : List V} {σ : St} {ρ : Rh} {G : List LT}
theorem er_erase : ∀ (cs : List LT) (k : Nat), (erAll cs).eraseIdx k = erAll (cs.eraseIdx k)
  | [], _ => rfl
  | c :: cs, 0 => rfl
  | c :: cs, k + 1 => by simp [erAll, er_erase cs k]
theorem top_ok {x : V} {π : List Nat} (r : Rg K cl B F H ul σ (tv ++ [x]) ρ G us) (e : topPt ρ = some π) : pv G π = some x := by
  unfold topPt at e
  split at e
  · rename_i π' h
    cases e
    have hne : ρ.tm ≠ [] := fun z => by rw [z] at h; cases h
    have hl := r.tm.len
    simp only [List.length_map, List.length_append, List.length_singleton] at hl
    have hi : ρ.tm[tv.length]? = some (some (.pt π)) := by
      rw [List.getLast?_eq_some_getLast hne] at h
      simp only [Option.some.injEq] at h
      rw [List.getElem?_eq_some_iff]
      refine ⟨by omega, ?_⟩
      rw [← h, List.getLast_eq_getElem]
      congr 1
      omega
    obtain ⟨v, h1, h2⟩ := r.tm.has _ _ hi
    rw [List.getElem?_map, List.getElem?_append_right (Nat.le_refl _)] at h1
    simp at h1
    subst h1
    exact h2
  · cases e
theorem pop_ok {x : V} (r : Rg K cl B F H ul σ (tv ++ [x]) ρ G us) : Rg K cl B F H ul σ tv (popTm ρ) G us := by
  refine ⟨r.er, r.rl, r.bs, r.le, r.ul, r.sl, ?_⟩
  have a := r.tm
  rw [List.map_append] at a
  have h := a.left
  have hl := a.len
  simp only [List.length_append, List.length_map, List.length_singleton] at hl
  have : ρ.tm.take (tv.map some).length = ρ.tm.dropLast := by
    rw [List.dropLast_eq_take, List.length_map]
    congr 1
    omega
  rw [this] at h
  exact h
theorem fv_pop (ho : Pv K cl to pf) (hk : Dv K cl tk kf) : Fv K cl W (tBM K "list" rPopAt to (tCons tk tNil)) (fPop pf kf) := fun B F H ul σ tv ρ G us r Q p => by
  unfold fPop at p
  split at p
  · rename_i π i eπ ek
    refine ho B F H ul σ tv ρ G us _ r eπ _ fun y B2 H2 w hy => ?_
    have hy : pv G π = some y := hy
    have r2 := r.grow w
    split at p
    · rename_i cs hg
      obtain ⟨q, cs', g1, rfl, rfl⟩ := node_of r hg hy
      obtain ⟨vs0, hn0, hc0⟩ := r2.rl.node g1
      refine ⟨.inl ⟨rfl, _, SqL.of hn0.2⟩, hk B2 F H2 ul σ tv ρ G us _ r2 ek _ fun z B3 H3 w3 hz => ?_⟩
      cases hz
      have r3 := r2.grow w3
      obtain ⟨vs, hn, hc⟩ := r3.rl.node g1
      split at p
      · rename_i hi
        split at p
        · rename_i k hk'
          split at p
          · rename_i d hd
            have hl : vs.length = (erAll cs').length := by rw [hc.length, erAll_map, List.length_map]
            rw [erAll_map, List.getElem?_map] at hd
            cases ec : cs'[k]? with
            | none => rw [ec] at hd; cases hd
            | some c =>
              rw [ec] at hd
              obtain ⟨v, h1, h2⟩ := hc.get ec
              cases c with
              | un => cases hd
              | nd => cases hd
              | py d' =>
                cases hd
                cases h2 with
                | py h2 =>
                  have er_er : (erAll cs').eraseIdx k = erAll (cs'.eraseIdx k) := er_erase cs' k
                  have r4 := r3.mutAt (h' := .lst) (vs' := vs.eraseIdx k) (cs' := cs'.eraseIdx k) (o := .lst (vs.eraseIdx k)) (bad := belowF π) g1 rfl rfl (.inl ⟨_, rfl⟩) ⟨hn.1, upd_same⟩ (hc.erase k) ((mem_erase cs' k).nodup (nodc r3.rl g1)) (fun q hq => .inl ((mem_erase cs' k).subset hq)) (fun j s hb c hc => by
                    unfold belowF at hb
                    rw [pre_iff.mpr (show π <+: π ++ j :: s from ⟨_, rfl⟩)] at hb
                    simp at hb)
                  rw [← er_er] at r4
                  refine ⟨q, vs, i, k, v, rfl, rfl, hn.2, hi.1, hi.2, by rw [hl]; exact hk', h1, ?_⟩
                  exact p v B3 _ _ us ((w.trans w3).kp r.rl.exF) r4 h2
          · exact p.elim
        · exact p.elim
      · exact p.elim
    · exact p.elim
  · exact p.elim
theorem sx_de (ho : Pv K cl to pf) (hk : Dv K cl tk kf) : Sx K cl W (tDelL to tk) (sDe pf kf) := fun B F H ul σ tv ρ G us D r p => by
  unfold sDe at p
  split at p
  · rename_i π i eπ ek
    refine ho B F H ul σ tv ρ G us _ r eπ _ fun y B2 H2 w hy => hk B2 F H2 ul σ tv ρ G us _ (r.grow w) ek _ fun z B3 H3 w3 hz => ?_
    have hy : pv G π = some y := hy
    cases hz
    have r3 := (r.grow w).grow w3
    split at p
    · rename_i cs hg
      obtain ⟨q, cs', g1, rfl, rfl⟩ := node_of r hg hy
      obtain ⟨vs, hn, hc⟩ := r3.rl.node g1
      split at p
      · rename_i hi
        split at p
        · rename_i k hk'
          have hl : vs.length = (erAll cs').length := by rw [hc.length, erAll_map, List.length_map]
          have er_er : (erAll cs').eraseIdx k = erAll (cs'.eraseIdx k) := er_erase cs' k
          have r4 := r3.mutAt (h' := .lst) (vs' := vs.eraseIdx k) (cs' := cs'.eraseIdx k) (o := .lst (vs.eraseIdx k)) (bad := belowF π) g1 rfl rfl (.inl ⟨_, rfl⟩) ⟨hn.1, upd_same⟩ (hc.erase k) ((mem_erase cs' k).nodup (nodc r3.rl g1)) (fun q hq => .inl ((mem_erase cs' k).subset hq)) (fun j s hb c hc => by
            unfold belowF at hb
            rw [pre_iff.mpr (show π <+: π ++ j :: s from ⟨_, rfl⟩)] at hb
            simp at hb)
          rw [← er_er] at r4
          exact ⟨q, vs, i, k, rfl, rfl, hn.2, hi.1, hi.2, by rw [hl]; exact hk', p B3 _ σ _ us ((w.trans w3).kp r.rl.exF) r4⟩
        · exact p.elim
      · exact p.elim
    · exact p.elim
  · exact p.elim
theorem sx_ap (ho : Pv K cl to pf) (h : Fv K cl W te f) : Sx K cl W (tDrop (tBM K "list" rAppend to (tCons te tNil))) (sAp pf f) := fun B F H ul σ tv ρ G us D r p => by
  unfold sAp at p
  split at p
  · rename_i π0 eπ
    refine ho B F H ul σ tv ρ G us _ r eπ _ fun y B2 H2 w hy => ?_
    have hy : pv G π0 = some y := hy
    have r2 := r.grow w
    split at p
    · rename_i cs0 hg0
      obtain ⟨q, cs0', g0, rfl, rfl⟩ := node_of r hg0 hy
      obtain ⟨vs0, hn0, hc0⟩ := r2.rl.node g0
      refine ⟨.inl ⟨rfl, _, SqL.of hn0.2⟩, ?_⟩
      have r2p : Rg K cl B2 F H2 ul σ (tv ++ [.ref q]) (pushPt π0 ρ) G us := push_ok (x := .s (.pt π0)) r2 hy rfl
      refine h B2 F H2 ul σ _ _ G us r2p _ ?_
      split at p
      · rename_i x ρ1 e
        rw [e]
        intro v B3 H3 G1 us1 k1 r1 hv
        split at p
        · rename_i c ρ2 ec
          obtain ⟨G2, us2, u, r3, rfl, hu, nu, hq, hs⟩ := child_ok r1 hv ec
          split at p
          · rename_i π eπ2
            have hp := top_ok r3 eπ2
            split at p
            · rename_i cs hg
              obtain ⟨q2, cs', g1, rfl, eq⟩ := node_of r3 hg hp
              cases eq
              obtain ⟨vs, hn, hc⟩ := r3.rl.node g1
              split at p
              · rename_i hlen
                have hl : vs.length = (erAll cs').length := by rw [hc.length, erAll_map, List.length_map]
                obtain ⟨G', r4⟩ := app_ok (h' := .lst) (vs := vs) (ws := [v]) (es := [u]) (o := .lst (vs ++ [v])) r3 g1 rfl rfl (.inl ⟨_, rfl⟩) ⟨hn.1, by rw [upd_same]⟩ hc (one_at hu) (by rw [one_addr]; exact nu) (by rw [one_addr]; exact hq)
                exact ⟨q, vs, v, rfl, rfl, hn.2, by rw [hl]; exact Nat.lt_of_lt_of_le hlen (by decide), p B3 _ σ G' us2 ((w.kp r.rl.exF).trans k1) (pop_ok r4)⟩
              · exact p.elim
            · exact p.elim
          · exact p.elim
        · exact p.elim
      · rename_i C' ρ1 e
        rw [e]
        exact fun B1 H1 G1 us1 k1 r1 => p B1 H1 σ G1 us1 ((w.kp r.rl.exF).trans k1) (pop_ok r1)
      · exact p.elim
    · exact p.elim
  · exact p.elim
theorem addrs_data : ∀ {cs : List LT} {ds : List PyData}, cs.map TL.er = ds.map TL.py → addrsAll cs = []
  | [], _, _ => rfl
  | c :: cs, [], h => by cases h
  | c :: cs, d :: ds, h => by
    simp only [List.map_cons, List.cons.injEq] at h
    cases c with
    | un => cases h.1
    | nd => cases h.1
    | py x => simp [addrsAll, TL.addrs, addrs_data h.2]
/-- a list of data as children -/
def pyAll : List T → Option (List PyData)
  | [] => some []
  | .py d :: r => match pyAll r with
    | some ds => some (d :: ds)
    | none => none
  | _ :: _ => none
theorem pyAll_of : ∀ {cs : List LT} {ds : List PyData}, pyAll (erAll cs) = some ds → cs = ds.map TL.py
  | [], ds, h => by simp only [erAll, pyAll, Option.some.injEq] at h; subst h; rfl
  | .un _ :: cs, ds, h => by simp [erAll, TL.er, pyAll] at h
  | .nd _ _ _ :: cs, ds, h => by simp [erAll, TL.er, pyAll] at h
  | .py d :: cs, ds, h => by
    simp only [erAll, TL.er, pyAll] at h
    split at h
    · rename_i es e1
      cases h
      rw [pyAll_of e1]; rfl
    · cases h
theorem pyAll_py : ∀ (ds : List PyData), pyAll (ds.map TL.py) = some ds
  | [] => rfl
  | d :: ds => by simp [pyAll, pyAll_py ds]
end
/-- xs.extend(e), e a list of data: a new one, or a tree -/
def sEt (pf : Rh → Option Sv) (f : Rh → Option Ev) (ρ : Rh) : Option Oc := match pf ρ with
  | some (.pt π0) => match gget ρ.g π0 with
    | some (.nd _ .lst _) => match f (pushPt π0 ρ) with
      | some (.vl .own ρ1) => match ρ1.g.getLast? with
        | some (.nd _ .lst es) => match pyAll es with
          | some ds => if ρ1.bs < ρ1.g.length then match topPt (dropLastF ρ1) with
              | some π => match gget (dropLastF ρ1).g π with
                | some (.nd _ .lst cs) => if cs.length + ds.length ≤ 100000 then some (.nx (popTm (putAt π (fun _ => false) (.nd () .lst (cs ++ ds.map TL.py)) (dropLastF ρ1)))) else none
                | _ => none
              | none => none
            else none
          | none => none
        | _ => none
      | some (.vl (.s (.pt π1)) ρ1) => match gget ρ1.g π1 with
        | some (.nd _ .lst es) => match pyAll es with
          | some ds => match topPt ρ1 with
            | some π => match gget ρ1.g π with
              | some (.nd _ .lst cs) => if cs.length + ds.length ≤ 100000 then some (.nx (popTm (putAt π (fun _ => false) (.nd () .lst (cs ++ ds.map TL.py)) ρ1))) else none
              | _ => none
            | none => none
          | none => none
        | _ => none
      | some (.ex C ρ1) => some (.ex C (popTm ρ1))
      | _ => none
    | _ => none
  | _ => none
section
variable {K : PySem.W.Frag} {W : WX} {te ta tb tk to : TE} {f g : Rh → Option Ev} {pf : Rh → Option Sv} {kf : Rh → Option PyData} {t u : TS} {c : TT} {sf sg : Rh → Option Oc} {n i : Nat}
theorem sx_et (ho : Pv K cl to pf) (h : Fv K cl W te f) : Sx K cl W (tDrop (tBM K "list" rExtend to (tCons te tNil))) (sEt pf f) := fun B F H ul σ tv ρ G us D r p => by
  unfold sEt at p
  split at p
  · rename_i π0 eπ
    refine ho B F H ul σ tv ρ G us _ r eπ _ fun y B2 H2 w hy => ?_
    have hy : pv G π0 = some y := hy
    have r2 := r.grow w
    split at p
    · rename_i cs0 hg0
      obtain ⟨q, cs0', g0, rfl, rfl⟩ := node_of r hg0 hy
      obtain ⟨vs0, hn0, hc0⟩ := r2.rl.node g0
      refine ⟨.inl ⟨rfl, _, SqL.of hn0.2⟩, ?_⟩
      have r2p : Rg K cl B2 F H2 ul σ (tv ++ [.ref q]) (pushPt π0 ρ) G us := push_ok (x := .s (.pt π0)) r2 hy rfl
      refine h B2 F H2 ul σ _ _ G us r2p _ ?_
      split at p
      · rename_i ρ1 e
        rw [e]
        intro v B3 H3 G1 us1 k1 r1 hv
        split at p
        · rename_i es et
          obtain ⟨G0, ul0, us0, rfl, rfl, eu, hl0⟩ := r1.lastRoot hv et
          split at p
          · rename_i ds eds
            split at p
            · rename_i hb
              obtain ⟨rl0, hu, _, _, _⟩ := r1.rl.last
              have r3 := r1.dropLast hb rl0 (Evl.Ex.refl _)
              cases ul0 with
              | un => cases eu
              | py => cases eu
              | nd q1 hd1 es' =>
                simp only [TL.er, TL.nd.injEq] at eu
                obtain ⟨_, rfl, rfl⟩ := eu
                have := pyAll_of eds
                subst this
                cases hu with
                | nd hn1 hc1 =>
                  rename_i zs
                  split at p
                  · rename_i π eπ2
                    have hp := top_ok r3 eπ2
                    split at p
                    · rename_i cs hg
                      obtain ⟨q2, cs', g1, rfl, eq⟩ := node_of r3 hg hp
                      cases eq
                      obtain ⟨vs, hn, hc⟩ := r3.rl.node g1
                      split at p
                      · rename_i hlen
                        have hl : vs.length = (erAll cs').length := by rw [hc.length, erAll_map, List.length_map]
                        have hz : zs.length = ds.length := by rw [hc1.length, List.length_map]
                        obtain ⟨G', r4⟩ := app_ok (h' := .lst) (vs := vs) (ws := zs) (es := ds.map TL.py) (o := .lst (vs ++ zs)) r3 g1 rfl rfl (.inl ⟨_, rfl⟩) ⟨hn.1, by rw [upd_same]⟩ hc hc1 (by rw [addrsAll_py]; simp) (fun q hq => by rw [addrsAll_py] at hq; simp at hq)
                        rw [erAll_py] at r4
                        exact ⟨q, q1, vs, zs, rfl, rfl, hn.2, hn1.2, by rw [hl, hz]; exact Nat.le_trans hlen (by decide), p B3 _ σ G' us0 ((w.kp r.rl.exF).trans k1) (pop_ok r4)⟩
                      · exact p.elim
                    · exact p.elim
                  · exact p.elim
            · exact p.elim
          · exact p.elim
        · exact p.elim
      · rename_i π1 ρ1 e
        rw [e]
        intro v B3 H3 G1 us1 k1 r3 hv
        have hv : pv G1 π1 = some v := hv
        split at p
        · rename_i es hg1
          obtain ⟨q1, es', g1', rfl, rfl⟩ := node_of r3 hg1 hv
          obtain ⟨zs, hn1, hc1⟩ := r3.rl.node g1'
          split at p
          · rename_i ds eds
            have := pyAll_of eds
            subst this
            split at p
            · rename_i π eπ2
              have hp := top_ok r3 eπ2
              split at p
              · rename_i cs hg
                obtain ⟨q2, cs', g1, rfl, eq⟩ := node_of r3 hg hp
                cases eq
                obtain ⟨vs, hn, hc⟩ := r3.rl.node g1
                split at p
                · rename_i hlen
                  have hl : vs.length = (erAll cs').length := by rw [hc.length, erAll_map, List.length_map]
                  have hz : zs.length = ds.length := by rw [hc1.length, List.length_map]
                  obtain ⟨G', r4⟩ := app_ok (h' := .lst) (vs := vs) (ws := zs) (es := ds.map TL.py) (o := .lst (vs ++ zs)) r3 g1 rfl rfl (.inl ⟨_, rfl⟩) ⟨hn.1, by rw [upd_same]⟩ hc hc1 (by rw [addrsAll_py]; simp) (fun q hq => by rw [addrsAll_py] at hq; simp at hq)
                  rw [erAll_py] at r4
                  exact ⟨q, q1, vs, zs, rfl, rfl, hn.2, hn1.2, by rw [hl, hz]; exact Nat.le_trans hlen (by decide), p B3 _ σ G' us1 ((w.kp r.rl.exF).trans k1) (pop_ok r4)⟩
                · exact p.elim
              · exact p.elim
            · exact p.elim
          · exact p.elim
        · exact p.elim
      · rename_i C' ρ1 e
        rw [e]
        exact fun B1 H1 G1 us1 k1 r1 => p B1 H1 σ G1 us1 ((w.kp r.rl.exF).trans k1) (pop_ok r1)
      · exact p.elim
    · exact p.elim
  · exact p.elim
end
end Fx

/-! Loops; defs. -/
namespace Fx
open PySem L2
open Evl (Ex)
variable {cl : Kl}
def loopD (tg : Sv → Rh → Option Rh) (b : Rh → Option Oc) : List PyData → Rh → Option Oc
  | [], ρ => some (.nx ρ)
  | d :: ds, ρ => match tg (.py d) ρ with
    | some ρ1 => match b ρ1 with
      | some (.nx ρ2) => loopD tg b ds ρ2
      | some (.ct ρ2) => loopD tg b ds ρ2
      | some (.bk ρ2) => some (.nx ρ2)
      | some (.rt r ρ2) => some (.rt r ρ2)
      | some (.ex C ρ2) => some (.ex C ρ2)
      | none => none
    | none => none
def loopT (tg : Sv → Rh → Option Rh) (b : Rh → Option Oc) : Nat → Nat → Rh → Option Oc
  | 0, i, ρ => match topPt ρ with
    | some π => match gget ρ.g π with
      | some (.nd _ .lst cs) => if cs.length = i then some (.nx (popTm ρ)) else none
      | _ => none
    | none => none
  | k + 1, i, ρ => match topPt ρ with
    | some π => match gget ρ.g π with
      | some (.nd _ .lst cs) => if cs.length = i + (k + 1) then match kidAt π cs i with
          | some s => match tg s ρ with
            | some ρ1 => match b ρ1 with
              | some (.nx ρ2) => loopT tg b k (i + 1) ρ2
              | some (.ct ρ2) => loopT tg b k (i + 1) ρ2
              | some (.bk ρ2) => some (.nx (popTm ρ2))
              | some (.rt r ρ2) => some (.rt r (popTm ρ2))
              | some (.ex C ρ2) => some (.ex C (popTm ρ2))
              | none => none
            | none => none
          | none => none
        else none
      | _ => none
    | none => none
def sFo (f : Rh → Option Ev) (tg : Sv → Rh → Option Rh) (b : Rh → Option Oc) (ρ : Rh) : Option Oc := match f ρ with
  | some (.vl (.s (.py (.list ds))) ρ1) => loopD tg b ds ρ1
  | some (.vl (.s (.pt π)) ρ1) => match gget ρ1.g π with
    | some (.nd _ .lst cs) => loopT tg b cs.length 0 (pushPt π ρ1)
    | _ => none
  | some (.ex C ρ1) => some (.ex C ρ1)
  | _ => none
def sFu (f : Rh → Option Ev) (tg : Sv → Rh → Option Rh) (b : Rh → Option Oc) (ρ : Rh) : Option Oc := match f ρ with
  | some (.vl (.s (.py (.tuple ds))) ρ1) => loopD tg b ds ρ1
  | some (.ex C ρ1) => some (.ex C ρ1)
  | _ => none
def rngF : List PyData → Option (List PyData)
  | [.int n] => if -(2 ^ 62) ≤ n ∧ n < 2 ^ 62 then some ((List.range n.toNat).map fun i : Nat => .int (i : Int)) else none
  | _ => none
def sFr (f : Rh → Option (List PyData)) (tg : Sv → Rh → Option Rh) (b : Rh → Option Oc) (ρ : Rh) : Option Oc := match f ρ with
  | some as => match rngF as with
    | some ds => loopD tg b ds ρ
    | none => none
  | none => none
def whileF (c : Rh → Option Ev) (b : Rh → Option Oc) : Nat → Rh → Option Oc
  | 0, _ => none
  | n + 1, ρ => match c ρ with
    | some (.vl (.s (.py (.bool true))) ρ1) => match b ρ1 with
      | some (.nx ρ2) => whileF c b n ρ2
      | some (.ct ρ2) => whileF c b n ρ2
      | some (.bk ρ2) => some (.nx ρ2)
      | some (.rt r ρ2) => some (.rt r ρ2)
      | some (.ex C ρ2) => some (.ex C ρ2)
      | none => none
    | some (.vl (.s (.py (.bool false))) ρ1) => some (.nx ρ1)
    | some (.ex C ρ1) => some (.ex C ρ1)
    | _ => none
section
variable {K : PySem.W.Frag} {W : WX} {te ta tb tk to : TE} {f g : Rh → Option Ev} {t u : TS} {c : TT} {sf sg : Rh → Option Oc} {n i : Nat} {tg : TG} {fg : Sv → Rh → Option Rh} {tr : TA} {af : Rh → Option (List PyData)}
/-- the turns over data, one by one -/
theorem loopD_turn {B B0 F H : Hp} {ul tv us : List V} {σ : St} {ρ : Rh} {G : List LT} {D : Ends} {d : PyData} {ds : List PyData} {x : V} {N : St → Hp → Prop} (ht : Tg K cl tg fg) (hb : Sx K cl W t sf) (r : Rg K cl B F H ul σ tv ρ G us) (k : Kp F B0 B) (hx : Dp K B x d) (p : OcP K cl B0 F ul tv W D (loopD fg sf (d :: ds) ρ))
    (hN : ∀ B' H' σ' ρ' G' us', Kp F B0 B' → Rg K cl B' F H' ul σ' tv ρ' G' us' → OcP K cl B0 F ul tv W D (loopD fg sf ds ρ') → N σ' H') : tg x σ H fun σ2 H2 => t { D with nx := N, ct := N, bk := D.nx } σ2 H2 := by
  simp only [loopD] at p
  split at p
  · rename_i ρ1 e1
    refine ht B F H ul σ tv ρ ρ1 G us x (.py d) r hx e1 _ fun σ1 r1 => ?_
    refine hb B F H ul σ1 tv ρ1 G us _ r1 ?_
    split at p
    · rename_i ρ2 e2; rw [e2]
      exact fun B' H' σ' G' us' k' r' => hN B' H' σ' ρ2 G' us' (k.trans k') r' p
    · rename_i ρ2 e2; rw [e2]
      exact fun B' H' σ' G' us' k' r' => hN B' H' σ' ρ2 G' us' (k.trans k') r' p
    · rename_i ρ2 e2; rw [e2]
      exact fun B' H' σ' G' us' k' r' => p B' H' σ' G' us' (k.trans k') r'
    · rename_i y ρ2 e2; rw [e2]
      exact fun v B' H' σ' G' us' k' r' => p v B' H' σ' G' us' (k.trans k') r'
    · rename_i C ρ2 e2; rw [e2]
      exact fun B' H' σ' G' us' k' r' => p B' H' σ' G' us' (k.trans k') r'
    · exact p.elim
  · exact p.elim
theorem loopD_list {B F H : Hp} {ul tv us : List V} {σ : St} {ρ : Rh} {G : List LT} {D : Ends} {ds : List PyData} {a : Addr} {xs : List V} (ht : Tg K cl tg fg) (hb : Sx K cl W t sf) (r : Rg K cl B F H ul σ tv ρ G us) (s1 : SqL K B a xs) (a1 : DpAll K B xs ds) (p : OcP K cl B F ul tv W D (loopD fg sf ds ρ)) :
    ∃ Wn : Nat → Nat → St → Hp → Prop, (∃ m, Wn 0 m σ H) ∧ ∀ i m σ H, Wn i m σ H → ((Itl K a).stop i H ∧ D.nx σ H) ∨ ((Itl K a).go i H ∧ ∃ N : St → Hp → Prop, (∀ σ' H', N σ' H' → ∃ m', m' < m ∧ Wn (i + 1) m' σ' H') ∧ ∀ x H', (Itl K a).yld i H x H' → tg x σ H' fun σ2 H2 => t { D with nx := N, ct := N, bk := D.nx } σ2 H2) := by
  have hl := DpAll.length a1
  refine ⟨fun i m σ' H' => ∃ B' ρ' G' us', m = (ds.drop i).length ∧ i ≤ ds.length ∧ Kp F B B' ∧ Rg K cl B' F H' ul σ' tv ρ' G' us' ∧ OcP K cl B F ul tv W D (loopD fg sf (ds.drop i) ρ'), ⟨_, B, ρ, G, us, rfl, Nat.zero_le _, Kp.refl F B, r, by simpa using p⟩, ?_⟩
  rintro i m σ' H' ⟨B', ρ', G', us', rfl, hi, k', r', p'⟩
  have sq : SqL K H' a xs := Evl.ex_l (k'.b.trans r'.rl.exB) s1
  by_cases hlt : i < ds.length
  · rw [List.drop_eq_getElem_cons hlt] at p'
    obtain ⟨x', h1, h2⟩ := DpAll.get a1 (List.getElem?_eq_getElem hlt)
    refine .inr ⟨⟨xs, x', sq, h1⟩, fun σ2 H2 => ∃ B2 ρ2 G2 us2, Kp F B B2 ∧ Rg K cl B2 F H2 ul σ2 tv ρ2 G2 us2 ∧ OcP K cl B F ul tv W D (loopD fg sf (ds.drop (i + 1)) ρ2), fun σ2 H2 ⟨B2, ρ2, G2, us2, k2, r2, p2⟩ => ⟨(ds.drop (i + 1)).length, by simp; omega, B2, ρ2, G2, us2, rfl, hlt, k2, r2, p2⟩, fun x H2 ⟨e1, e2⟩ => ?_⟩
    subst e1
    have := e2 xs sq
    rw [h1] at this; cases this
    exact loopD_turn ht hb r' k' (Dp.mono k'.b _ _ h2) p' fun B2 H2 σ2 ρ2 G2 us2 k2 r2 p2 => ⟨B2, ρ2, G2, us2, k2, r2, p2⟩
  · have : i = ds.length := by omega
    subst this
    rw [List.drop_length] at p'
    exact .inl ⟨⟨xs, sq, by omega⟩, p' B' H' σ' G' us' k' r'⟩
theorem loopD_tup {B F H : Hp} {ul tv us : List V} {σ : St} {ρ : Rh} {G : List LT} {D : Ends} {ds : List PyData} {a : Addr} {xs : List V} (ht : Tg K cl tg fg) (hb : Sx K cl W t sf) (r : Rg K cl B F H ul σ tv ρ G us) (s1 : SqT K B a xs) (a1 : DpAll K B xs ds) (p : OcP K cl B F ul tv W D (loopD fg sf ds ρ)) :
    ∃ Wn : Nat → Nat → St → Hp → Prop, (∃ m, Wn 0 m σ H) ∧ ∀ i m σ H, Wn i m σ H → ((Itt K a).stop i H ∧ D.nx σ H) ∨ ((Itt K a).go i H ∧ ∃ N : St → Hp → Prop, (∀ σ' H', N σ' H' → ∃ m', m' < m ∧ Wn (i + 1) m' σ' H') ∧ ∀ x H', (Itt K a).yld i H x H' → tg x σ H' fun σ2 H2 => t { D with nx := N, ct := N, bk := D.nx } σ2 H2) := by
  have hl := DpAll.length a1
  refine ⟨fun i m σ' H' => ∃ B' ρ' G' us', m = (ds.drop i).length ∧ i ≤ ds.length ∧ Kp F B B' ∧ Rg K cl B' F H' ul σ' tv ρ' G' us' ∧ OcP K cl B F ul tv W D (loopD fg sf (ds.drop i) ρ'), ⟨_, B, ρ, G, us, rfl, Nat.zero_le _, Kp.refl F B, r, by simpa using p⟩, ?_⟩
  rintro i m σ' H' ⟨B', ρ', G', us', rfl, hi, k', r', p'⟩
  have sq : SqT K H' a xs := Evl.ex_t (k'.b.trans r'.rl.exB) s1
  by_cases hlt : i < ds.length
  · rw [List.drop_eq_getElem_cons hlt] at p'
    obtain ⟨x', h1, h2⟩ := DpAll.get a1 (List.getElem?_eq_getElem hlt)
    refine .inr ⟨⟨xs, x', sq, h1⟩, fun σ2 H2 => ∃ B2 ρ2 G2 us2, Kp F B B2 ∧ Rg K cl B2 F H2 ul σ2 tv ρ2 G2 us2 ∧ OcP K cl B F ul tv W D (loopD fg sf (ds.drop (i + 1)) ρ2), fun σ2 H2 ⟨B2, ρ2, G2, us2, k2, r2, p2⟩ => ⟨(ds.drop (i + 1)).length, by simp; omega, B2, ρ2, G2, us2, rfl, hlt, k2, r2, p2⟩, fun x H2 ⟨e1, e2⟩ => ?_⟩
    subst e1
    have := e2 xs sq
    rw [h1] at this; cases this
    exact loopD_turn ht hb r' k' (Dp.mono k'.b _ _ h2) p' fun B2 H2 σ2 ρ2 G2 us2 k2 r2 p2 => ⟨B2, ρ2, G2, us2, k2, r2, p2⟩
  · have : i = ds.length := by omega
    subst this
    rw [List.drop_length] at p'
    exact .inl ⟨⟨xs, sq, by omega⟩, p' B' H' σ' G' us' k' r'⟩
theorem sx_fr (ha : Da K cl tr af) (ht : Tg K cl tg fg) (hb : Sx K cl W t sf) : Sx K cl W (tFor (iRng1 tr) tg t) (sFr af fg sf) := fun B F H ul σ tv ρ G us D r p => by
  unfold sFr at p
  split at p
  · rename_i as e1
    split at p
    · rename_i ds e2
      refine ha B F H ul σ tv ρ G us as r e1 _ fun vs B1 H1 w hv => ?_
      unfold rngF at e2
      split at e2
      · rename_i n
        split at e2
        · rename_i hn
          cases e2
          cases hv with
          | cons a b =>
            cases a
            cases b
            have r1 := r.grow w
            have p := p.imp (w.kp r.rl.exF)
            refine ⟨n, rfl, hn.1, hn.2, ?_⟩
            have hl : ((List.range n.toNat).map fun i : Nat => PyData.int (i : Int)).length = n.toNat := by simp
            generalize hds : ((List.range n.toNat).map fun i : Nat => PyData.int (i : Int)) = ds at p hl
            refine ⟨fun i m σ' H' => ∃ B' ρ' G' us', m = (ds.drop i).length ∧ i ≤ ds.length ∧ Kp F B1 B' ∧ Rg K cl B' F H' ul σ' tv ρ' G' us' ∧ OcP K cl B1 F ul tv W D (loopD fg sf (ds.drop i) ρ'), ⟨_, B1, ρ, G, us, rfl, Nat.zero_le _, Kp.refl F B1, r1, by simpa using p⟩, ?_⟩
            rintro i m σ' H' ⟨B', ρ', G', us', rfl, hi, k', r', p'⟩
            by_cases hlt : i < ds.length
            · rw [List.drop_eq_getElem_cons hlt] at p'
              refine .inr ⟨show i < n.toNat by omega, fun σ2 H2 => ∃ B2 ρ2 G2 us2, Kp F B1 B2 ∧ Rg K cl B2 F H2 ul σ2 tv ρ2 G2 us2 ∧ OcP K cl B1 F ul tv W D (loopD fg sf (ds.drop (i + 1)) ρ2), fun σ2 H2 ⟨B2, ρ2, G2, us2, k2, r2, p2⟩ => ⟨(ds.drop (i + 1)).length, by simp; omega, B2, ρ2, G2, us2, rfl, hlt, k2, r2, p2⟩, fun x H2 ⟨e1, e2⟩ => ?_⟩
              subst e1
              subst e2
              refine loopD_turn ht hb r' k' ?_ p' fun B2 H2 σ2 ρ2 G2 us2 k2 r2 p2 => ⟨B2, ρ2, G2, us2, k2, r2, p2⟩
              subst hds
              simp
              exact .int _
            · have : i = ds.length := by omega
              subst this
              rw [List.drop_length] at p'
              exact .inl ⟨show n.toNat ≤ ds.length by omega, p' B' H' σ' G' us' k' r'⟩
        · cases e2
      · cases e2
    · exact p.elim
  · exact p.elim
theorem sx_fu (h : Fv K cl W te f) (ht : Tg K cl tg fg) (hb : Sx K cl W t sf) : Sx K cl W (tFor (iTup K te) tg t) (sFu f fg sf) := fun B F H ul σ tv ρ G us D r p => by
  refine h B F H ul σ tv ρ G us r _ ?_
  unfold sFu at p
  split at p
  · rename_i ds ρ1 e
    rw [e]
    intro v B1 H1 G1 us1 k1 r1 hv
    have hv : Dp K B1 v (.tuple ds) := hv
    cases hv with
    | tup s1 a1 => exact ⟨_, rfl, ⟨_, Evl.ex_t r1.rl.exB s1⟩, loopD_tup ht hb r1 s1 a1 (p.imp k1)⟩
  · rename_i C ρ1 e
    rw [e]
    exact fun B1 H1 G1 us1 k1 r1 => p B1 H1 σ G1 us1 k1 r1
  · exact p.elim
theorem loopT_list {B F H : Hp} {ul tv us : List V} {σ : St} {ρ : Rh} {G : List LT} {D : Ends} {a : Addr} {n : Nat} (ht : Tg K cl tg fg) (hb : Sx K cl W t sf) (r : Rg K cl B F H ul σ (tv ++ [.ref a]) ρ G us) (p : OcP K cl B F ul tv W D (loopT fg sf n 0 ρ)) :
    ∃ Wn : Nat → Nat → St → Hp → Prop, (∃ m, Wn 0 m σ H) ∧ ∀ i m σ H, Wn i m σ H → ((Itl K a).stop i H ∧ D.nx σ H) ∨ ((Itl K a).go i H ∧ ∃ N : St → Hp → Prop, (∀ σ' H', N σ' H' → ∃ m', m' < m ∧ Wn (i + 1) m' σ' H') ∧ ∀ x H', (Itl K a).yld i H x H' → tg x σ H' fun σ2 H2 => t { D with nx := N, ct := N, bk := D.nx } σ2 H2) := by
  refine ⟨fun i m σ' H' => ∃ B' ρ' G' us', Kp F B B' ∧ Rg K cl B' F H' ul σ' (tv ++ [.ref a]) ρ' G' us' ∧ OcP K cl B F ul tv W D (loopT fg sf m i ρ'), ⟨n, B, ρ, G, us, Kp.refl F B, r, p⟩, ?_⟩
  rintro i m σ' H' ⟨B', ρ', G', us', k', r', p'⟩
  cases m with
  | zero =>
    simp only [loopT] at p'
    split at p'
    · rename_i π e1
      have hp := top_ok r' e1
      split at p'
      · rename_i cs hg
        obtain ⟨q, cs', g1, rfl, eq⟩ := node_of r' hg hp
        cases eq
        obtain ⟨vs, hn, hc⟩ := r'.rl.node g1
        split at p'
        · rename_i hl
          have : vs.length = i := by rw [hc.length, ← hl, erAll_map, List.length_map]
          exact .inl ⟨⟨vs, SqL.of hn.2, by omega⟩, p' B' H' σ' G' us' k' (pop_ok r')⟩
        · exact p'.elim
      · exact p'.elim
    · exact p'.elim
  | succ m =>
    simp only [loopT] at p'
    split at p'
    · rename_i π e1
      have hp := top_ok r' e1
      split at p'
      · rename_i cs hg
        obtain ⟨q, cs', g1, rfl, eq⟩ := node_of r' hg hp
        cases eq
        obtain ⟨vs, hn, hc⟩ := r'.rl.node g1
        split at p'
        · rename_i hl
          split at p'
          · rename_i s hs
            obtain ⟨v, h1, h2⟩ := kid_of r' g1 hc hs
            refine .inr ⟨⟨vs, v, SqL.of hn.2, h1⟩, fun σ2 H2 => ∃ B2 ρ2 G2 us2, Kp F B B2 ∧ Rg K cl B2 F H2 ul σ2 (tv ++ [.ref a]) ρ2 G2 us2 ∧ OcP K cl B F ul tv W D (loopT fg sf m (i + 1) ρ2), fun σ2 H2 ⟨B2, ρ2, G2, us2, k2, r2, p2⟩ => ⟨m, by omega, B2, ρ2, G2, us2, k2, r2, p2⟩, fun x H2 ⟨e1, e2⟩ => ?_⟩
            subst e1
            have := e2 vs (SqL.of hn.2)
            rw [h1] at this; cases this
            split at p'
            · rename_i ρ1 e3
              refine ht B' F H2 ul σ' _ ρ' ρ1 G' us' v s r' h2 e3 _ fun σ1 r1 => ?_
              refine hb B' F H2 ul σ1 _ ρ1 G' us' _ r1 ?_
              split at p'
              · rename_i ρ2 e2; rw [e2]
                exact fun B2 H2 σ2 G2 us2 k2 r2 => ⟨B2, ρ2, G2, us2, k'.trans k2, r2, p'⟩
              · rename_i ρ2 e2; rw [e2]
                exact fun B2 H2 σ2 G2 us2 k2 r2 => ⟨B2, ρ2, G2, us2, k'.trans k2, r2, p'⟩
              · rename_i ρ2 e2; rw [e2]
                exact fun B2 H2 σ2 G2 us2 k2 r2 => p' B2 H2 σ2 G2 us2 (k'.trans k2) (pop_ok r2)
              · rename_i y ρ2 e2; rw [e2]
                exact fun v B2 H2 σ2 G2 us2 k2 r2 hv => p' v B2 H2 σ2 G2 us2 (k'.trans k2) (pop_ok r2) (by cases y <;> exact hv)
              · rename_i C ρ2 e2; rw [e2]
                exact fun B2 H2 σ2 G2 us2 k2 r2 => p' B2 H2 σ2 G2 us2 (k'.trans k2) (pop_ok r2)
              · exact p'.elim
            · exact p'.elim
          · exact p'.elim
        · exact p'.elim
      · exact p'.elim
    · exact p'.elim
theorem sx_fo (h : Fv K cl W te f) (ht : Tg K cl tg fg) (hb : Sx K cl W t sf) : Sx K cl W (tFor (iList K te) tg t) (sFo f fg sf) := fun B F H ul σ tv ρ G us D r p => by
  refine h B F H ul σ tv ρ G us r _ ?_
  unfold sFo at p
  split at p
  · rename_i ds ρ1 e
    rw [e]
    intro v B1 H1 G1 us1 k1 r1 hv
    have hv : Dp K B1 v (.list ds) := hv
    cases hv with
    | lst s1 a1 => exact ⟨_, rfl, ⟨_, Evl.ex_l r1.rl.exB s1⟩, loopD_list ht hb r1 s1 a1 (p.imp k1)⟩
  · rename_i π ρ1 e
    rw [e]
    intro v B1 H1 G1 us1 k1 r1 hv
    have hv : pv G1 π = some v := hv
    split at p
    · rename_i cs hg
      obtain ⟨q, cs', g1, rfl, rfl⟩ := node_of r1 hg hv
      obtain ⟨vs, hn, hc⟩ := r1.rl.node g1
      have r2 : Rg K cl B1 F H1 ul σ (tv ++ [.ref q]) (pushPt π ρ1) G1 us1 := push_ok (x := .s (.pt π)) r1 hv rfl
      exact ⟨_, rfl, ⟨_, SqL.of hn.2⟩, loopT_list ht hb r2 (p.imp k1)⟩
    · exact p.elim
  · rename_i C ρ1 e
    rw [e]
    exact fun B1 H1 G1 us1 k1 r1 => p B1 H1 σ G1 us1 k1 r1
  · exact p.elim
theorem sx_wh (n : Nat) (hc : Ft K cl W c f) (hb : Sx K cl W t sf) : Sx K cl W (tWhile c t) (whileF f sf n) := fun B F H ul σ tv ρ G us D r p => by
  refine ⟨fun m σ' H' => ∃ B' ρ' G' us', Kp F B B' ∧ Rg K cl B' F H' ul σ' tv ρ' G' us' ∧ OcP K cl B F ul tv W D (whileF f sf m ρ'), ⟨n, B, ρ, G, us, Kp.refl F B, r, p⟩, ?_⟩
  rintro m σ' H' ⟨B', ρ', G', us', k', r', p'⟩
  refine hc B' F H' ul σ' tv ρ' G' us' r' _ ?_
  cases m with
  | zero => exact p'.elim
  | succ m =>
    simp only [whileF] at p'
    split at p'
    · rename_i ρ1 e; rw [e]
      intro B1 H1 G1 us1 k1 r1
      refine iteT ⟨fun σ2 H2 => ∃ B2 ρ2 G2 us2, Kp F B B2 ∧ Rg K cl B2 F H2 ul σ2 tv ρ2 G2 us2 ∧ OcP K cl B F ul tv W D (whileF f sf m ρ2), fun σ2 H2 h => ⟨m, by omega, h⟩, hb B1 F H1 ul σ' tv ρ1 G1 us1 _ r1 ?_⟩
      split at p'
      · rename_i ρ2 e2; rw [e2]
        exact fun B2 H2 σ2 G2 us2 k2 r2 => ⟨B2, ρ2, G2, us2, (k'.trans k1).trans k2, r2, p'⟩
      · rename_i ρ2 e2; rw [e2]
        exact fun B2 H2 σ2 G2 us2 k2 r2 => ⟨B2, ρ2, G2, us2, (k'.trans k1).trans k2, r2, p'⟩
      · rename_i ρ2 e2; rw [e2]
        exact fun B2 H2 σ2 G2 us2 k2 r2 => p' B2 H2 σ2 G2 us2 ((k'.trans k1).trans k2) r2
      · rename_i y ρ2 e2; rw [e2]
        exact fun v B2 H2 σ2 G2 us2 k2 r2 => p' v B2 H2 σ2 G2 us2 ((k'.trans k1).trans k2) r2
      · rename_i C ρ2 e2; rw [e2]
        exact fun B2 H2 σ2 G2 us2 k2 r2 => p' B2 H2 σ2 G2 us2 ((k'.trans k1).trans k2) r2
      · exact p'.elim
    · rename_i ρ1 e; rw [e]
      exact fun B1 H1 G1 us1 k1 r1 => iteF (p' B1 H1 σ' G1 us1 (k'.trans k1) r1)
    · rename_i C ρ1 e; rw [e]
      exact fun B1 H1 G1 us1 k1 r1 => p' B1 H1 σ' G1 us1 (k'.trans k1) r1
    · exact p'.elim
end
/-! ### defs -/
def shiftS (N : Nat) : Sv → Sv
  | .pt (j :: r) => .pt ((N + j) :: r)
  | s => s
def lentF (N n : Nat) (ρ : Rh) : List T := (ρ.g.drop N).take n
/-- a def of np parameters, N slots, whose body is f -/
def runF (np N : Nat) (f : Rh → Option Oc) : Sem := fun ss g =>
  if ss.length = np then match f ⟨ss.map (fun s => some (shiftS N s)) ++ List.replicate (N - np) none, [], List.replicate N (.un ()) ++ g, N + g.length⟩ with
    | some (.nx ρ) => if ρ.bs = N + g.length then some (.vl (.s (.py .none)) (lentF N g.length ρ)) else none
    | some (.rt (.s (.py d)) ρ) => if ρ.bs = N + g.length then some (.vl (.s (.py d)) (lentF N g.length ρ)) else none
    | some (.rt (.s (.pt [i])) ρ) => if ρ.bs = N + g.length ∧ i < N then match ρ.g[i]? with
        | some (.nd a h cs) => some (.vl .own (lentF N g.length ρ ++ [.nd a h cs]))
        | _ => none
      else none
    | some (.rt .own ρ) => match ρ.g.getLast? with
      | some t => if ρ.bs = N + g.length ∧ ρ.bs < ρ.g.length then some (.vl .own (lentF N g.length ρ ++ [t])) else none
      | none => none
    | some (.ex C ρ) => if ρ.bs = N + g.length then some (.ex C (lentF N g.length ρ)) else none
    | _ => none
  else none
section
open PySem.Spec PyProof.Rows
variable {P : Program} {w : World} {K : PySem.W.Frag} {mg : Str → Option Value} {base : Heap}
/-- a def that may raise, by any wish about what leaves it -/
theorem Fun.okG {CX : CXT} {x qual : Str} {st : Stmt} {f : Addr} {fd : FuncData} {N ps : List Str} {k : Nat} {sp : Sp} (F : Fun K x qual st f fd) (S : FnScope N ps (defScope st)) (len : ∀ vs H Q E, sp vs H Q E → vs.length = ps.length)
    (hb : ∀ (cdv : Value) (A : Around) (outer : List Env) (s : Shared) (H : Hp) (vs : List V) (Q : VK) (E : XK), fd.code = cdv → Room k (A.deeper (envOfC qual (defScope st) s.heap.objs.size f cdv)) → sp vs H Q E →
      ∃ t, PSs (cxOf CX P w K mg base N qual (defScope st) f cdv A outer s H E) (defBody st) t ∧ t { nx := fun _ H' => Q .non H', rt := Q } (L2.start N vs) H) : FnOk P w K mg base CX (k + 1) f fd ps sp := by
  obtain ⟨oc, od, kV, doc, pm, an, cdv, ct, osl, e, lk, hcd⟩ := F.ex
  subst e
  exact fn_of lk hcd S len (fun A outer s H vs Q E hr h => hb cdv A outer s H vs Q E rfl hr h)
theorem ltall_un : ∀ (N : Nat) {B H : Hp}, LtAll K cl B H (List.replicate N V.non) (List.replicate N (TL.un V.non))
  | 0, _, _ => .nil
  | N + 1, _, _ => .cons .un (ltall_un N)
theorem addrs_un : ∀ (N : Nat) (G : List LT), addrsAll (List.replicate N (TL.un V.non) ++ G) = addrsAll G
  | 0, G => rfl
  | N + 1, G => by
    rw [List.replicate_succ, List.cons_append]
    simp only [addrsAll, TL.addrs, List.nil_append]
    exact addrs_un N G
theorem LtAll.take {B H : Hp} : ∀ (n : Nat) {vs : List V} {cs : List LT}, LtAll K cl B H vs cs → LtAll K cl B H (vs.take n) (cs.take n)
  | n, _, [], h => by cases h; simp; exact .nil
  | 0, _, c :: cs, h => by cases h; exact .nil
  | n + 1, _, c :: cs, h => by cases h with | cons a b => exact .cons a (LtAll.take n b)
theorem LtAll.drop {B H : Hp} : ∀ (n : Nat) {vs : List V} {cs : List LT}, LtAll K cl B H vs cs → LtAll K cl B H (vs.drop n) (cs.drop n)
  | n, _, [], h => by cases h; simp; exact .nil
  | 0, _, c :: cs, h => by cases h with | cons a b => exact .cons a b
  | n + 1, _, c :: cs, h => by cases h with | cons a b => exact LtAll.drop n b
theorem sub_take : ∀ (n : Nat) (cs : List LT), (addrsAll (cs.take n)).Sublist (addrsAll cs)
  | _, [] => by simp
  | 0, c :: cs => by simp [addrsAll]
  | n + 1, c :: cs => by simp only [List.take_succ_cons, addrsAll]; exact List.Sublist.append (List.Sublist.refl _) (sub_take n cs)
theorem sub_drop : ∀ (n : Nat) (cs : List LT), (addrsAll (cs.drop n)).Sublist (addrsAll cs)
  | _, [] => by simp
  | 0, c :: cs => by simp
  | n + 1, c :: cs => by simp only [List.drop_succ_cons, addrsAll]; exact (sub_drop n cs).trans (List.sublist_append_right _ _)
/-- the lent roots behind a body -/
theorem lent_back {B F H : Hp} {ul us : List V} {σ : L2.St} {ρ : Rh} {G : List LT} {N n : Nat} (r : Rg K cl B F H ul σ [] ρ G us) (hb : ρ.bs = N + n) (hn : ul.length = n) : Rl K cl B F H ((G.drop N).take n) ul ∧ ((G.drop N).take n).map TL.er = lentF N n ρ := by
  have h1 := r.bs
  have : σ.length = N := by omega
  subst this hn
  refine ⟨?_, by unfold lentF; rw [← r.er, List.map_take, List.map_drop]⟩
  have := LtAll.take ul.length (LtAll.drop σ.length r.rl.at_)
  rw [r.ul] at this
  have s := (sub_take ul.length (G.drop σ.length)).trans (sub_drop σ.length G)
  exact r.rl.re this (s.nodup r.rl.nod) fun q hq => s.subset hq
/-- and one more -/
theorem lent_more {B F H : Hp} {ul us : List V} {σ : L2.St} {ρ : Rh} {G : List LT} {N n i : Nat} {u : LT} {v : V} (r : Rg K cl B F H ul σ [] ρ G us) (hb : ρ.bs = N + n) (hn : ul.length = n) (hi : i < N ∨ N + n ≤ i) (hu : G[i]? = some u) (hv : us[i]? = some v) :
    Rl K cl B F H ((G.drop N).take n ++ [u]) (ul ++ [v]) := by
  obtain ⟨a1, a2⟩ := lent_back r hb hn
  obtain ⟨v', h1, h2⟩ := r.rl.at_.get hu
  rw [hv] at h1; cases h1
  have iG : i < G.length := (List.getElem?_eq_some_iff.mp hu).1
  have gi : G[i] = u := (List.getElem?_eq_some_iff.mp hu).2
  -- u stands apart
  have apart : (addrsAll ((G.drop N).take n) ++ u.addrs).Nodup := by
    have nod := r.rl.nod
    rcases hi with hi | hi
    · have e : G = G.take N ++ G.drop N := (List.take_append_drop N G).symm
      rw [e, addrsAll_append] at nod
      have m := List.nodup_append.mp nod
      have s1 := sub_take n (G.drop N)
      have uin : ∀ q ∈ u.addrs, q ∈ addrsAll (G.take N) := fun q hq => by
        have : (G.take N)[i]? = some u := by rw [List.getElem?_take_of_lt hi]; exact hu
        have := at_list (cl := ⟨fun _ => 0, []⟩) (G.take N) i u this
        obtain ⟨A1, A2, e1, _⟩ := this
        rw [e1]; simp [hq]
      have nu : u.addrs.Nodup := by
        have : (G.take N)[i]? = some u := by rw [List.getElem?_take_of_lt hi]; exact hu
        obtain ⟨A1, A2, e1, _⟩ := at_list (cl := ⟨fun _ => 0, []⟩) (G.take N) i u this
        have := m.1
        rw [e1] at this
        exact (List.nodup_append.mp (List.nodup_append.mp this).1).2.1
      exact List.nodup_append.mpr ⟨s1.nodup m.2.1, nu, fun a ha b hb z => m.2.2 b (uin b hb) a (s1.subset ha) z.symm⟩
    · have e : G = G.take (N + n) ++ G.drop (N + n) := (List.take_append_drop (N + n) G).symm
      rw [e, addrsAll_append] at nod
      have m := List.nodup_append.mp nod
      have e2 : (G.drop N).take n = (G.take (N + n)).drop N := by rw [List.drop_take]; congr 1; omega
      have s1 : (addrsAll ((G.drop N).take n)).Sublist (addrsAll (G.take (N + n))) := by rw [e2]; exact sub_drop N _
      have hd : (G.drop (N + n))[i - (N + n)]? = some u := by rw [List.getElem?_drop]; rw [show N + n + (i - (N + n)) = i by omega]; exact hu
      obtain ⟨A1, A2, e1, _⟩ := at_list (cl := ⟨fun _ => 0, []⟩) _ _ u hd
      have nu : u.addrs.Nodup := by
        have := m.2.1
        rw [e1] at this
        exact (List.nodup_append.mp (List.nodup_append.mp this).1).2.1
      exact List.nodup_append.mpr ⟨s1.nodup m.1, nu, fun a ha b hb z => m.2.2 a (s1.subset ha) b (by rw [e1]; simp [hb]) z⟩
  refine r.rl.re (a1.at_.append (.cons h2 .nil)) (by rw [addrsAll_append]; simpa [addrsAll] using apart) fun q hq => ?_
  rw [addrsAll_append] at hq
  rcases List.mem_append.mp hq with h | h
  · exact ((sub_take n (G.drop N)).trans (sub_drop N G)).subset h
  · simp only [addrsAll, List.append_nil] at h
    obtain ⟨A1, A2, e1, _⟩ := at_list (cl := ⟨fun _ => 0, []⟩) G i u hu
    rw [e1]; simp [h]
theorem def_ok {x qual : Str} {st : Stmt} {f : Addr} {fd : FuncData} {N ps : List Str} {k : Nat} {bf : Rh → Option Oc} (F : Fun K x qual st f fd) (S : FnScope N ps (defScope st)) (hN : ps.length ≤ N.length)
    (hbody : ∀ (cdv : Value) (A : Around) (outer : List Env) (s : Shared) (H : Hp) (E : XK), fd.code = cdv → Room k (A.deeper (envOfC qual (defScope st) s.heap.objs.size f cdv)) →
      ∃ t, PSs (cxOf (L2N.CX P w) P w K mg base N qual (defScope st) f cdv A outer s H E) (defBody st) t ∧ Sx K cl (fun c d _ H => E c d H) t bf) :
    FnOk P w K mg base (L2N.CX P w) (k + 1) f fd ps (PSf K cl (runF ps.length N.length bf)) := by
  refine Fun.okG F S (fun vs H Q E h => ?_) (fun cdv A outer s H vs Q E hcode hr h => ?_)
  · obtain ⟨B, F', G, us, ss, _, hl, _, hp⟩ := h
    rw [hl]
    unfold runF at hp
    split at hp
    · rename_i z; exact z
    · exact hp.elim
  · obtain ⟨t, ht, hx⟩ := hbody cdv A outer s H E hcode hr
    refine ⟨t, ht, ?_⟩
    obtain ⟨B, F', G, us, ss, rl, hl, ha, hp⟩ := h
    unfold runF at hp
    split at hp
    · rename_i hss
      have hus : us.length = G.length := rl.at_.length
      have hst : (L2.start N vs).length = N.length := by
        simp [L2.start]; omega
      have r0 : Rg K cl B F' H us (L2.start N vs) [] ⟨ss.map (fun s => some (shiftS N.length s)) ++ List.replicate (N.length - ps.length) none, [], List.replicate N.length (.un ()) ++ G.map TL.er, N.length + (G.map TL.er).length⟩ (List.replicate N.length (TL.un V.non) ++ G) (List.replicate N.length V.non ++ us) := by
        refine ⟨by simp [TL.er], ⟨rl.exB, rl.exF, rl.out, (ltall_un N.length).append rl.at_, by rw [addrs_un]; exact rl.nod, fun q hq => rl.off q (by rw [addrs_un] at hq; exact hq), rl.tb⟩, by simp [hst, hus], by simp, ?_, ⟨by simp [L2.start]; omega, fun i s h => ?_⟩, ⟨rfl, fun i s h => by simp at h⟩⟩
        · rw [hst, List.drop_left' (by simp)]; simp
        · have hi : i < ss.length := by
            refine Classical.byContradiction fun z => ?_
            rw [List.getElem?_append_right (by simp; omega)] at h
            rw [List.getElem?_replicate] at h
            split at h <;> cases h
          rw [List.getElem?_append_left (by simpa using hi), List.getElem?_map] at h
          rw [List.getElem?_eq_getElem hi] at h
          simp only [Option.map_some, Option.some.injEq] at h
          obtain ⟨v, h1, h2⟩ := ha i _ (List.getElem?_eq_getElem hi)
          refine ⟨v, ?_, ?_⟩
          · show (vs.map some ++ _)[i]? = _
            have hiv : i < vs.length := (List.getElem?_eq_some_iff.mp h1).1
            rw [List.getElem?_append_left (by simpa using hiv), List.getElem?_map, h1]; rfl
          · cases es : ss[i] with
            | py d => rw [es] at h h2; subst h; exact h2
            | «at» u => rw [es] at h h2; subst h; exact h2
            | pt π =>
              rw [es] at h h2
              cases π with
              | nil => subst h; simp [SvAt, pv, gget] at h2
              | cons j π =>
                subst h
                show pv _ ((N.length + j) :: π) = some v
                have h2 : pv G (j :: π) = some v := h2
                unfold pv at h2 ⊢
                simp only [gget] at h2 ⊢
                rw [List.getElem?_append_right (by simp)]
                simpa using h2
      refine hx B F' H us _ [] _ _ _ _ r0 ?_
      have hgl : (G.map TL.er).length = us.length := by simp [hus]
      split at hp
      · rename_i ρ e; rw [e]
        intro B' H' σ' G' us' kp r'
        split at hp
        · rename_i hb
          obtain ⟨a1, a2⟩ := lent_back r' hb hgl.symm
          exact hp .non B' H' _ us kp a1 a2 ⟨rfl, .non⟩
        · exact hp.elim
      · rename_i d ρ e; rw [e]
        intro v B' H' σ' G' us' kp r' hv
        split at hp
        · rename_i hb
          obtain ⟨a1, a2⟩ := lent_back r' hb hgl.symm
          exact hp v B' H' _ us kp a1 a2 ⟨rfl, hv⟩
        · exact hp.elim
      · rename_i i ρ e; rw [e]
        intro v B' H' σ' G' us' kp r' hv
        have hv : pv G' [i] = some v := hv
        split at hp
        · rename_i hb
          split at hp
          · rename_i a h cs eg
            obtain ⟨a1, a2⟩ := lent_back r' hb.1 hgl.symm
            unfold pv at hv
            simp only [gget] at hv
            cases eu : G'[i]? with
            | none => rw [eu] at hv; cases hv
            | some u =>
              rw [eu] at hv
              obtain ⟨v', h1, h2⟩ := r'.rl.at_.get eu
              have ev : v' = v := by
                cases u with
                | un => cases hv
                | py => cases hv
                | nd q hd c => cases h2; simp only [TL.get, Option.bind, lref] at hv; cases hv; rfl
              subst ev
              have rl2 := lent_more r' hb.1 hgl.symm (.inl hb.2) eu h1
              refine hp v' B' H' _ (us ++ [v']) kp rl2 ?_ rfl
              rw [List.map_append, a2]
              have : u.er = .nd a h cs := by
                have := r'.er
                rw [← this, List.getElem?_map, eu] at eg
                simpa using eg
              simp [this]
          · exact hp.elim
        · exact hp.elim
      · rename_i ρ e; rw [e]
        intro v B' H' σ' G' us' kp r' hv
        split at hp
        · rename_i t' et
          split at hp
          · rename_i hb
            obtain ⟨a1, a2⟩ := lent_back r' hb.1 hgl.symm
            obtain ⟨G0, u, us0, rfl, rfl, eu, hl0⟩ := r'.lastRoot hv et
            have hgl2 : ρ.g.length = G0.length + 1 := by rw [r'.gl]; simp
            have rl2 := lent_more (i := G0.length) (u := u) (v := v) r' hb.1 hgl.symm (.inr (by have := hb.1; have := hb.2; omega)) (by simp) (by rw [← hl0]; simp)
            refine hp v B' H' _ (us ++ [v]) kp rl2 ?_ rfl
            rw [List.map_append, a2]
            simp [eu]
          · exact hp.elim
        · exact hp.elim
      · rename_i C ρ e; rw [e]
        intro B' H' σ' G' us' kp r'
        split at hp
        · rename_i hb
          obtain ⟨a1, a2⟩ := lent_back r' hb hgl.symm
          exact hp B' H' _ kp a1 a2
        · exact hp.elim
      · exact hp.elim
    · exact hp.elim
end
end Fx

/-! Calls that change nothing; comprehensions. -/
namespace Fx
open PySem L2
open Evl (Ex)
variable {cl : Kl}
def minus (H : Hp) (D : Addr) : Hp := fun q => if q = D then none else H q
theorem minus_same {H : Hp} {D : Addr} : minus H D D = none := if_pos rfl
theorem minus_ne {H : Hp} {D q : Addr} (h : q ≠ D) : minus H D q = H q := if_neg h
theorem minus_upd {H : Hp} {D : Addr} {o : HO} (h : H D = some o) : upd (minus H D) D o = H := by
  funext q
  by_cases z : q = D
  · subst z; rw [upd_same, h]
  · rw [upd_ne z, minus_ne z]
theorem upd_minus {H : Hp} {D : Addr} {o u : HO} : upd (minus (upd H D o) D) D u = upd H D u := by
  funext q
  by_cases z : q = D
  · subst z; rw [upd_same, upd_same]
  · rw [upd_ne z, upd_ne z, minus_ne z, upd_ne z]
theorem Gw.minus {B H B' H' : Hp} {D : Addr} (g : Gw B H B' H') (h : H D = none) (hb : B' D = none) : Gw B H B' (Fx.minus H' D) := ⟨g.b, fun q o e => by
    have z : q ≠ D := fun z => by subst z; rw [h] at e; cases e
    rw [minus_ne z]; exact g.h q o e, fun q o e => by
    have z : q ≠ D := fun z => by subst z; rw [hb] at e; cases e
    rw [minus_ne z]; exact g.exB q o e, g.new, fun q o e1 e2 => by
    have z : q ≠ D := fun z => by subst z; rw [minus_same] at e1; cases e1
    rw [minus_ne z] at e1; exact g.out q o e1 e2⟩
theorem Node.keep' {K : PySem.W.Frag} {B H B' : Hp} {p : Addr} {vs : List V} (hb : B' p = none) : ∀ {h : Hd}, h.own = true → Node K cl B H p h vs → Node K cl B' H p h vs
  | .lst, _, ⟨a, b⟩ => ⟨hb, b⟩
  | .dct ks, _, ⟨a, l, n, b⟩ => ⟨hb, l, n, b⟩
  | .ddt ks, _, ⟨a, l, n, b⟩ => ⟨hb, l, n, b⟩
  | .lok ks, _, ⟨a, l, n, b⟩ => ⟨hb, l, n, b⟩
  | .ins C fs, _, ⟨a, l, b⟩ => ⟨hb, l, b⟩
  | .tup, z, _ => by cases z
section
variable {K : PySem.W.Frag} {W : WX} {te ta tb tk tv to : TE} {tr : TA} {af : Rh → Option (List PyData)} {sem : Sem} {E : St → XK} {f g : Rh → Option Sv} {bf : Rh → Option Bool} {tt : TT} {wi : TI} {gt : TG}
/-! ### calls of defs over data -/
def dCall (sem : Sem) (af : Rh → Option (List PyData)) (ρ : Rh) : Option PyData := match af ρ with
  | some ds => match sem (ds.map Sv.py) [] with
    | some (.vl (.s (.py d)) []) => some d
    | _ => none
  | none => none
def nCall (sem : Sem) (af : Rh → Option (List PyData)) (ρ : Rh) : Option (Hd × List PyData) := match af ρ with
  | some ds => match sem (ds.map Sv.py) [] with
    | some (.vl .own [.nd _ h cs]) => match pyAll cs with
      | some es => if noLists es && h.own then some (h, es) else none
      | none => none
    | _ => none
  | none => none
/-- what is new behind a call that was shown all that stood -/
noncomputable def joinB (B H B2 : Hp) : Hp := fun q => if (H q).isNone then B2 q else B q
theorem joinB_new {B H B2 : Hp} {q : Addr} (h : H q = none) : joinB B H B2 q = B2 q := by unfold joinB; rw [h]; rfl
theorem joinB_old {B H B2 : Hp} {q : Addr} (h : H q ≠ none) : joinB B H B2 q = B q := by
  unfold joinB
  rw [if_neg]
  cases z : H q with
  | none => exact absurd z h
  | some => simp
theorem join_gw {cl2 : Kl} {B F H B2 H2 : Hp} {G G2 : List LT} {us us2 : List V} (r : Rl K cl B F H G us) (k : Kp H H B2) (r2 : Rl K cl2 B2 H H2 G2 us2) : Gw B H (joinB B H B2) H2 := by
  have eH : Ex H H2 := k.b.trans r2.exB
  refine ⟨fun q o e => ?_, eH, fun q o e => ?_, fun q h1 h2 => by rw [joinB_old h1]; exact h2, fun q o h1 h2 => ?_⟩
  · rw [joinB_old (by rw [r.exB q o e]; simp)]; exact e
  · cases z : H q with
    | none => rw [joinB_new z] at e; exact r2.exB q o e
    | some u => rw [joinB_old (by rw [z]; simp)] at e; exact eH q o (r.exB q o e)
  · cases z : H q with
    | none => rw [joinB_new z] at h2; exact .inr (r2.out q o h1 h2)
    | some u => rw [eH q u z] at h1; cases h1; exact .inl rfl
theorem map_get {ds : List PyData} {vs : List V} {H : Hp} {G : List LT} (a : DpAll K H vs ds) : vs.length = (ds.map Sv.py).length ∧ ∀ (i : Nat) (s : Sv), (ds.map Sv.py)[i]? = some s → ∃ v, vs[i]? = some v ∧ SvAt K H G v s := by
  refine ⟨by rw [List.length_map]; exact DpAll.length a, fun i s h => ?_⟩
  rw [List.getElem?_map] at h
  cases e : ds[i]? with
  | none => rw [e] at h; cases h
  | some d =>
    rw [e] at h
    cases h
    obtain ⟨v, h1, h2⟩ := DpAll.get a e
    exact ⟨v, h1, h2⟩
theorem dv_call (ha : Da K cl tr af) : Dv K cl (tCallSD (PSf K cl.z sem) [] E tr) (dCall sem af) := fun B F H ul σ tv ρ G us d r e Q q => by
  unfold dCall at e
  split at e
  · rename_i ds h1
    refine ha B F H ul σ tv ρ G us ds r h1 _ fun vs B1 H1 w hv => ?_
    rw [List.append_nil]
    split at e
    · rename_i d' es
      cases e
      obtain ⟨m1, m2⟩ := map_get (G := []) hv
      refine ⟨H1, H1, [], [], ds.map Sv.py, ⟨Evl.Ex.refl _, Evl.Ex.refl _, (fun q o e1 e2 => by rw [e1] at e2; cases e2), .nil, List.nodup_nil, fun q h => by simp [addrsAll] at h, fun p h => absurd h List.not_mem_nil⟩, m1, m2, ?_⟩
      rw [show ([] : List LT).map TL.er = [] from rfl, es]
      rintro v B2 H2 G2 us2 k r2 em ⟨hu, hd⟩
      exact q v _ H2 (w.trans (join_gw (r.grow w).rl k r2)) (r2.up hd)
    · cases e
  · cases e
theorem nv_call (ha : Da K cl tr af) : Nv K cl (tCallSD (PSf K cl.z sem) [] E tr) (nCall sem af) := fun B F H ul σ tv ρ G us hd ds0 r e Q q => by
  unfold nCall at e
  split at e
  · rename_i ds h1
    refine ha B F H ul σ tv ρ G us ds r h1 _ fun vs B1 H1 w hv => ?_
    rw [List.append_nil]
    split at e
    · rename_i a h cs es
      split at e
      · rename_i es' ee
        split at e
        · rename_i hc
          simp only [Bool.and_eq_true] at hc
          cases e
          obtain ⟨m1, m2⟩ := map_get (G := []) hv
          refine ⟨H1, H1, [], [], ds.map Sv.py, ⟨Evl.Ex.refl _, Evl.Ex.refl _, (fun q o e1 e2 => by rw [e1] at e2; cases e2), .nil, List.nodup_nil, fun q h => by simp [addrsAll] at h, fun p h => absurd h List.not_mem_nil⟩, m1, m2, ?_⟩
          rw [show ([] : List LT).map TL.er = [] from rfl, es]
          intro v B2 H2 G2 us2 k r2 em hu
          have hu : us2 = [] ++ [v] := hu
          subst hu
          have r1 := r.grow w
          have gw := join_gw r1.rl k r2
          cases G2 with
          | nil => cases em
          | cons u G3 =>
            simp only [List.map_cons, List.cons.injEq] at em
            obtain ⟨eu, em⟩ := em
            have : G3 = [] := by simpa using em
            subst this
            cases u with
            | un => cases eu
            | py => cases eu
            | nd p hd' cs' =>
              simp only [TL.er, TL.nd.injEq] at eu
              obtain ⟨_, rfl, rfl⟩ := eu
              have := pyAll_of ee
              subst this
              have hat := r2.at_
              cases hat with
              | cons x1 x2 =>
                cases x1 with
                | nd hn hcs =>
                  rename_i zs
                  have hpf : H1 p = none := r2.off p (by simp [addrsAll, TL.addrs, hc.2])
                  obtain ⟨hb2, o, ho, own⟩ := hn.own hc.2
                  have hj : joinB B1 H1 B2 p = none := by rw [joinB_new hpf]; exact hb2
                  have gm := gw.minus hpf hj
                  have kt : KeepT K B2 (joinB B1 H1 B2) := fun a xs h => by
                    have step : ∀ o, B2 a = some o → (∀ ys, o = .tup ys → True) → (SqT K B2 a xs → SqT K (joinB B1 H1 B2) a xs) := by
                      intro o e1 _ h
                      cases z : H1 a with
                      | none =>
                        rcases h with (h | ⟨ob, h⟩) | h
                        · exact .inl (.inl (by rw [joinB_new z]; exact h))
                        · exact .inl (.inr ⟨ob, by rw [joinB_new z]; exact h⟩)
                        · exact .inr h
                      | some u =>
                        have e2 := k.b a u z
                        have : SqT K H1 a xs := by
                          rcases h with (h | ⟨ob, h⟩) | h
                          · rw [e2] at h; exact .inl (.inl (by rw [z]; exact h))
                          · rw [e2] at h; exact .inl (.inr ⟨ob, by rw [z]; exact h⟩)
                          · exact .inr h
                        rcases r1.rl.keepT a xs this with (h | ⟨ob, h⟩) | h
                        · exact .inl (.inl (by rw [joinB_old (by rw [z]; simp)]; exact h))
                        · exact .inl (.inr ⟨ob, by rw [joinB_old (by rw [z]; simp)]; exact h⟩)
                        · exact .inr h
                    rcases h with (h | ⟨ob, h⟩) | h
                    · exact step _ h (fun _ _ => trivial) (.inl (.inl h))
                    · exact step _ h (fun _ _ => trivial) (.inl (.inr ⟨ob, h⟩))
                    · exact .inr h
                  have := q p zs (joinB B1 H1 B2) (minus H2 p) o (w.trans gm) minus_same hc.2 own (by rw [minus_upd ho]; exact Node.keep' hj hc.2 hn) (DpAll.keepT kt _ _ hc.1 hcs.py)
                  rw [minus_upd ho] at this
                  exact this
        · cases e
      · cases e
    · cases e
  · cases e
/-! ### what is walked -/
/-- the data ds, one after the other, while what stood in H1 stands -/
def IsIt (K : PySem.W.Frag) (J : It) (B1 H1 : Hp) (ds : List PyData) : Prop := ∀ B' H', Ex B1 B' → Ex H1 H' → Ex B' H' → (∀ q o, H' q = some o → B' q = none → OwnX o) →
  (∀ (i : Nat) (d : PyData), ds[i]? = some d → J.go i H' ∧ ∀ x H2, J.yld i H' x H2 → ∃ B2, Gw B' H' B2 H2 ∧ Dp K B2 x d) ∧ J.stop ds.length H'
/-- the same, while what stood in B1 stands -/
def IsItS (K : PySem.W.Frag) (J : It) (B1 : Hp) (ds : List PyData) : Prop := ∀ B' H', Ex B1 B' → Ex B' H' → (∀ q o, H' q = some o → B' q = none → OwnX o) →
  (∀ (i : Nat) (d : PyData), ds[i]? = some d → J.go i H' ∧ ∀ x H2, J.yld i H' x H2 → ∃ B2, Gw B' H' B2 H2 ∧ Dp K B2 x d) ∧ J.stop ds.length H'
def Iv (K : PySem.W.Frag) (cl : Kl) (wi : TI) (f : Rh → Option (List PyData)) : Prop := ∀ (B F H : Hp) (ul : List V) (σ : St) (tv : List V) (ρ : Rh) (G : List LT) (us : List V) (ds : List PyData), Rg K cl B F H ul σ tv ρ G us → f ρ = some ds →
  ∀ R : It → Hp → Prop, (∀ J B1 H1, Gw B H B1 H1 → IsIt K J B1 H1 ds → R J H1) → wi σ H R
def IvS (K : PySem.W.Frag) (cl : Kl) (wi : TI) (f : Rh → Option (List PyData)) : Prop := ∀ (B F H : Hp) (ul : List V) (σ : St) (tv : List V) (ρ : Rh) (G : List LT) (us : List V) (ds : List PyData), Rg K cl B F H ul σ tv ρ G us → f ρ = some ds →
  ∀ R : It → Hp → Prop, (∀ J B1 H1, Gw B H B1 H1 → IsItS K J B1 ds → R J H1) → wi σ H R
theorem Iv.of {f : Rh → Option (List PyData)} (h : IvS K cl wi f) : Iv K cl wi f := fun B F H ul σ tv ρ G us ds r e R q => h B F H ul σ tv ρ G us ds r e R fun J B1 H1 w k => q J B1 H1 w fun B' H' a b c d => k B' H' a c d
def iL (f : Rh → Option PyData) (ρ : Rh) : Option (List PyData) := match f ρ with
  | some (.list ds) => some ds
  | _ => none
def iLn (f : Rh → Option PyData) (ρ : Rh) : Option (List PyData) := match f ρ with
  | some (.list ds) => if noLists ds then some ds else none
  | _ => none
def iT (f : Rh → Option PyData) (ρ : Rh) : Option (List PyData) := match f ρ with
  | some (.tuple ds) => some ds
  | _ => none
def iR (f : Rh → Option (List PyData)) (ρ : Rh) : Option (List PyData) := match f ρ with
  | some as => rngF as
  | none => none
theorem iv_l (h : Pv K cl te f) : IvS K cl (iList K te) (iL (vPy f)) := fun B F H ul σ tv ρ G us ds r e R q => by
  unfold iL vPy at e
  split at e
  · rename_i ds' e1
    cases e
    split at e1
    · rename_i d e2
      cases e1
      refine h B F H ul σ tv ρ G us _ r e2 _ fun v B1 H1 w hv => ?_
      have hv : Dp K B1 v (.list ds) := hv
      cases hv with
      | @lst a xs _ s1 a1 =>
        refine ⟨_, rfl, ⟨_, Evl.ex_l (r.grow w).rl.exB s1⟩, q _ B1 H1 w fun B' H' e1 e3 e4 => ⟨fun i d hd => ?_, ?_⟩⟩
        · obtain ⟨x, h1, h2⟩ := DpAll.get a1 hd
          have sq := Evl.ex_l (e1.trans e3) s1
          exact ⟨⟨xs, x, sq, h1⟩, fun y H2 ⟨z1, z2⟩ => by
            subst z1
            have := z2 xs sq
            rw [h1] at this; cases this
            exact ⟨B', Gw.refl e3, Dp.mono e1 _ _ h2⟩⟩
        · exact ⟨xs, Evl.ex_l (e1.trans e3) s1, by rw [DpAll.length a1]; exact Nat.le_refl _⟩
    · cases e1
  · cases e
theorem own_ne {o : HO} (h : OwnX o) : (∀ ys, o ≠ .tup ys) ∧ ∀ ob ys, o ≠ .frz ob (.tup ys) := by
  refine ⟨fun ys z => ?_, fun ob ys z => ?_⟩ <;> subst z <;> rcases h with (⟨_, z⟩ | ⟨_, z⟩ | ⟨_, z⟩ | ⟨_, _, _, z⟩ | ⟨_, _, z⟩) | ⟨_, z⟩ | ⟨_, z⟩ <;> cases z
theorem keepT_out {B H : Hp} (e : Ex B H) (o : ∀ q o, H q = some o → B q = none → OwnX o) : KeepT K H B := fun a xs h => by
  rcases h with (h | ⟨ob, h⟩) | h
  · refine .inl (.inl ?_)
    cases z : B a with
    | none => exact absurd rfl ((own_ne (o a _ h z)).1 xs)
    | some u => rw [e a u z] at h; exact h
  · refine .inl (.inr ⟨ob, ?_⟩)
    cases z : B a with
    | none => exact absurd rfl ((own_ne (o a _ h z)).2 ob xs)
    | some u => rw [e a u z] at h; exact h
  · exact .inr h
theorem iv_ln {df : Rh → Option PyData} (h : Dv K cl te df) : Iv K cl (iList K te) (iLn df) := fun B F H ul σ tv ρ G us ds r e R q => by
  unfold iLn at e
  split at e
  · rename_i ds' e1
    split at e
    · rename_i hn
      cases e
      refine h B F H ul σ tv ρ G us _ r e1 _ fun v B1 H1 w hv => ?_
      cases hv with
      | @lst a xs _ s1 a1 =>
        refine ⟨_, rfl, ⟨_, s1⟩, q _ B1 H1 w fun B' H' e1 e2 e3 e4 => ⟨fun i d hd => ?_, ?_⟩⟩
        · obtain ⟨x, h1, h2⟩ := DpAll.get a1 hd
          have sq := Evl.ex_l e2 s1
          exact ⟨⟨xs, x, sq, h1⟩, fun y H2 ⟨z1, z2⟩ => by
            subst z1
            have := z2 xs sq
            rw [h1] at this; cases this
            exact ⟨B', Gw.refl e3, Dp.keepT (keepT_out e3 e4) _ _ (noLists_mem hn (List.mem_of_getElem? hd)) (Dp.mono e2 _ _ h2)⟩⟩
        · exact ⟨xs, Evl.ex_l e2 s1, by rw [DpAll.length a1]; exact Nat.le_refl _⟩
    · cases e
  · cases e
theorem iv_t (h : Pv K cl te f) : IvS K cl (iTup K te) (iT (vPy f)) := fun B F H ul σ tv ρ G us ds r e R q => by
  unfold iT vPy at e
  split at e
  · rename_i ds' e1
    cases e
    split at e1
    · rename_i d e2
      cases e1
      refine h B F H ul σ tv ρ G us _ r e2 _ fun v B1 H1 w hv => ?_
      have hv : Dp K B1 v (.tuple ds) := hv
      cases hv with
      | @tup a xs _ s1 a1 =>
        refine ⟨_, rfl, ⟨_, Evl.ex_t (r.grow w).rl.exB s1⟩, q _ B1 H1 w fun B' H' e1 e3 e4 => ⟨fun i d hd => ?_, ?_⟩⟩
        · obtain ⟨x, h1, h2⟩ := DpAll.get a1 hd
          have sq := Evl.ex_t (e1.trans e3) s1
          exact ⟨⟨xs, x, sq, h1⟩, fun y H2 ⟨z1, z2⟩ => by
            subst z1
            have := z2 xs sq
            rw [h1] at this; cases this
            exact ⟨B', Gw.refl e3, Dp.mono e1 _ _ h2⟩⟩
        · exact ⟨xs, Evl.ex_t (e1.trans e3) s1, by rw [DpAll.length a1]; exact Nat.le_refl _⟩
    · cases e1
  · cases e
theorem iv_r (h : Da K cl tr af) : IvS K cl (iRng1 tr) (iR af) := fun B F H ul σ tv ρ G us ds r e R q => by
  unfold iR at e
  split at e
  · rename_i as e1
    unfold rngF at e
    split at e
    · rename_i n
      split at e
      · rename_i hn
        cases e
        refine h B F H ul σ tv ρ G us _ r e1 _ fun vs B1 H1 w hv => ?_
        cases hv with
        | cons a b =>
          cases a
          cases b
          refine ⟨n, rfl, hn.1, hn.2, q _ B1 H1 w fun B' H' e1 e3 e4 => ⟨fun i d hd => ?_, ?_⟩⟩
          · rw [List.getElem?_map] at hd
            cases hr : (List.range n.toNat)[i]? with
            | none => rw [hr] at hd; cases hd
            | some k =>
              rw [hr] at hd
              have hi : i < n.toNat := by have := (List.getElem?_eq_some_iff.mp hr).1; simpa using this
              have hk : k = i := by
                rw [List.getElem?_range hi] at hr; cases hr; rfl
              subst hk
              cases hd
              exact ⟨hi, fun x H2 ⟨z1, z2⟩ => by subst z1 z2; rw [Int.zero_add]; exact ⟨B', Gw.refl e3, .int _⟩⟩
          · show n.toNat ≤ _
            simp
      · cases e
    · cases e
  · cases e
/-! ### comprehensions whose parts change nothing -/
def wipeR (ρ : Rh) (vs : List Nat) : Rh := { ρ with sl := vs.foldr (fun i s => s.set i none) ρ.sl }
/-- a target of a comprehension with the names vs -/
def Tw (K : PySem.W.Frag) (cl : Kl) (g : TG) (vs : List Nat) (f : Sv → Rh → Option Rh) : Prop := ∀ (B F H : Hp) (ul : List V) (σ : St) (tv : List V) (ρ ρ' : Rh) (G : List LT) (us : List V) (v : V) (s : Sv), Rg K cl B F H ul (L2.wipe σ vs) tv ρ G us → SvAt K B G v s → f s ρ = some ρ' →
  ∀ Q : St → Hp → Prop, (∀ σ', L2.wipe σ' vs = L2.wipe σ vs → Rg K cl B F H ul σ' tv ρ' G us → Q σ' H) → g v (L2.wipe σ vs) H Q
theorem Rg.wipe {B F H : Hp} {ul tv us : List V} {σ : St} {ρ : Rh} {G : List LT} (r : Rg K cl B F H ul σ tv ρ G us) : ∀ vs : List Nat, Rg K cl B F H ul (L2.wipe σ vs) tv (wipeR ρ vs) G us
  | [] => r
  | v :: vs => by
    have h := Rg.wipe r vs
    exact ⟨h.er, h.rl, by show ((L2.wipe σ vs).set v none).length + _ = _; rw [List.length_set]; exact h.bs, h.le, by show (us.drop ((L2.wipe σ vs).set v none).length).take _ = _; rw [List.length_set]; exact h.ul, h.sl.forget, h.tm⟩
theorem wipe_one {σ : St} {j : Nat} {x : V} : L2.wipe ((L2.wipe σ [j]).set j (some x)) [j] = L2.wipe σ [j] := by
  show (((σ.set j none).set j (some x)).set j none) = σ.set j none
  rw [List.set_set, List.set_set]
theorem tw_n (j : Nat) : Tw K cl (gName j) [j] (gN j) := fun B F H ul σ tv ρ ρ' G us v s r hv e Q q => by
  cases e
  exact q _ wipe_one (r.set j hv)
theorem set_comm_none {l : List (Option V)} {i j : Nat} {a b : Option V} (h : i ≠ j) : (l.set i a).set j b = (l.set j b).set i a := List.set_comm _ _ h
theorem wipe_two {σ : St} {i j : Nat} (h : i ≠ j) {x y : V} : L2.wipe (((L2.wipe σ [i, j]).set i (some x)).set j (some y)) [i, j] = L2.wipe σ [i, j] := by
  show ((((((σ.set j none).set i none).set i (some x)).set j (some y)).set j none).set i none) = (σ.set j none).set i none
  rw [List.set_set, List.set_set, List.set_comm _ _ h, List.set_set, List.set_set]
/-- a, b -/
theorem tw_2 {i j : Nat} (h : i ≠ j) : Tw K cl (gTup K 2 (gCons (gName i) (gCons (gName j) gNil))) [i, j] (gTu 2 (gTC (gN i) (gTC (gN j) gT0))) := fun B F H ul σ tv ρ ρ' G us v s r hv e Q q => by
  unfold gTu at e
  split at e
  · rename_i ds
    split at e
    · rename_i hn
      have hv : Dp K B v (.tuple ds) := hv
      match ds, hn with
      | [d1, d2], _ =>
        simp only [gTC, gN, gT0, Option.some.injEq] at e
        subst e
        cases hv with
        | tup s1 a1 =>
          cases a1 with
          | cons x1 a1 =>
            cases a1 with
            | cons x2 a1 =>
              cases a1
              refine ⟨_, _, rfl, Evl.ex_t r.rl.exB s1, rfl, _, _, rfl, _, _, rfl, rfl, ?_⟩
              have r1 := r.set (s := .py d1) i x1
              have r2 := r1.set (s := .py d2) j x2
              exact q _ (wipe_two h) r2
    · cases e
  · cases e
def collect (tg : Sv → Rh → Option Rh) (c : Rh → Option Bool) (e : Rh → Option Sv) (ρ : Rh) : List PyData → Option (List PyData)
  | [] => some []
  | d :: ds => match tg (.py d) ρ with
    | some ρ1 => match c ρ1 with
      | some true => match e ρ1 with
        | some (.py x) => match collect tg c e ρ ds with
          | some xs => some (x :: xs)
          | none => none
        | _ => none
      | some false => collect tg c e ρ ds
      | none => none
    | none => none
def bYes (_ : Rh) : Option Bool := some true
theorem pt_yes : Pt K cl tYes bYes := fun B F H ul σ tv ρ G us b r e Q q => by cases e; exact q B H (Gw.refl r.rl.exB)
def nLc (vs : List Nat) (it : Rh → Option (List PyData)) (tg : Sv → Rh → Option Rh) (c : Rh → Option Bool) (e : Rh → Option Sv) (ρ : Rh) : Option (Hd × List PyData) := match it ρ with
  | some ds => if ds.length ≤ 100000 then match collect tg c e (wipeR ρ vs) ds with
      | some xs => some (.lst, xs)
      | none => none
    else none
  | none => none
theorem collect_take {tg : Sv → Rh → Option Rh} {c : Rh → Option Bool} {e : Rh → Option Sv} {ρ : Rh} : ∀ {ds : List PyData} {xs : List PyData}, collect tg c e ρ ds = some xs → xs.length ≤ ds.length
  | [], xs, h => by simp only [collect, Option.some.injEq] at h; subst h; simp
  | d :: ds, xs, h => by
    simp only [collect] at h
    split at h
    · split at h
      · split at h
        · split at h
          · rename_i ys hy
            cases h
            have := collect_take hy
            simp; omega
          · cases h
        · cases h
      · have := collect_take h
        simp; omega
      · cases h
    · cases h
theorem nv_lc {vs : List Nat} {it : Rh → Option (List PyData)} {fg : Sv → Rh → Option Rh} (hi : Iv K cl wi it) (hg : Tw K cl gt vs fg) (hc : Pt K cl tt bf) (he : Pv K cl te f) : Nv K cl (tLc wi gt tt te vs) (nLc vs it fg bf f) := fun B F H ul σ tv ρ G us hd ds0 r e0 Q q => by
  unfold nLc at e0
  split at e0
  · rename_i ds e1
    split at e0
    · rename_i hlen
      split at e0
      · rename_i xs0 e2
        cases e0
        refine hi B F H ul σ tv ρ G us ds r e1 _ fun J B1 H1 w hJ => ?_
        intro D hD
        have r1 := r.grow w
        -- what holds between the turns
        refine ⟨fun i m H' => ∃ B' H0 as xs done, m = ds.length - i ∧ i ≤ ds.length ∧ Gw B1 H1 B' H0 ∧ H0 D = none ∧ H' = upd H0 D (.lst xs) ∧ DpAll K B' xs done ∧ done.length ≤ i ∧ collect fg bf f (wipeR ρ vs) (ds.drop i) = some as ∧ ds0 = done ++ as,
          ⟨_, B1, H1, ds0, [], [], rfl, Nat.zero_le _, Gw.refl r1.rl.exB, hD, rfl, .nil, Nat.le_refl _, by simpa using e2, rfl⟩, ?_⟩
        rintro i m H' ⟨B', H0, as, xs, done, rfl, hi, g0, h0, rfl, a0, hdl, ec, ed⟩
        have ow : OwnO (.lst xs) := .inl ⟨_, rfl⟩
        have g1 : Gw B' H0 B' (upd H0 D (.lst xs)) := Gw.ow g0.exB h0 ow
        have r2 := (r1.grow g0).grow g1
        have hJ' := hJ B' (upd H0 D (.lst xs)) g0.b (g0.h.trans g1.h) r2.rl.exB r2.rl.out
        by_cases hlt : i < ds.length
        · rw [List.drop_eq_getElem_cons hlt] at ec
          obtain ⟨go, yl⟩ := hJ'.1 i _ (List.getElem?_eq_getElem hlt)
          refine .inr ⟨go, fun H' => ∃ B' H0 as xs done, Gw B1 H1 B' H0 ∧ H0 D = none ∧ H' = upd H0 D (.lst xs) ∧ DpAll K B' xs done ∧ done.length ≤ i + 1 ∧ collect fg bf f (wipeR ρ vs) (ds.drop (i + 1)) = some as ∧ ds0 = done ++ as,
            fun H' ⟨B', H0, as, xs, done, z1, z2, z3, z4, z5, z6, z7⟩ => ⟨ds.length - (i + 1), by omega, B', H0, as, xs, done, rfl, by omega, z1, z2, z3, z4, z5, z6, z7⟩, fun x H2 hy => ?_⟩
          obtain ⟨B2, w2, hx⟩ := yl x H2 hy
          have r3 := r2.grow w2
          simp only [collect] at ec
          split at ec
          · rename_i ρ1 et
            refine hg B2 F H2 ul σ tv _ ρ1 G us x (.py ds[i]) (r3.wipe vs) hx et _ fun σ2 hw2 r4 => ⟨hw2, ?_⟩
            have hD2 : H2 D = some (.lst xs) := w2.h D _ upd_same
            have hB' : B' D = none := free_of g0.exB h0
            have fin : ∀ {B3 H3 : Hp}, Gw B2 H2 B3 H3 → H3 D = some (.lst xs) ∧ B3 D = none ∧ Gw B1 H1 B3 (minus H3 D) := fun {B3 H3} w3 => by
              have hB2 : B2 D = none := w2.new D (by rw [upd_same]; simp) hB'
              have hB3 : B3 D = none := w3.new D (by rw [hD2]; simp) hB2
              exact ⟨w3.h D _ hD2, hB3, ((g0.trans g1).trans (w2.trans w3)).minus hD hB3⟩
            split at ec
            · rename_i ebt
              refine hc B2 F H2 ul σ2 tv ρ1 G us true r4 ebt _ fun B3 H3 w3 => ?_
              rw [if_pos rfl]
              split at ec
              · rename_i y ey
                split at ec
                · rename_i ys eys
                  cases ec
                  refine he B3 F H3 ul σ2 tv ρ1 G us _ (r4.grow w3) ey _ fun v B4 H4 w4 hv => ?_
                  obtain ⟨f1, f2, f3⟩ := fin (w3.trans w4)
                  have hl := DpAll.length a0
                  refine ⟨xs, f1, Nat.lt_of_le_of_lt (m := 100000) (by omega) (by decide), B4, minus H4 D, ys, xs ++ [v], done ++ [y], f3, minus_same, ?_, ?_, by simp; omega, eys, by simp [ed]⟩
                  · have := minus_upd f1
                    conv => lhs; rw [← this]
                    funext q
                    by_cases z : q = D
                    · subst z; rw [upd_same, upd_same]
                    · rw [upd_ne z, upd_ne z, upd_ne z]
                  · exact DpAll.snoc_of (DpAll.mono ((w2.trans w3).trans w4).b _ _ a0) hv
                · cases ec
              · cases ec
            · rename_i ebf
              refine hc B2 F H2 ul σ2 tv ρ1 G us false r4 ebf _ fun B3 H3 w3 => ?_
              rw [if_neg (by simp)]
              obtain ⟨f1, f2, f3⟩ := fin w3
              exact ⟨B3, minus H3 D, as, xs, done, f3, minus_same, (minus_upd f1).symm, DpAll.mono (w2.trans w3).b _ _ a0, by omega, ec, ed⟩
            · cases ec
          · cases ec
        · have : i = ds.length := by omega
          subst this
          rw [List.drop_length] at ec
          simp only [collect, Option.some.injEq] at ec
          subst ec
          rw [List.append_nil] at ed
          subst ed
          exact .inl ⟨hJ'.2, q D xs B' H0 (.lst xs) (w.trans g0) h0 rfl ow ⟨free_of g0.exB h0, upd_same⟩ a0⟩
      · cases e0
    · cases e0
  · cases e0
end
end Fx

/-! Rules for calls whose errors hang on the slots; built-ins; raise, try. -/
namespace Fx
open PySem L2
open PySem.Spec PyProof.Rows
open Evl (Ex)
variable {cl : Kl}
section
variable {X : Cx} {CX : CXT} {k : Nat} {f C : Addr} {fd : FuncData} {ps : List Str} {sp : Sp} {dvs : List V} {ds : List Value} {E : L2.St → XK} {x m : Str} {p pos apos : Pos} {e o : Expr} {es : List Expr} {ta : TE} {t : TA}
theorem pe_call0SD (F : FnOk X.prog X.w X.K X.mg X.base CX k f fd ps sp) (hr : Room k X.A) (hg : Gl X x) (hm : X.mg x = some (.ref f)) (hk : PySem.W.keepIn X.K (.ref f) = true) (hb : Binds X.K fd ps ds) (hd : Vals dvs ds) (hx : ∀ σ, PassesAt CX X σ (E σ))
    (hdb : (x == ("__debug__" : Str)) = false := by decide) : PE X (.Call (.Name x p) [] [] pos) (tCallSD sp dvs E tNil) := by
  refine ⟨fun pins s σ H Q I h => ?_⟩
  refine wpAny_Call_Name_kw (ld_glob I hg hm ?_ hdb)
  exact PySem.W.callWith_K0 I.kIn hk (run_fnSD (us := []) F hr hb hd (hx σ) I .nil h)
theorem pe_methSD {pl : PySem.Sem Bool} (he : PE X o ta) (c : Cls X.K C) (hm : Meth X.K C m f) (F : FnOk X.prog X.w X.K X.mg X.base CX k f fd ps sp) (hr : Room k X.A) (hb : Binds X.K fd ps ds) (hd : Vals dvs ds) (hx : ∀ σ, PassesAt CX X σ (E σ)) (ha : PA X (e :: es) t)
    (hst : starEach (e :: es) X.env = (false, eval e X.env) :: starEach es X.env := by rfl) (hpl : (backTo pos (starEach es X.env)).any (·.1) = false := by rfl)
    (ht : eval (.Call (.Attribute o m apos) (e :: es) [] pos) X.env = (do
      let ov ← eval o X.env
      standAt apos.atName
      let (f, first) ← holding [ov] (getMethod ov m pl)
      callWith pos f first (backTo pos (starEach (e :: es) X.env)) (backToKw pos (keywordEach [] X.env))) := by rfl) :
    PE X (.Call (.Attribute o m apos) (e :: es) [] pos) (tMethSD C m sp dvs E ta t) := by
  refine ⟨fun pins s σ H Q I h => ?_⟩
  refine PySem.W.methodCall_KW (pl := pl) (thn (he.run pins s σ H _ I h) fun u s1 ⟨x, H1, I1, rx, a, dx, fs, ex, ea, l, q⟩ => ?_) ht
  subst ex
  obtain rfl : u = Value.ref a := rx
  refine getmeth_ok I1 ea c hm l ?_
  refine PySem.W.callWith_K (first := [.ref a]) (h₀ := X.base) I.ok.mod.kin hm.kp (thn (ha.run pos pins s1 σ H1 _ I1 q) fun us s2 ⟨vs, H2, I2, r, q2⟩ => ⟨I2.kIn, ?_⟩) hst hpl
  exact run_fnSD (us := .ref a :: us) (vs := .ref a :: vs) F hr hb hd (hx σ) I2 (.cons rfl r) q2
theorem pe_meth0SD {pl : PySem.Sem Bool} (he : PE X o ta) (c : Cls X.K C) (hm : Meth X.K C m f) (F : FnOk X.prog X.w X.K X.mg X.base CX k f fd ps sp) (hr : Room k X.A) (hb : Binds X.K fd ps ds) (hd : Vals dvs ds) (hx : ∀ σ, PassesAt CX X σ (E σ))
    (ht : eval (.Call (.Attribute o m apos) [] [] pos) X.env = (do
      let ov ← eval o X.env
      standAt apos.atName
      let (f, first) ← holding [ov] (getMethod ov m pl)
      callWith pos f first (backTo pos (starEach [] X.env)) (backToKw pos (keywordEach [] X.env))) := by rfl) :
    PE X (.Call (.Attribute o m apos) [] [] pos) (tMethSD C m sp dvs E ta tNil) := by
  refine ⟨fun pins s σ H Q I h => ?_⟩
  refine PySem.W.methodCall_KW (pl := pl) (thn (he.run pins s σ H _ I h) fun u s1 ⟨x, H1, I1, rx, a, dx, fs, ex, ea, l, q⟩ => ?_) ht
  subst ex
  obtain rfl : u = Value.ref a := rx
  refine getmeth_ok I1 ea c hm l ?_
  exact PySem.W.callWith_K0 (first := [.ref a]) I1.kIn hm.kp (run_fnSD (us := [.ref a]) (vs := [.ref a]) F hr hb hd (hx σ) I1 (.cons rfl .nil) q)
/-- C(..), what is raised wished for at the slots -/
def tMakeSD (C : Addr) (sp : Sp) (dvs : List V) (E : L2.St → XK) (t : TA) : TE := fun σ H Q => t σ H fun vs H1 => ∀ x dx, H1 x = none → H1 dx = none → dx ≠ x →
  sp (.ref x :: (vs ++ dvs)) (upd (upd H1 dx (.own x)) x (.ins C dx [])) (fun v H2 => v = .non ∧ Q (.ref x) H2) (E σ)
theorem run_makeSD {pins : List (Addr × Obj)} {σ : L2.St} {H : Hp} {s : Shared} {Q : VK} {us : List Value} {vs : List V} (M : Mk X.K C f) (F : FnOk X.prog X.w X.K X.mg X.base CX k f fd ps sp) (hr : Room (k + 1) X.A) (hb : Binds X.K fd ps ds) (hd : Vals dvs ds)
    (hx : PassesAt CX X σ (E σ)) (I : Inv X pins σ H s) (r : Vals vs us)
    (h : ∀ x dx, H x = none → H dx = none → dx ≠ x → sp (.ref x :: (vs ++ dvs)) (upd (upd H dx (.own x)) x (.ins C dx [])) (fun v H2 => v = .non ∧ Q (.ref x) H2) (E σ)) :
    wpAny (model X.prog X.w) X.A (call (.ref C) us) (EP X pins σ Q) X.xe s := by
  have hq := h (s.heap.objs.size + 1) s.heap.objs.size (I.hok.fresh (Nat.le_succ _)) (I.hok.fresh (Nat.le_refl _)) (Nat.ne_of_lt (Nat.lt_succ_self _))
  have I2 := Inv.made (C := C) I
  have r2 : Vals (V.ref (s.heap.objs.size + 1) :: (vs ++ dvs)) (Value.ref (s.heap.objs.size + 1) :: (us ++ ds)) := .cons rfl (r.append hd)
  have hl : (Value.ref (s.heap.objs.size + 1) :: us ++ ds).length = ps.length := by
    have e := r2.length
    rw [F.len _ _ _ _ hq] at e
    exact e.symm
  refine wpAny_call (make_map (f := f) I.kIn M.makes M.init (beq_iff_eq.mp M.fn) (codeAny_mono (F.run _ X.stack _ _ ⟨Value.ref (s.heap.objs.size + 1) :: us, []⟩ (Value.ref (s.heap.objs.size + 1) :: (us ++ ds)) _ _ (E σ) (hr.make C us [])
    (I2.env0.make C us []) (hb _ (Value.ref (s.heap.objs.size + 1) :: us) I2.kIn hl) r2 hq) fun r s' hq' => ?_))
  cases r with
  | error e => exact hx pins _ _ e s' I2 hq'
  | ok fl =>
    cases fl with
    | ret u =>
      obtain ⟨v, H', I3, rv, ev, q3⟩ := I2.after hq'
      subst ev
      exact ⟨rv, ⟨V.ref (s.heap.objs.size + 1), H', I3, rfl, q3⟩⟩
    | next => exact False.elim hq'
    | brk => exact False.elim hq'
    | cont => exact False.elim hq'
theorem pe_makeSD (M : Mk X.K C f) (F : FnOk X.prog X.w X.K X.mg X.base CX k f fd ps sp) (hr : Room (k + 1) X.A) (hg : Gl X x) (hm : X.mg x = some (.ref C)) (hb : Binds X.K fd ps ds) (hd : Vals dvs ds) (hx : ∀ σ, PassesAt CX X σ (E σ))
    (ha : PA X (e :: es) t) (hdb : (x == ("__debug__" : Str)) = false := by decide) (he : starEach (e :: es) X.env = (false, eval e X.env) :: starEach es X.env := by rfl) (hpl : (backTo pos (starEach es X.env)).any (·.1) = false := by rfl) :
    PE X (.Call (.Name x p) (e :: es) [] pos) (tMakeSD C sp dvs E t) := by
  refine ⟨fun pins s σ H Q I h => ?_⟩
  refine wpAny_Call_Name_kw (ld_glob I hg hm ?_ hdb)
  refine PySem.W.callWith_K (h₀ := X.base) I.ok.mod.kin M.kp (thn (ha.run pos pins s σ H _ I h) fun us s1 ⟨vs, H1, I1, r, q⟩ => ⟨I1.kIn, ?_⟩) he hpl
  exact run_makeSD M F hr hb hd (hx σ) I1 r q
/-- nothing is let out -/
def wN : WX := fun _ _ _ _ => False
theorem passN {X : Cx} (σ : L2.St) : PassesAt (L2N.CX X.prog X.w) X σ (WE wN σ) := fun _ _ _ _ _ _ h => by
  obtain ⟨_, _, _, _, _, _, _, _, _, _, _, _, z⟩ := h
  exact z.elim
theorem takesN {X : Cx} : L2N.Takes X wN := fun _ _ h => by
  obtain ⟨_, _, _, _, _, _, _, _, _, _, _, _, _, _, _, _, z⟩ := h
  exact z.elim
end
section
variable {K : PySem.W.Frag} {W : WX} {te ta tb tk tv to : TE} {tr : TA} {af : Rh → Option (List PyData)} {sem : Sem} {E : L2.St → XK} {f g : Rh → Option Ev} {pf pg : Rh → Option Sv} {df dg : Rh → Option PyData} {bf : Rh → Option Bool} {nf : Rh → Option (Hd × List PyData)} {n : Nat} {ga : Rh → Option Rh}
theorem fv_makeSD {C : String} (ha : Fa K cl W n tr ga) : Fv K cl W (tMakeSD (cl C) (PSf K cl sem) [] (WE W) tr) (fMake C sem n ga) := fv_make ha
/-! ### built-ins over data -/
def boolsF : List PyData → Option (List Bool)
  | [] => some []
  | .bool b :: r => match boolsF r with
    | some bs => some (b :: bs)
    | none => none
  | _ :: _ => none
theorem bools_of : ∀ {ds : List PyData} {bs : List Bool}, boolsF ds = some bs → ds = bs.map PyData.bool
  | [], bs, h => by simp only [boolsF, Option.some.injEq] at h; subst h; rfl
  | d :: ds, bs, h => by
    unfold boolsF at h
    split at h
    · rename_i e; cases e
    · rename_i b r e
      split at h
      · rename_i bs' e2
        cases h
        cases e
        rw [bools_of e2]; rfl
      · cases h
    · cases h
theorem boolsF_map : ∀ bs : List Bool, boolsF (bs.map PyData.bool) = some bs
  | [] => rfl
  | b :: bs => by simp [boolsF, boolsF_map bs]
def allF : PyData → Option PyData
  | .list ds => match boolsF ds with
    | some bs => some (.bool (bs.all id))
    | none => none
  | _ => none
/-- f(x), x data, by a function of data -/
def d1 (o : PyData → Option PyData) (f : Rh → Option PyData) (ρ : Rh) : Option PyData := match f ρ with
  | some d => o d
  | none => none
theorem dv_all (h : Dv K cl te df) : Dv K cl (tCB (rAll K) (tCons te tNil)) (d1 allF df) := fun B F H ul σ tv ρ G us d r e Q q => by
  unfold d1 at e
  split at e
  · rename_i d' e1
    unfold allF at e
    split at e
    · rename_i ds
      split at e
      · rename_i bs eb
        cases e
        have := bools_of eb
        subst this
        refine h B F H ul σ tv ρ G us _ r e1 _ fun v B' H' w hv => ?_
        cases hv with
        | lst s1 a1 =>
          rw [DpAll.bls_inv a1] at s1
          exact ⟨_, bs, rfl, s1, q _ B' H' w (.bl _)⟩
      · cases e
    · cases e
  · cases e
def maxF : PyData → PyData → Option PyData
  | .int i, .int j => some (.int (if j > i then j else i))
  | _, _ => none
theorem dv_max (ha : Dv K cl ta df) (hb : Dv K cl tb dg) : Dv K cl (tCB (fun xs H Q => ∃ i j, xs = [.int i, .int j] ∧ Q (.int (if j > i then j else i)) H) (tCons ta (tCons tb tNil))) (d2 maxF df dg) := fun B F H ul σ tv ρ G us d r e Q q => by
  unfold d2 at e
  split at e
  · rename_i d1 d2 e1 e2
    unfold maxF at e
    split at e
    · rename_i i j
      cases e
      refine ha B F H ul σ tv ρ G us _ r e1 _ fun x B1 H1 w1 hx => hb B1 F H1 ul σ tv ρ G us _ (r.grow w1) e2 _ fun y B2 H2 w2 hy => ?_
      cases hx
      cases hy
      exact ⟨i, j, rfl, q _ B2 H2 (w1.trans w2) (.int _)⟩
    · cases e
  · cases e
def intF : PyData → Option PyData
  | .int i => some (.int i)
  | .bool b => some (.int (if b then 1 else 0))
  | _ => none
theorem dv_int (ha : Dv K cl ta df) : Dv K cl (tCB (fun xs H Q => (∃ i, xs = [.int i] ∧ Q (.int i) H) ∨ ∃ k, xs = [.bl k] ∧ Q (.int (if k then 1 else 0)) H) (tCons ta tNil)) (d1 intF df) := fun B F H ul σ tv ρ G us d r e Q q => by
  unfold d1 at e
  split at e
  · rename_i d' e1
    unfold intF at e
    split at e
    · cases e
      refine ha B F H ul σ tv ρ G us _ r e1 _ fun x B1 H1 w1 hx => ?_
      cases hx
      exact .inl ⟨_, rfl, q _ B1 H1 w1 (.int _)⟩
    · cases e
      refine ha B F H ul σ tv ρ G us _ r e1 _ fun x B1 H1 w1 hx => ?_
      cases hx
      exact .inr ⟨_, rfl, q _ B1 H1 w1 (.int _)⟩
    · cases e
  · cases e
/-- list(xs): a copy of a list of data -/
def nCopy (f : Rh → Option PyData) (ρ : Rh) : Option (Hd × List PyData) := match f ρ with
  | some (.list ds) => if noLists ds then some (.lst, ds) else none
  | some (.tuple ds) => if noLists ds then some (.lst, ds) else none
  | _ => none
theorem nv_copy (ha : Dv K cl ta df) : Nv K cl (tCB (fun xs H Q => ∃ p ys, xs = [V.ref p] ∧ (SqL K H p ys ∨ SqT K H p ys) ∧ ∀ l, H l = none → Q (.ref l) (upd H l (.lst ys))) (tCons ta tNil)) (nCopy df) := fun B F H ul σ tv ρ G us hd ds0 r e Q q => by
  unfold nCopy at e
  split at e
  · rename_i ds e1
    split at e
    · rename_i hn
      cases e
      refine ha B F H ul σ tv ρ G us _ r e1 _ fun x B1 H1 w1 hx => ?_
      cases hx with
      | lst s1 a1 => exact ⟨_, _, rfl, .inl s1, fun l hl => q l _ B1 H1 _ w1 hl rfl (.inl ⟨_, rfl⟩) ⟨free_of (r.grow w1).rl.exB hl, upd_same⟩ (DpAll.keepT (r.grow w1).rl.keepT _ _ hn a1)⟩
    · cases e
  · rename_i ds e1
    split at e
    · rename_i hn
      cases e
      refine ha B F H ul σ tv ρ G us _ r e1 _ fun x B1 H1 w1 hx => ?_
      cases hx with
      | tup s1 a1 => exact ⟨_, _, rfl, .inr s1, fun l hl => q l _ B1 H1 _ w1 hl rfl (.inl ⟨_, rfl⟩) ⟨free_of (r.grow w1).rl.exB hl, upd_same⟩ (DpAll.keepT (r.grow w1).rl.keepT _ _ hn a1)⟩
    · cases e
  · cases e
/-- "..".join(list of texts) -/
def strsF : List PyData → Option (List Str)
  | [] => some []
  | .str b :: r => match strsF r with
    | some bs => some (b :: bs)
    | none => none
  | _ :: _ => none
theorem strs_of : ∀ {ds : List PyData} {bs : List Str}, strsF ds = some bs → ds = bs.map PyData.str
  | [], bs, h => by simp only [strsF, Option.some.injEq] at h; subst h; rfl
  | d :: ds, bs, h => by
    unfold strsF at h
    split at h
    · rename_i e; cases e
    · rename_i b r e
      split at h
      · rename_i bs' e2
        cases h
        cases e
        rw [strs_of e2]; rfl
      · cases h
    · cases h
theorem strsF_map : ∀ bs : List Str, strsF (bs.map PyData.str) = some bs
  | [] => rfl
  | b :: bs => by simp [strsF, strsF_map bs]
def joinF : PyData → PyData → Option PyData
  | .str z, .list ds => match strsF ds with
    | some ys => if (ys.map (·.length)).sum + ys.length * z.length ≤ 16777216 then some (.str (Txt.join z ys)) else none
    | none => none
  | _, _ => none
theorem dv_join (ho : Dv K cl to df) (h : Dv K cl te dg) : Dv K cl (tM1 (fun x xs H Q => ∃ a p, ∃ ys : List Str, x = .str a ∧ xs = [.ref p] ∧ (SqL K H p (ys.map V.str) ∨ SqT K H p (ys.map V.str)) ∧ (ys.map (·.length)).sum + ys.length * a.length ≤ 16777216 ∧ Q (.str (Txt.join a ys)) H) to te) (d2 joinF df dg) := fun B F H ul σ tv ρ G us d r e Q q => by
  unfold d2 at e
  split at e
  · rename_i d1 d2 e1 e2
    unfold joinF at e
    split at e
    · rename_i z ds
      split at e
      · rename_i ys ey
        split at e
        · rename_i hl
          cases e
          have := strs_of ey
          subst this
          refine ho B F H ul σ tv ρ G us _ r e1 _ fun x B1 H1 w1 hx => ?_
          cases hx
          refine ⟨⟨z, rfl⟩, h B1 F H1 ul σ tv ρ G us _ (r.grow w1) e2 _ fun y B2 H2 w2 hy => ?_⟩
          cases hy with
          | lst s1 a1 =>
            rw [DpAll.strs_inv a1] at s1
            exact ⟨z, _, ys, rfl, rfl, .inl s1, hl, q _ B2 H2 (w1.trans w2) (.str _)⟩
        · cases e
      · cases e
    · cases e
  · cases e
/-! ### raise, try -/
def sRaise (C : String) (ρ : Rh) : Option Oc := some (.ex C ρ)
theorem sx_raise {C : String} : Sx K cl W (fun _ σ H => (fun σ H (Q : XK) => Q (.ref (cl C)) none H) σ H fun cls d H' => W cls d σ H') (sRaise C) := fun B F H ul σ tv ρ G us D r p => p B H σ G us (Kp.refl F B) r
end
end Fx

namespace Fx
open PySem L2
open PySem.Spec PyProof.Rows
open Evl (Ex)
theorem fnok_none {P : Program} {w : World} {K : PySem.W.Frag} {mg : Str → Option Value} {base : Heap} {CX : CXT} {cl : Kl} {f : Addr} {fd : FuncData} {ps : List Str} : FnOk P w K mg base CX 0 f fd ps (PSf K cl fun _ _ => none) :=
  ⟨fun vs H Q E ⟨_, _, _, _, _, _, _, _, h⟩ => h.elim, fun A outer s H args us vs Q E _ _ _ _ ⟨_, _, _, _, _, _, _, _, h⟩ => h.elim⟩
/-- all but the tables -/
noncomputable def noTab (t : List (Addr × Str)) (H : Hp) : Hp := fun q => if q ∈ t.map (·.1) then none else H q
/-- a law that gives True -/
theorem law_in (cl : Kl) {K : PySem.W.Frag} {sem : Sem} {vs : List V} {H : Hp} {Q : VK} {E : XK} {a : Addr} {ns : List Int} (e : vs = [.ref a]) (hT : ∀ p ∈ cl.t, H p.1 = some (.tbl #[])) (hS : SqL K H a (ns.map V.int)) (h : sem [.py (.list (ns.map .int))] [] = some (.vl (.s (.py (.bool true))) [])) (hq : ∀ H', Q (.bl true) H') : PSf K cl sem vs H Q E := by
  subst e
  have ex : Ex (noTab cl.t H) H := fun q o e => by
    unfold noTab at e
    split at e
    · cases e
    · exact e
  have at_ : ∀ q, q ∈ cl.t.map (·.1) → H q = some (.tbl #[]) ∧ noTab cl.t H q = none := fun q hq => by
    obtain ⟨p, hp, rfl⟩ := List.mem_map.mp hq
    exact ⟨hT p hp, if_pos hq⟩
  have hS2 : SqL K (noTab cl.t H) a (ns.map V.int) := by
    rcases hS with (h | ⟨o, h⟩) | h
    · refine .inl (.inl ?_)
      have n : a ∉ cl.t.map (·.1) := fun z => by rw [(at_ a z).1] at h; cases h
      show (if a ∈ cl.t.map (·.1) then none else H a) = _
      rw [if_neg n]; exact h
    · refine .inl (.inr ⟨o, ?_⟩)
      have n : a ∉ cl.t.map (·.1) := fun z => by rw [(at_ a z).1] at h; cases h
      show (if a ∈ cl.t.map (·.1) then none else H a) = _
      rw [if_neg n]; exact h
    · exact .inr h
  refine ⟨noTab cl.t H, noTab cl.t H, [], [], [.py (.list (ns.map .int))], ⟨ex, ex, (fun q o h1 h2 => ?_), LtAll.nil, List.nodup_nil, (fun q h => by simp [addrsAll] at h), fun p hp => ?_⟩, rfl, fun i s hs => ?_, ?_⟩
  · by_cases z : q ∈ cl.t.map (·.1)
    · rw [(at_ q z).1] at h1; cases h1; exact .inr (.inl ⟨_, rfl⟩)
    · have : noTab cl.t H q = H q := if_neg z
      rw [this, h1] at h2; cases h2
  · have hm : p.1 ∈ cl.t.map (·.1) := List.mem_map.mpr ⟨p, hp, rfl⟩
    exact ⟨(at_ _ hm).2, (at_ _ hm).2, LamX.TabS.nil (hT p hp)⟩
  · cases i with
    | zero => simp at hs; subst hs; exact ⟨_, rfl, Dp.lst hS2 (DpAll.ints ns)⟩
    | succ i => simp at hs
  · rw [List.map_nil, h]
    intro v B' H' G' us' _ _ _ hv
    have hv := hv.2
    cases hv
    exact hq H'
end Fx

/-! More readings: in, x += e, dict(d), d.items() of a locked dict. -/
namespace Fx
open PySem L2
open PySem.Spec PyProof.Rows
open Evl (Ex)
variable {cl : Kl}
/-! ### in -/
theorem eqV_str (a b : Str) : eqV (.str a) (.str b) = decide (a = b) := by
  show (a == b) = decide (a = b)
  rw [Bool.eq_iff_iff]; simp
theorem eqV_int (a b : Int) : eqV (.int a) (.int b) = decide (a = b) := by
  show (a == b) = decide (a = b)
  rw [Bool.eq_iff_iff]; simp
theorem inV_strs (x : Str) : ∀ l : List Str, inV (.str x) (l.map V.str) = decide (x ∈ l)
  | [] => by simp [inV]
  | a :: l => by
    have ih := inV_strs x l
    unfold inV at ih ⊢
    rw [List.map_cons, List.any_cons, ih, eqV_str]
    rw [Bool.eq_iff_iff]
    simp only [Bool.or_eq_true, decide_eq_true_eq, List.mem_cons]
    exact ⟨fun h => h.imp (fun z => z.symm) id, fun h => h.imp (fun z => z.symm) id⟩
theorem inV_ints (x : Int) : ∀ l : List Int, inV (.int x) (l.map V.int) = decide (x ∈ l)
  | [] => by simp [inV]
  | a :: l => by
    have ih := inV_ints x l
    unfold inV at ih ⊢
    rw [List.map_cons, List.any_cons, ih, eqV_int]
    rw [Bool.eq_iff_iff]
    simp only [Bool.or_eq_true, decide_eq_true_eq, List.mem_cons]
    exact ⟨fun h => h.imp (fun z => z.symm) id, fun h => h.imp (fun z => z.symm) id⟩
theorem flat_strs : ∀ l : List Str, (l.map V.str).all flatV = true
  | [] => rfl
  | a :: l => by simp [flatV, flat_strs l]
theorem flat_ints : ∀ l : List Int, (l.map V.int).all flatV = true
  | [] => rfl
  | a :: l => by simp [flatV, flat_ints l]
inductive InB : PyData → PyData → Bool → Prop
  | ts (z : Str) (l : List Str) : InB (.str z) (.tuple (l.map .str)) (decide (z ∈ l))
  | ls (z : Str) (l : List Str) : InB (.str z) (.list (l.map .str)) (decide (z ∈ l))
  | ti (z : Int) (l : List Int) : InB (.int z) (.tuple (l.map .int)) (decide (z ∈ l))
  | li (z : Int) (l : List Int) : InB (.int z) (.list (l.map .int)) (decide (z ∈ l))
  | dp (d : PyData) (ds : List PyData) (h1 : SeqAt.shaped d = true) (h2 : SeqAt.shaped (.list ds) = true) : InB d (.list ds) (ds.any fun z => PyData.eqv z d)
def rInX (K : PySem.W.Frag) (neg : Bool) : R2 := fun x y H Q => ∃ d e b, Dp K H x d ∧ Dp K H y e ∧ InB d e b ∧ Q (.bl (if neg then !b else b)) H
theorem inX_seq {X : Cx} {neg : Bool} {op : CmpOp} (ho : OpR X (compareOp op) (rIn X.K neg)) (hd : OpR X (compareOp op) (fun x y H Q => ∃ d ds, Dp X.K H x d ∧ Dp X.K H y (.list ds) ∧ SeqAt.shaped d = true ∧ SeqAt.shaped (.list ds) = true ∧ Q (.bl (if neg then !ds.any (fun z => PyData.eqv z d) else ds.any fun z => PyData.eqv z d)) H)) : OpR X (compareOp op) (rInX X.K neg) := by
  intro pins s σ H x y v u Q I rx ry h
  obtain ⟨d, e, b, hx, hy, hb, q⟩ := h
  cases hb with
  | ts z l =>
    cases hx
    cases hy with
    | @tup a xs _ s1 a1 =>
      rw [DpAll.strs_inv a1] at s1
      refine ho pins s σ H _ _ v u Q I rx ry ⟨a, _, rfl, .inr s1, rfl, flat_strs l, ?_⟩
      rw [inV_strs]; exact q
  | ls z l =>
    cases hx
    cases hy with
    | @lst a xs _ s1 a1 =>
      rw [DpAll.strs_inv a1] at s1
      refine ho pins s σ H _ _ v u Q I rx ry ⟨a, _, rfl, .inl s1, rfl, flat_strs l, ?_⟩
      rw [inV_strs]; exact q
  | ti z l =>
    cases hx
    cases hy with
    | @tup a xs _ s1 a1 =>
      rw [DpAll.ints_inv a1] at s1
      refine ho pins s σ H _ _ v u Q I rx ry ⟨a, _, rfl, .inr s1, rfl, flat_ints l, ?_⟩
      rw [inV_ints]; exact q
  | li z l =>
    cases hx
    cases hy with
    | @lst a xs _ s1 a1 =>
      rw [DpAll.ints_inv a1] at s1
      refine ho pins s σ H _ _ v u Q I rx ry ⟨a, _, rfl, .inl s1, rfl, flat_ints l, ?_⟩
      rw [inV_ints]; exact q
  | dp d ds h1 h2 => exact hd pins s σ H _ _ v u Q I rx ry ⟨d, ds, hx, hy, h1, h2, q⟩
theorem inX_ {X : Cx} (K : PySem.W.Frag) (hu : X.A.units + 65 < cLine) (h : X.K = K := by rfl) : OpR X (compareOp .In) (rInX K false) := by
  subst h
  exact inX_seq op_in_seq (op_inD hu)
theorem ninX_ {X : Cx} (K : PySem.W.Frag) (hu : X.A.units + 65 < cLine) (h : X.K = K := by rfl) : OpR X (compareOp .NotIn) (rInX K true) := by
  subst h
  exact inX_seq op_notIn_seq (op_notInD hu)
def intsF : List PyData → Option (List Int)
  | [] => some []
  | .int b :: r => match intsF r with
    | some bs => some (b :: bs)
    | none => none
  | _ :: _ => none
theorem ints_of : ∀ {ds : List PyData} {bs : List Int}, intsF ds = some bs → ds = bs.map PyData.int
  | [], bs, h => by simp only [intsF, Option.some.injEq] at h; subst h; rfl
  | d :: ds, bs, h => by
    unfold intsF at h
    split at h
    · rename_i e; cases e
    · rename_i b r e
      cases e
      split at h
      · rename_i bs1 e1
        cases h
        rw [ints_of e1]; rfl
      · cases h
    · cases h
def inF (neg : Bool) : PyData → PyData → Option Bool
  | .str z, .tuple ds => match strsF ds with
    | some l => some (if neg then !decide (z ∈ l) else decide (z ∈ l))
    | none => none
  | .str z, .list ds => match strsF ds with
    | some l => some (if neg then !decide (z ∈ l) else decide (z ∈ l))
    | none => none
  | .int z, .tuple ds => match intsF ds with
    | some l => some (if neg then !decide (z ∈ l) else decide (z ∈ l))
    | none => none
  | d, .list ds => if SeqAt.shaped d && SeqAt.shaped (.list ds) then some (if neg then !ds.any (fun z => PyData.eqv z d) else ds.any fun z => PyData.eqv z d) else none
  | _, _ => none
theorem inF_ok {neg : Bool} {d e : PyData} {c : Bool} (h : inF neg d e = some c) : ∃ b, InB d e b ∧ c = (if neg then !b else b) := by
  unfold inF at h
  split at h
  · rename_i z ds
    split at h
    · rename_i l e1; cases h; rw [strs_of e1]; exact ⟨_, .ts z l, rfl⟩
    · cases h
  · rename_i z ds
    split at h
    · rename_i l e1; cases h; rw [strs_of e1]; exact ⟨_, .ls z l, rfl⟩
    · cases h
  · rename_i z ds
    split at h
    · rename_i l e1; cases h; rw [ints_of e1]; exact ⟨_, .ti z l, rfl⟩
    · cases h
  · rename_i d' ds _
    split at h
    · rename_i hh
      simp only [Bool.and_eq_true] at hh
      cases h
      exact ⟨_, .dp _ _ hh.1 hh.2, rfl⟩
    · cases h
  · cases h
section
variable {K : PySem.W.Frag} {W : WX} {te ta tb : TE} {df dg : Rh → Option PyData} {f g : Rh → Option Sv} {fe : Rh → Option Ev} {neg : Bool}
theorem pt_in (ha : Dv K cl ta df) (hb : Dv K cl tb dg) : Pt K cl (tTest (tOp (rInX K neg) ta tb)) (dB (inF neg) df dg) := fun B F H ul σ tv ρ G us b r e Q q => by
  unfold dB at e
  split at e
  · rename_i d e' h1 h2
    refine ha B F H ul σ tv ρ G us d r h1 _ fun x B1 H1 w1 hx => hb B1 F H1 ul σ tv ρ G us e' (r.grow w1) h2 _ fun y B2 H2 w2 hy => ?_
    obtain ⟨c, hc, rfl⟩ := inF_ok e
    exact ⟨d, e', c, Dp.mono w2.h d x hx, hy, hc, _, rfl, q B2 H2 (w1.trans w2)⟩
  · cases e
theorem pv_in (ha : Dv K cl ta df) (hb : Dv K cl tb dg) : Pv K cl (tOp (rInX K neg) ta tb) (vB (dB (inF neg) df dg)) := fun B F H ul σ tv ρ G us s r e Q q => by
  unfold vB dB at e
  split at e
  · rename_i b h0
    cases e
    split at h0
    · rename_i d e' h1 h2
      refine ha B F H ul σ tv ρ G us d r h1 _ fun x B1 H1 w1 hx => hb B1 F H1 ul σ tv ρ G us e' (r.grow w1) h2 _ fun y B2 H2 w2 hy => ?_
      obtain ⟨c, hc, rfl⟩ := inF_ok h0
      exact ⟨d, e', c, Dp.mono w2.h d x hx, hy, hc, q _ B2 H2 (w1.trans w2) (.bl _)⟩
    · cases h0
  · cases e
/-! ### x += e, whole numbers -/
def sAug (o : Int → Int → Int) (i : Nat) (f : Rh → Option PyData) (ρ : Rh) : Option Oc := match ρ.sl[i]? with
  | some (some (.py (.int a))) => match f ρ with
    | some (.int b) => some (.nx { ρ with sl := ρ.sl.set i (some (.py (.int (o a b)))) })
    | _ => none
  | _ => none
theorem sx_aug (o : Int → Int → Int) (i : Nat) (h : Dv K cl te df) : Sx K cl W (tAug i te (ipI o)) (sAug o i df) := fun B F H ul σ tv ρ G us D r p => by
  unfold sAug at p
  split at p
  · rename_i a e1
    split at p
    · rename_i b e2
      obtain ⟨v, h1, h2⟩ := r.sl.has i _ e1
      have h2 : Dp K B v (.int a) := h2
      cases h2
      refine ⟨_, h1, h B F H ul σ tv ρ G us _ r e2 _ fun y B1 H1 w hy => ?_⟩
      cases hy
      exact ⟨a, b, rfl, rfl, p B1 H1 _ G us (w.kp r.rl.exF) ((r.grow w).set i (s := .py (.int (o a b))) (.int _))⟩
    · exact p.elim
  · exact p.elim
/-! ### dict(d) -/
def nDcp (f : Rh → Option Sv) (ρ : Rh) : Option (Hd × List PyData) := match f ρ with
  | some (.pt π) => match gget ρ.g π with
    | some (.nd _ (.dct ks) cs) => match pyAll cs with
      | some ds => some (.dct ks, ds)
      | none => none
    | _ => none
  | _ => none
theorem all_py {B H : Hp} : ∀ {vs : List V} {cs : List LT} {ds : List PyData}, LtAll K cl B H vs cs → pyAll (erAll cs) = some ds → DpAll K B vs ds
  | _, [], ds, h, e => by cases h; simp only [erAll, pyAll, Option.some.injEq] at e; subst e; exact .nil
  | _, c :: cs, ds, h, e => by
    cases h with
    | cons h1 h2 =>
      cases c with
      | un => simp [erAll, TL.er, pyAll] at e
      | nd => simp [erAll, TL.er, pyAll] at e
      | py d =>
        simp only [erAll, TL.er, pyAll] at e
        split at e
        · rename_i ds1 e1
          cases e
          cases h1 with
          | py h1 => exact .cons h1 (all_py h2 e1)
        · cases e
theorem nv_dcp (ha : Pv K cl ta f) : Nv K cl (tCB (fun xs H Q => ∃ (a : Addr) (kvs : List (Key × V)), xs = [V.ref a] ∧ Rd H a (.dK kvs) ∧ ∀ p, H p = none → Q (.ref p) (upd H p (.dK kvs))) (tCons ta tNil)) (nDcp f) := fun B F H ul σ tv ρ G us hd ds0 r e Q q => by
  unfold nDcp at e
  split at e
  · rename_i π h1
    split at e
    · rename_i _ ks cs hg
      split at e
      · rename_i ds ed
        cases e
        refine ha B F H ul σ tv ρ G us _ r h1 _ fun x B1 H1 w1 hx => ?_
        obtain ⟨p, cs', g1, rfl, rfl⟩ := node_of (r.grow w1) hg hx
        obtain ⟨vs, hn, hc⟩ := (r.grow w1).rl.node g1
        obtain ⟨n1, n2, n3, n4⟩ := hn
        refine ⟨p, _, rfl, .inl n4, fun l hl => ?_⟩
        exact q l vs B1 H1 _ w1 hl rfl (.inr (.inl ⟨_, rfl⟩)) ⟨free_of (r.grow w1).rl.exB hl, n2, n3, upd_same⟩ (all_py hc ed)
      · cases e
    · cases e
  · cases e
end
end Fx

/-! d.items() of a dict that is locked meanwhile. -/
namespace Fx
open PySem L2
open PySem.Spec PyProof.Rows
open Evl (Ex)
variable {cl : Kl}
def keyD : Key → PyData
  | .inl i => .int i
  | .inr x => .str x
theorem dp_key {K : PySem.W.Frag} {B : Hp} : ∀ k : Key, Dp K B (kV k) (keyD k)
  | .inl i => .int i
  | .inr x => .str x
def iIt (f : Rh → Option Sv) (ρ : Rh) : Option (List PyData) := match f ρ with
  | some (.pt π) => match gget ρ.g π with
    | some (.nd _ (.lok ks) cs) => match pyAll cs with
      | some ds => some ((ks.zip ds).map fun kd => .tuple [keyD kd.1, kd.2])
      | none => none
    | _ => none
  | _ => none
def nLock (pf : Rh → Option Sv) (n : Rh → Option (Hd × List PyData)) (ρ : Rh) : Option (Hd × List PyData) := match pf ρ with
  | some (.pt π) => match gget ρ.g π with
    | some (.nd _ (.dct ks) cs) => n (putAt π (fun _ => false) (.nd () (.lok ks) cs) ρ)
    | _ => none
  | _ => none
theorem upd_comm {H : Hp} {p q : Addr} {o u : HO} (h : p ≠ q) : upd (upd H p o) q u = upd (upd H q u) p o := by
  funext x
  by_cases h1 : x = p
  · subst h1; rw [upd_ne h, upd_same, upd_same]
  · by_cases h2 : x = q
    · subst h2; rw [upd_same, upd_ne h1, upd_same]
    · rw [upd_ne h2, upd_ne h1, upd_ne h1, upd_ne h2]
section
variable {K : PySem.W.Frag} {W : WX} {te ta tb : TE} {df dg : Rh → Option PyData} {f g pf : Rh → Option Sv} {nf : Rh → Option (Hd × List PyData)}
theorem iv_it (h : Pv K cl te f) : Iv K cl (iItems te) (iIt f) := fun B F H ul σ tv ρ G us ds r e R q => by
  unfold iIt at e
  split at e
  · rename_i π h1
    split at e
    · rename_i _ ks cs hg
      split at e
      · rename_i ds0 ed
        cases e
        refine h B F H ul σ tv ρ G us _ r h1 _ fun x B1 H1 w1 hx => ?_
        obtain ⟨p, cs', g1, rfl, rfl⟩ := node_of (r.grow w1) hg hx
        obtain ⟨vs, hn, hc⟩ := (r.grow w1).rl.node g1
        obtain ⟨n1, n2, n3, od, n4⟩ := hn
        have a := all_py hc ed
        have hl := DpAll.length a
        refine ⟨p, od, _, rfl, n4, q _ B1 H1 w1 fun B' H' e1 e2 e3 e4 => ⟨fun i d hd => ?_, ?_⟩⟩
        · have hd2 := hd
          rw [List.getElem?_map] at hd2
          cases ez : (ks.zip ds0)[i]? with
          | none => rw [ez] at hd2; cases hd2
          | some kd =>
            rw [ez] at hd2
            cases hd2
            obtain ⟨k1, k2⟩ := List.getElem?_zip_eq_some.mp ez
            obtain ⟨v, v1, v2⟩ := DpAll.get a k2
            have ek : (ks.zip vs)[i]? = some (kd.1, v) := List.getElem?_zip_eq_some.mpr ⟨k1, v1⟩
            refine ⟨⟨e2 p _ n4, (List.getElem?_eq_some_iff.mp ek).1⟩, fun y H2 ⟨T, k, w, z1, z2, z3, z4⟩ => ?_⟩
            rw [ek] at z1
            cases z1
            subst z2 z4
            refine ⟨upd B' T (.tup [kV kd.1, v]), Gw.nw e3 z3, .tup (Evl.st_of upd_same) (.cons (dp_key _) (.cons (Dp.mono (fun q o h => ?_) _ _ (Dp.mono e1 _ _ v2)) .nil))⟩
            have : q ≠ T := fun z => by subst z; rw [free_of e3 z3] at h; cases h
            rw [upd_ne this]; exact h
        · refine ⟨e2 p _ n4, ?_⟩
          simp
          omega
      · cases e
    · cases e
  · cases e
theorem nv_lock (h : Nv K cl te nf) : Nv K cl (tLockE te) (nLock pf nf) := fun B F H ul σ tv ρ G us hd ds r e Q q => by
  unfold nLock at e
  split at e
  · rename_i π h1
    split at e
    · rename_i _ ks cs hg
      obtain ⟨u0, g1, g2⟩ := r.get hg
      cases u0 with
      | un => cases g2
      | py => cases g2
      | nd p hd' cs' =>
        simp only [TL.er, TL.nd.injEq, true_and] at g2
        obtain ⟨rfl, rfl⟩ := g2
        obtain ⟨vs, hn, hc⟩ := r.rl.node g1
        obtain ⟨n1, n2, n3, n4⟩ := hn
        refine ⟨p, .dK (ks.zip vs), n4, trivial, fun od => ?_⟩
        have r1 := r.mutAt (h' := .lok ks) (vs' := vs) (cs' := cs') (o := .frz od (.dK (ks.zip vs))) (bad := fun _ => false) g1 rfl rfl (.inr (.inr (.inr (.inr ⟨_, _, rfl⟩)))) ⟨n1, n2, n3, od, upd_same⟩ hc (nodc r.rl g1) (fun q hq => .inl hq) (fun _ _ _ _ h => h)
        refine h B F _ ul σ tv _ _ us hd ds r1 e _ fun l xs B1 H1 o w1 hl hown ow hn a => ?_
        have z : H1 p = some (.frz od (.dK (ks.zip vs))) := w1.h p _ upd_same
        have lp : l ≠ p := fun y => by subst y; rw [hl] at z; cases z
        have hp1 : B1 p = none := w1.new p (by rw [upd_same]; simp) n1
        have w2 : Gw B H B1 (upd H1 p (.dK (ks.zip vs))) := by
          refine ⟨w1.b, fun q o h => ?_, fun q o h => ?_, fun q h1 h2 => w1.new q ?_ h2, fun q o h1 h2 => ?_⟩
          · by_cases y : q = p
            · subst y; rw [n4] at h; cases h; exact upd_same
            · rw [upd_ne y]; exact w1.h q o (by rw [upd_ne y]; exact h)
          · have y : q ≠ p := fun y => by subst y; rw [hp1] at h; cases h
            rw [upd_ne y]; exact w1.exB q o h
          · by_cases y : q = p
            · subst y; rw [upd_same]; simp
            · rw [upd_ne y]; exact h1
          · by_cases y : q = p
            · subst y; rw [upd_same] at h1; cases h1; exact .inl n4
            · rw [upd_ne y] at h1
              rcases w1.out q o h1 h2 with h | h
              · rw [upd_ne y] at h; exact .inl h
              · exact .inr h
        refine ⟨by rw [upd_ne lp.symm]; exact z, ?_⟩
        rw [upd_comm lp]
        refine q l xs B1 _ o w2 (by rw [upd_ne lp]; exact hl) hown ow ?_ a
        refine hn.keep (Evl.Ex.refl B1) fun ho => ⟨?_, by rw [upd_same, upd_same]⟩
        exact (hn.own ho).1
    · cases e
  · cases e
end
end Fx

/-! Defs that only read. -/
namespace Fx
open PySem L2
open PySem.Spec PyProof.Rows
open Evl (Ex)
variable {cl : Kl}
abbrev SemR := List Sv → List T → Option PyData
def OqP (K : PySem.W.Frag) (cl : Kl) (B F H : Hp) (ul tv : List V) (G : List LT) (us : List V) (D : Ends) : Option Oc → Prop
  | some (.nx ρ) => ∀ B' H' σ', Gw B H B' H' → Rg K cl B' F H' ul σ' tv ρ G us → D.nx σ' H'
  | some (.rt (.s (.py d)) _) => ∀ v B' H', Gw B H B' H' → Dp K B' v d → D.rt v H'
  | _ => False
def Sq (K : PySem.W.Frag) (cl : Kl) (t : TS) (f : Rh → Option Oc) : Prop := ∀ (B F H : Hp) (ul : List V) (σ : L2.St) (tv : List V) (ρ : Rh) (G : List LT) (us : List V) (D : Ends), Rg K cl B F H ul σ tv ρ G us →
  OqP K cl B F H ul tv G us D (f ρ) → t D σ H
def PSr (K : PySem.W.Frag) (cl : Kl) (sem : SemR) : Sp := fun vs H Q _ => ∃ B F G us ss d, Rl K cl B F H G us ∧ vs.length = ss.length ∧ (∀ (i : Nat) (s : Sv), ss[i]? = some s → ∃ v, vs[i]? = some v ∧ SvAt K B G v s) ∧
  sem ss (G.map TL.er) = some d ∧ ∀ v B' H', Gw B H B' H' → Dp K B' v d → Q v H'
def runR (np N : Nat) (f : Rh → Option Oc) : SemR := fun ss g =>
  if ss.length = np then match f ⟨ss.map (fun s => some (shiftS N s)) ++ List.replicate (N - np) none, [], List.replicate N (.un ()) ++ g, N + g.length⟩ with
    | some (.nx _) => some .none
    | some (.rt (.s (.py d)) _) => some d
    | _ => none
  else none
def Ps (K : PySem.W.Frag) (cl : Kl) (ta : TA) (f : Rh → Option (List Sv)) : Prop := ∀ (B F H : Hp) (ul : List V) (σ : L2.St) (tv : List V) (ρ : Rh) (G : List LT) (us : List V) (ss : List Sv), Rg K cl B F H ul σ tv ρ G us → f ρ = some ss →
  ∀ Q : List V → Hp → Prop, (∀ vs B' H', Gw B H B' H' → vs.length = ss.length → (∀ (i : Nat) (s : Sv), ss[i]? = some s → ∃ v, vs[i]? = some v ∧ SvAt K B' G v s) → Q vs H') → ta σ H Q
def wNo (_ : Rh) : Option (List Sv) := some []
def wCo (f : Rh → Option Sv) (g : Rh → Option (List Sv)) (ρ : Rh) : Option (List Sv) := match f ρ, g ρ with
  | some s, some ss => some (s :: ss)
  | _, _ => none
def vCallR (sem : SemR) (af : Rh → Option (List Sv)) (ρ : Rh) : Option Sv := match af ρ with
  | some ss => match sem ss ρ.g with
    | some d => some (.py d)
    | none => none
  | none => none
def vMethR (C : String) (m : Str) (sem : SemR) (pf : Rh → Option Sv) (af : Rh → Option (List Sv)) (ρ : Rh) : Option Sv := match pf ρ with
  | some (.pt π) => match gget ρ.g π with
    | some (.nd _ (.ins D fs) _) => if D = C then match ixS fs m with
        | none => match af ρ with
          | some ss => match sem (.pt π :: ss) ρ.g with
            | some d => some (.py d)
            | none => none
          | none => none
        | some _ => none
      else none
    | _ => none
  | _ => none
section
variable {K : PySem.W.Frag} {te ta tb tk to : TE} {tr : TA} {t u : TS} {c : TT} {f g pf : Rh → Option Sv} {bf : Rh → Option Bool} {sf sg : Rh → Option Oc} {af ag : Rh → Option (List Sv)} {sem : SemR} {E : L2.St → XK}
theorem SvAt.grow {B B' : Hp} {G : List LT} {v : V} {s : Sv} (e : Ex B B') (h : SvAt K B G v s) : SvAt K B' G v s := by
  cases s with
  | py d => exact Dp.mono e d v h
  | pt π => exact h
  | «at» w => exact h
theorem ps_no : Ps K cl tNil wNo := fun B F H ul σ tv ρ G us ss r e Q q => by
  cases e
  exact q [] B H (Gw.refl r.rl.exB) rfl (fun i s h => by simp at h)
theorem ps_co (ha : Pv K cl ta f) (hb : Ps K cl tr af) : Ps K cl (tCons ta tr) (wCo f af) := fun B F H ul σ tv ρ G us ss r e Q q => by
  unfold wCo at e
  split at e
  · rename_i s ss' e1 e2
    cases e
    refine ha B F H ul σ tv ρ G us _ r e1 _ fun v B1 H1 w1 hv => hb B1 F H1 ul σ tv ρ G us _ (r.grow w1) e2 _ fun vs B2 H2 w2 hl hs => ?_
    refine q (v :: vs) B2 H2 (w1.trans w2) (by simp [hl]) fun i s' h => ?_
    cases i with
    | zero => simp at h; subst h; exact ⟨v, rfl, SvAt.grow w2.b hv⟩
    | succ i => simpa using hs i s' (by simpa using h)
  · cases e
theorem sq_nx : Sq K cl tNext sNx := fun B F H ul σ tv ρ G us D r p => p B H σ (Gw.refl r.rl.exB) r
theorem sq_sq (h1 : Sq K cl t sf) (h2 : Sq K cl u sg) : Sq K cl (tSeq t u) (sSq sf sg) := fun B F H ul σ tv ρ G us D r p => by
  refine h1 B F H ul σ tv ρ G us _ r ?_
  unfold sSq at p
  split at p
  · rename_i ρ1 e
    rw [e]
    refine fun B1 H1 σ1 w1 r1 => h2 B1 F H1 ul σ1 tv ρ1 G us D r1 ?_
    cases e2 : sg ρ1 with
    | none => rw [e2] at p; exact p
    | some o =>
      rw [e2] at p
      cases o with
      | nx ρ2 => exact fun B2 H2 σ2 w2 r2 => p B2 H2 σ2 (w1.trans w2) r2
      | rt y ρ2 =>
        cases y with
        | s s =>
          cases s with
          | py d => exact fun v B2 H2 w2 hv => p v B2 H2 (w1.trans w2) hv
          | pt => exact p
          | «at» => exact p
        | own => exact p
      | bk => exact p
      | ct => exact p
      | ex => exact p
  · rename_i o e
    cases e2 : sf ρ with
    | none => rw [e2] at p; exact p.elim
    | some o =>
      rw [e2] at p
      cases o with
      | nx ρ2 => exact (e ρ2 e2).elim
      | rt y ρ2 =>
        cases y with
        | s s =>
          cases s with
          | py d => exact p
          | pt => exact p.elim
          | «at» => exact p.elim
        | own => exact p.elim
      | bk => exact p.elim
      | ct => exact p.elim
      | ex => exact p.elim
theorem sq_rt (h : Pv K cl te f) : Sq K cl (tRet te) (sRt (fP f)) := fun B F H ul σ tv ρ G us D r p => by
  unfold sRt fP at p
  cases e : f ρ with
  | none => rw [e] at p; exact p.elim
  | some s =>
    rw [e] at p
    cases s with
    | py d => exact h B F H ul σ tv ρ G us _ r e _ fun v B1 H1 w hv => p v B1 H1 w hv
    | pt => exact p.elim
    | «at» => exact p.elim
theorem sq_as (i : Nat) (h : Pv K cl te f) : Sq K cl (tAsg te (gName i)) (sAs i (fP f)) := fun B F H ul σ tv ρ G us D r p => by
  unfold sAs fP at p
  cases e : f ρ with
  | none => rw [e] at p; exact p.elim
  | some s =>
    rw [e] at p
    exact h B F H ul σ tv ρ G us _ r e _ fun v B1 H1 w hv => p B1 H1 _ w ((r.grow w).set i hv)
theorem sq_at {tg : TG} {fg : Sv → Rh → Option Rh} (h : Pv K cl te f) (ht : Tg K cl tg fg) : Sq K cl (tAsg te tg) (sAt fg (fP f)) := fun B F H ul σ tv ρ G us D r p => by
  unfold sAt fP at p
  cases e : f ρ with
  | none => rw [e] at p; exact p.elim
  | some s =>
    rw [e] at p
    dsimp only at p
    split at p
    · rename_i ρ2 e2
      exact h B F H ul σ tv ρ G us _ r e _ fun v B1 H1 w hv => ht B1 F H1 ul σ tv ρ ρ2 G us v s (r.grow w) hv e2 _ fun σ' r' => p B1 H1 σ' w r'
    · exact p.elim
theorem sq_if (hc : Pt K cl c bf) (h1 : Sq K cl t sf) (h2 : Sq K cl u sg) : Sq K cl (tIfS c t u) (sIf (fB bf) sf sg) := fun B F H ul σ tv ρ G us D r p => by
  unfold sIf fB at p
  cases e : bf ρ with
  | none => rw [e] at p; exact p.elim
  | some b =>
    rw [e] at p
    refine hc B F H ul σ tv ρ G us b r e _ fun B1 H1 w => ?_
    have imp : ∀ o, OqP K cl B F H ul tv G us D o → OqP K cl B1 F H1 ul tv G us D o := fun o p => by
      cases o with
      | none => exact p
      | some o =>
        cases o with
        | nx ρ2 => exact fun B2 H2 σ2 w2 r2 => p B2 H2 σ2 (w.trans w2) r2
        | rt y ρ2 =>
          cases y with
          | s s =>
            cases s with
            | py d => exact fun v B2 H2 w2 hv => p v B2 H2 (w.trans w2) hv
            | pt => exact p
            | «at» => exact p
          | own => exact p
        | bk => exact p
        | ct => exact p
        | ex => exact p
    cases b with
    | true => exact iteT (h1 B1 F H1 ul σ tv ρ G us D (r.grow w) (imp _ p))
    | false => exact iteF (h2 B1 F H1 ul σ tv ρ G us D (r.grow w) (imp _ p))
theorem pv_callR (ha : Ps K cl tr af) : Pv K cl (tCallSD (PSr K cl sem) [] E tr) (vCallR sem af) := fun B F H ul σ tv ρ G us s r e Q q => by
  unfold vCallR at e
  split at e
  · rename_i ss e1
    split at e
    · rename_i d e2
      cases e
      refine ha B F H ul σ tv ρ G us ss r e1 _ fun vs B1 H1 w hl hs => ?_
      rw [List.append_nil]
      exact ⟨B1, F, G, us, ss, d, (r.grow w).rl, hl, hs, by rw [r.er]; exact e2, fun v B2 H2 w2 hv => q v B2 H2 (w.trans w2) hv⟩
    · cases e
  · cases e
theorem pv_methR {C : String} {m : Str} (ho : Pv K cl ta pf) (ha : Ps K cl tr af) : Pv K cl (tMethSD (cl C) m (PSr K cl sem) [] E ta tr) (vMethR C m sem pf af) := fun B F H ul σ tv ρ G us s r e Q q => by
  unfold vMethR at e
  split at e
  · rename_i π e1
    split at e
    · rename_i D fs cs hg
      split at e
      · rename_i eD
        subst eD
        split at e
        · rename_i hm
          split at e
          · rename_i ss e2
            split at e
            · rename_i d e3
              cases e
              refine ho B F H ul σ tv ρ G us _ r e1 _ fun x B1 H1 w hx => ?_
              have hx : pv G π = some x := hx
              have r1 := r.grow w
              obtain ⟨p, cs', g1, rfl, rfl⟩ := node_of r hg hx
              obtain ⟨vs0, hn, hc⟩ := r1.rl.node g1
              obtain ⟨_, hl, dx, hh⟩ := hn
              refine ⟨p, dx, _, rfl, hh, look_none hm, ha B1 F H1 ul σ tv ρ G us ss r1 e2 _ fun vs B2 H2 w2 hl2 hs => ?_⟩
              rw [List.append_nil]
              refine ⟨B2, F, G, us, .pt π :: ss, d, (r1.grow w2).rl, by simp [hl2], fun i s' h => ?_, by rw [r.er]; exact e3, fun v B3 H3 w3 hv => q v B3 H3 (w.trans (w2.trans w3)) hv⟩
              cases i with
              | zero => simp at h; subst h; exact ⟨_, rfl, hx⟩
              | succ i => simpa using hs i s' (by simpa using h)
            · cases e
          · cases e
        · cases e
      · cases e
    · cases e
  · cases e
end
section
open PySem.Spec PyProof.Rows
variable {P : Program} {w : World} {K : PySem.W.Frag} {mg : Str → Option Value} {base : Heap}
theorem def_okR {x qual : Str} {st : Stmt} {f : Addr} {fd : FuncData} {N ps : List Str} {k : Nat} {bf : Rh → Option Oc} (F : Fun K x qual st f fd) (S : FnScope N ps (defScope st)) (hN : ps.length ≤ N.length)
    (hbody : ∀ (cdv : Value) (A : Around) (outer : List Env) (s : Shared) (H : Hp) (E : XK), fd.code = cdv → Room k (A.deeper (envOfC qual (defScope st) s.heap.objs.size f cdv)) →
      ∃ t, PSs (cxOf (L2N.CX P w) P w K mg base N qual (defScope st) f cdv A outer s H E) (defBody st) t ∧ Sq K cl t bf) :
    FnOk P w K mg base (L2N.CX P w) (k + 1) f fd ps (PSr K cl (runR ps.length N.length bf)) := by
  refine Fun.okG F S (fun vs H Q E h => ?_) (fun cdv A outer s H vs Q E hcode hr h => ?_)
  · obtain ⟨B, F', G, us, ss, d, _, hl, _, hp, _⟩ := h
    rw [hl]
    unfold runR at hp
    split at hp
    · rename_i z; exact z
    · cases hp
  · obtain ⟨t, ht, hx⟩ := hbody cdv A outer s H E hcode hr
    refine ⟨t, ht, ?_⟩
    obtain ⟨B, F', G, us, ss, d, rl, hl, ha, hp, hq⟩ := h
    unfold runR at hp
    split at hp
    · rename_i hss
      have hus : us.length = G.length := rl.at_.length
      have hst : (L2.start N vs).length = N.length := by
        simp [L2.start]; omega
      have r0 : Rg K cl B F' H us (L2.start N vs) [] ⟨ss.map (fun s => some (shiftS N.length s)) ++ List.replicate (N.length - ps.length) none, [], List.replicate N.length (.un ()) ++ G.map TL.er, N.length + (G.map TL.er).length⟩ (List.replicate N.length (TL.un V.non) ++ G) (List.replicate N.length V.non ++ us) := by
        refine ⟨by simp [TL.er], ⟨rl.exB, rl.exF, rl.out, (ltall_un N.length).append rl.at_, by rw [addrs_un]; exact rl.nod, fun q hq => rl.off q (by rw [addrs_un] at hq; exact hq), rl.tb⟩, by simp [hst, hus], by simp, ?_, ⟨by simp [L2.start]; omega, fun i s h => ?_⟩, ⟨rfl, fun i s h => by simp at h⟩⟩
        · rw [hst, List.drop_left' (by simp)]; simp
        · have hi : i < ss.length := by
            refine Classical.byContradiction fun z => ?_
            rw [List.getElem?_append_right (by simp; omega)] at h
            rw [List.getElem?_replicate] at h
            split at h <;> cases h
          rw [List.getElem?_append_left (by simpa using hi), List.getElem?_map] at h
          rw [List.getElem?_eq_getElem hi] at h
          simp only [Option.map_some, Option.some.injEq] at h
          obtain ⟨v, h1, h2⟩ := ha i _ (List.getElem?_eq_getElem hi)
          refine ⟨v, ?_, ?_⟩
          · show (vs.map some ++ _)[i]? = _
            have hiv : i < vs.length := (List.getElem?_eq_some_iff.mp h1).1
            rw [List.getElem?_append_left (by simpa using hiv), List.getElem?_map, h1]; rfl
          · cases es : ss[i] with
            | py d => rw [es] at h h2; subst h; exact h2
            | «at» u => rw [es] at h h2; subst h; exact h2
            | pt π =>
              rw [es] at h h2
              cases π with
              | nil => subst h; simp [SvAt, pv, gget] at h2
              | cons j π =>
                subst h
                show pv _ ((N.length + j) :: π) = some v
                have h2 : pv G (j :: π) = some v := h2
                unfold pv at h2 ⊢
                simp only [gget] at h2 ⊢
                rw [List.getElem?_append_right (by simp)]
                simpa using h2
      refine hx B F' H us _ [] _ _ _ _ r0 ?_
      split at hp
      · rename_i ρ e; rw [e]
        cases hp
        exact fun B' H' σ' w' _ => hq .non B' H' w' .non
      · rename_i d' ρ e; rw [e]
        cases hp
        exact fun v B' H' w' hv => hq v B' H' w' hv
      · cases hp
    · cases hp
end
end Fx

/-! sorted(e, key=lambda x: x[0]): the lambda is made, the list is sorted by its calls. -/
namespace Fx
open PySem L2
open PySem.Spec PyProof.Rows
open Evl (Ex)
variable {cl : Kl}
/-- what a lambda's making leaves of the abstract heap -/
def LamG (P : Addr) (q : Str) (H H1 : Hp) : Prop := H1 = H ∨ ∃ ps c, H c = none ∧ (∃ ps0, H P = some (.tbl ps0)) ∧ H1 = upd (upd H P (.tbl ps)) c (LamX.CodeO c q)
section
variable {X : Cx} {pins : List (Addr × Obj)} {σ : L2.St} {H : Hp} {s : Shared}
theorem lamNew {c P : Addr} {params : Arguments} {body : Expr} {scope : Scope} {pos : Pos} {E : Value → Shared → Prop} {Q : Value → Shared → Prop} (I : Inv X pins σ H s) (TB : LamX.TabB X.base X.mg c P) (ec : X.env.code = .ref c)
    (ht : LamX.TabS H P (X.env.qual ++ "<lambda>")) (hd : defaultsOf params X.env = ([], [])) (hc : closureFor scope X.env = pure [])
    (go : ∀ (f c' : Addr) (pm ctv : Value) (H1 : Hp) (s' : Shared), Inv X pins σ H1 s' → LamG P (X.env.qual ++ "<lambda>") H H1 → LamX.TabS H1 P (X.env.qual ++ "<lambda>") →
      s'.heap.get? f = some (PySem.W.kla_obj "<lambda>" (X.env.qual ++ "<lambda>") params body scope [] pm c' ctv) → H1 f = none → H1 c' = some (LamX.CodeO c' (X.env.qual ++ "<lambda>")) → Q (.ref f) s') :
    wpAny (model X.prog X.w) X.A (eval (.Lambda params body scope pos) X.env) Q E s := by
  obtain ⟨ps, tP, t3, cs⟩ := ht
  have oP : s.heap.get? P = some { cls := .none, data := .fields ps } := I.hok P _ tP
  have bP := TB.bm.keeps I.bk
  refine PySem.W.kla_eval hd ?_
  rcases hm : codeAmong pos ps.toList with _ | cv
  · -- it is not in the table yet
    refine PySem.W.kla_makeFunction hc I.ok.glob (I.mod.glob.keeps I.bk) ec (TB.code.keeps I.bk) oP t3 hm TB.gP bP fun d ctv h2 tk hx hge hlt hrec htb => ?_
    obtain ⟨d2, oc, vs, t, e2, r1, r2, r3⟩ := hrec
    cases e2
    have nd : H d = none := I.hok.fresh hge
    have nPd : P ≠ d := ne_of_none tP nd
    have I1 := LamX.inv_table (t' := tk) (more := #[rawInt pos.line, rawInt pos.col, .ref d]) (q := X.env.qual ++ "<lambda>") (h' := h2.push (PySem.W.kla_obj "<lambda>" (X.env.qual ++ "<lambda>") params body scope [] ((X.mg "__name__").getD .none) d ctv)) I tP
      (fun b o nb e => Heap.get?_push_of_some _ (hx b o nb e)) (Heap.get?_push_of_some _ htb) hge ⟨oc, vs, t, Heap.get?_push_of_some _ r1, r2, r3⟩
    have sz : s.heap.objs.size ≤ h2.objs.size := Nat.le_trans hge (Nat.le_of_lt hlt)
    refine go h2.objs.size d ((X.mg "__name__").getD .none) ctv _ _ I1 (.inr ⟨_, d, nd, ⟨ps, tP⟩, rfl⟩) ⟨_, by rw [upd_ne nPd, upd_same], ?_, fun p2 cv h => ?_⟩ (Heap.get?_push_size _ rfl) ?_ upd_same
    · have : (ps ++ #[rawInt pos.line, rawInt pos.col, Value.ref d]).toList = ps.toList ++ [rawInt pos.line, rawInt pos.col, .ref d] := by simp
      rw [this]
      exact PySem.TriplesOk_snoc _ _ _ _ t3
    · have : (ps ++ #[rawInt pos.line, rawInt pos.col, Value.ref d]).toList = ps.toList ++ [rawInt pos.line, rawInt pos.col, .ref d] := by simp
      rw [this] at h
      rcases LamX.among_app _ t3 h with z | z
      · obtain ⟨c0, z1, z2⟩ := cs p2 cv z
        refine ⟨c0, z1, ?_⟩
        rw [upd_ne (ne_of_none z2 nd), upd_ne fun y => by rw [y, tP] at z2; exact LamX.codeO_ne _ (Option.some.inj z2).symm]
        exact z2
      · exact ⟨d, z, upd_same⟩
    · rw [upd_ne (Nat.ne_of_gt hlt), upd_ne (Nat.ne_of_gt (Nat.lt_of_lt_of_le (Heap.lt_size oP) sz))]
      exact I.hok.fresh sz
  · -- it is found there
    obtain ⟨d, z1, z2⟩ := cs pos cv hm
    subst z1
    refine PySem.W.kla_makeFunctionHit hc I.ok.glob (I.mod.glob.keeps I.bk) ec (TB.code.keeps I.bk) oP t3 hm bP fun ctv h2 tk hx sz => ?_
    exact go h2.objs.size d ((X.mg "__name__").getD .none) ctv H _ (I.kept fun b o e => Heap.get?_push_of_some _ (hx b o e)) (.inl rfl) ⟨ps, tP, t3, cs⟩ (Heap.get?_push_size _ rfl) (I.hok.fresh sz) z2
/-- a call of the lambda x: x[0] at a tuple -/
theorem lam_item {prog : Program} {w : World} {A : Around} {s : Shared} {q x : Str} {params : Arguments} {scope : Scope} {pm ctv : Value} {f c' t : Addr} {its : Array Value} {i : Int} {u : Tok} {j : Nat} {p1 p2 p3 : Pos} {E : Value → Shared → Prop}
    (hr : A.depth < recursionLimit) (of : s.heap.get? f = some (PySem.W.kla_obj "<lambda>" q params (.Subscript (.Name x p1) (.Constant (.int 0) j p2) p3) scope [] pm c' ctv)) (hcd : s.heap.CodeRec (.ref c') q) (nl : s.heap.NoLimit)
    (hk : scope.kind = .function) (hco : scope.isCoroutine = false) (hgen : scope.isGenerator = false) (hcell : ∀ y ∈ scope.names, y.2 ≠ .cell) (hx : scope.names.lookup x = some .local)
    (hb : ∀ (q : Str) (cl : List (Str × Addr)) (pm cv ctv : Value) (a : Value), bindArgs (PySem.W.kla_fn "<lambda>" q params (.Subscript (.Name x p1) (.Constant (.int 0) j p2) p3) scope cl pm cv ctv) ⟨[a], []⟩ = pure [(x, a)])
    (ht : IsTup s.heap t its) (h0 : its[0]? = some (.int i u)) (hdb : (x == ("__debug__" : Str)) = false := by decide) :
    wpAny (model prog w) A (call (.ref f) [.ref t]) (PySem.W.KeyPure (.int i) s) E s := by
  refine wpAny_call ?_
  refine PySem.W.kla_callFunE hr of rfl hco hgen rfl hcd ?_
  rw [hb]
  refine wpAny_pure (wpAny_newFunctionEnv hcell (fun y hy => by simp at hy; subst hy; exact hx) (fun h₁ hns hsb => ⟨?_, PySem.W.kla_codeExpr ?_⟩) hk)
  · exact nl.fresh _ hsb
  have kp : ∀ b o, s.heap.get? b = some o → h₁.get? b = some o := fun b o e => hsb.extBut b o (Nat.ne_of_lt (Heap.lt_size e)) (Heap.get?_push_of_some _ e)
  refine PyProof.Rows.Subscript_ (wpAny_Name (wpAny_loadName_local (v := .ref t) hk hx hns (by simp [List.lookup]) ?_) hdb)
  refine wpAny_Constant_int ?_
  have ht' : IsTup h₁ t its := ht.keeps kp
  refine subscriptTail_builtinR (x := .int i u) ht'.typeIs slot_tuple_getitem.lookup (getItem_tuple (j := 0) ht' (by decide) (by decide) ?_ h0 ⟨rfl, ?_⟩)
  · have : 0 < its.size := by
      have := (Array.getElem?_eq_some_iff.mp h0).1
      exact this
    simp [seqIndex?, this]
  · exact ⟨h₁, _, rfl, kp, .int i u⟩
end
theorem LamG.kept {P : Addr} {q : Str} {H H1 : Hp} (g : LamG P q H H1) {b : Addr} {o : HO} (e : H b = some o) (n : ∀ ps, o ≠ .tbl ps) : H1 b = some o := by
  rcases g with rfl | ⟨ps, c, nc, ⟨ps0, hP⟩, rfl⟩
  · exact e
  · rw [upd_ne (ne_of_none e nc), upd_ne fun z => by rw [z, hP] at e; exact n _ (Option.some.inj e).symm]
    exact e
theorem LamG.list {K : PySem.W.Frag} {P : Addr} {q : Str} {H H1 : Hp} (g : LamG P q H H1) {a : Addr} {xs : List V} (h : SqL K H a xs) : SqL K H1 a xs := by
  rcases h with (h | ⟨o, h⟩) | h
  · exact .inl (.inl (g.kept h fun _ => by simp))
  · exact .inl (.inr ⟨o, g.kept h fun _ => by simp⟩)
  · exact .inr h
theorem LamG.tuple {K : PySem.W.Frag} {P : Addr} {q : Str} {H H1 : Hp} (g : LamG P q H H1) {a : Addr} {xs : List V} (h : SqT K H a xs) : SqT K H1 a xs := by
  rcases h with (h | ⟨o, h⟩) | h
  · exact .inl (.inl (g.kept h fun _ => by simp))
  · exact .inl (.inr ⟨o, g.kept h fun _ => by simp⟩)
  · exact .inr h
theorem each_of : ∀ {xs : List V} {us : List Value}, Vals xs us → PySem.W.EachIs (fun v y => RelV y v) us xs
  | _, _, .nil => .nil
  | _, _, .cons a b => .cons a (each_of b)
theorem of_each : ∀ {xs : List V} {us : List Value}, PySem.W.EachIs (fun v y => RelV y v) us xs → Vals xs us
  | _, _, .nil => .nil
  | _, _, .cons a b => .cons a (of_each b)
theorem each_map : ∀ {zs : List (V × Int)} {us : List Value}, PySem.W.EachIs (fun v y => RelV y v) us (zs.map Prod.fst) → PySem.W.EachIs (fun v (z : V × Int) => RelV z.1 v) us zs
  | [], _, .nil => .nil
  | _ :: _, _, .cons a b => .cons a (each_map b)
theorem map_each : ∀ {zs : List (V × Int)} {us : List Value}, PySem.W.EachIs (fun v (z : V × Int) => RelV z.1 v) us zs → PySem.W.EachIs (fun v y => RelV y v) us (zs.map Prod.fst)
  | [], _, .nil => .nil
  | _ :: _, _, .cons a b => .cons a (map_each b)
/-- sorted(e, key=lambda x: x[0]), the items tuples that a whole number begins -/
def tSortLam (K : PySem.W.Frag) (P : Addr) (q : Str) (te : TE) : TE := fun σ H Q => te σ H fun x H1 => ∃ (a : Addr) (zs : List (V × Int)), [x] = [V.ref a] ∧ SqL K H1 a (zs.map Prod.fst) ∧ zs.length ≤ 100000 ∧ (∀ z ∈ zs, ∃ t us, z.1 = V.ref t ∧ SqT K H1 t (.int z.2 :: us)) ∧ LamX.TabS H1 P q ∧
  ∀ H2 l, LamG P q H1 H2 → LamX.TabS H2 P q → H2 l = none → Q (.ref l) (upd H2 l (.lst ((zs.mergeSort fun a b => decide (a.2 ≤ b.2)).map Prod.fst)))
theorem pe_sortLam {X : Cx} {c P : Addr} {q x : Str} {e : Expr} {te : TE} {params : Arguments} {scope : Scope} {j kk : Nat} {p p1 p2 p3 lpos kpos pos : Pos} (he : PE X e te) (hr : Room kk X.A) (hg : Gl X "sorted") (hm : X.mg "sorted" = none)
    (TB : LamX.TabB X.base X.mg c P) (ec : X.env.code = .ref c) (hq : X.env.qual ++ "<lambda>" = q) (hd : defaultsOf params X.env = ([], [])) (hc : closureFor scope X.env = pure [])
    (hk : scope.kind = .function) (hco : scope.isCoroutine = false) (hgen : scope.isGenerator = false) (hcell : ∀ y ∈ scope.names, y.2 ≠ .cell) (hx : scope.names.lookup x = some .local)
    (hb : ∀ (q : Str) (cl : List (Str × Addr)) (pm cv ctv : Value) (a : Value), bindArgs (PySem.W.kla_fn "<lambda>" q params (.Subscript (.Name x p1) (.Constant (.int 0) j p2) p3) scope cl pm cv ctv) ⟨[a], []⟩ = pure [(x, a)])
    (he0 : starEach [e] X.env = (false, eval e X.env) :: starEach [] X.env := by rfl) (hst : backTo pos (starEach [e] X.env) = (false, eval e X.env) :: backTo pos (starEach [] X.env) := by rfl) (hpl : (backTo pos (starEach [e] X.env)).any (·.1) = false := by rfl) (hdb : (x == ("__debug__" : Str)) = false := by decide) :
    PE X (.Call (.Name "sorted" p) [e] [⟨some "key", .Lambda params (.Subscript (.Name x p1) (.Constant (.int 0) j p2) p3) scope lpos, kpos⟩] pos) (tSortLam X.K P q te) := by
  subst hq
  refine ⟨fun pins s σ H Q I h => ?_⟩
  refine wpAny_Call_Name_kw (ld_blt I hg hm (u := .builtin "sorted") (by decide +kernel) ?_ (by decide) (by decide))
  have ha : PA X [e] (tCons te tNil) := L2.pa_cons he L2.pa_nil he0
  refine PyProof.Rows.callWith_kw (thn (ha.run pos pins s σ H (fun vs H1 => ∃ (a : Addr) (zs : List (V × Int)), vs = [V.ref a] ∧ SqL X.K H1 a (zs.map Prod.fst) ∧ zs.length ≤ 100000 ∧ (∀ z ∈ zs, ∃ t us, z.1 = V.ref t ∧ SqT X.K H1 t (.int z.2 :: us)) ∧ LamX.TabS H1 P (X.env.qual ++ "<lambda>") ∧
    ∀ H2 l, LamG P (X.env.qual ++ "<lambda>") H1 H2 → LamX.TabS H2 P (X.env.qual ++ "<lambda>") → H2 l = none → Q (.ref l) (upd H2 l (.lst ((zs.mergeSort fun a b => decide (a.2 ≤ b.2)).map Prod.fst)))) I h) fun us s1 ⟨vs, H1, I1, r1, q1⟩ => ?_) hst hpl
  · obtain ⟨a, zs, rfl, hS, hl, hT, tb, go⟩ := q1
    obtain rfl := Vals.ref1 r1
    show wpAny _ _ (evalAll [do let v ← eval (.Lambda params _ scope lpos) X.env; standAt pos; pure v]) _ _ s1
    refine wpAny_evalAll_cons (wpAny_bind (lamNew I1 TB ec tb hd hc fun f c' pm ctv H2 s2 I2 g2 t2 of nf hcc => wpAny_bind (wpAny_standAt (wpAny_pure (wpAny_evalAll_nil ?_)))))
    obtain ⟨its, rv, pl, hz⟩ := I2.list (g2.list hS)
    obtain ⟨⟨oc, vs, tq, z1, z2, z3⟩, _, _⟩ := I2.hok c' _ hcc
    have un := hr.un
    refine PySem.W.sorted_key_data (A := X.A) (b := false) (R := fun v (z : V × Int) => RelV z.1 v) (k := fun z : V × Int => PyData.int z.2) (bs := zs) (kw := [(Str.ofString "key", .ref f)]) pl.isList (each_map (each_of rv)) (PySem.W.AllAlike.of fun _ _ => by simp [PySem.W.alike]) (PySem.W.Sortable.others fun _ => by simp) (Nat.le_trans hl (by decide)) (fun y _ => ?_) (PyProof.Rows.ksk_s1 _ _) (fun _ => PyProof.Rows.ksk_l1 _ _) (fun _ => PyProof.Rows.ksk_t1 _ _)
      (fun v y hR hy h tk kp => ?_) fun out cc h' tk kp hn hD hlen heach => ?_
    · have : (PyData.int y.2).depth = 0 := by simp [PyData.depth]
      rw [this]; omega
    · obtain ⟨t, us, ey, hSt⟩ := hT y hy
      obtain ⟨is, ri, pi, _⟩ := I2.tuple (g2.tuple hSt)
      have hR : RelV y.1 v := hR
      rw [ey] at hR
      obtain rfl : v = Value.ref t := hR
      cases ri with
      | @cons _ u _ us2 ra rb =>
        obtain ⟨tok, rfl⟩ := ra
        refine lam_item (s := { s2 with heap := h, toks := tk }) (u := tok) ?_ (kp _ _ of) ⟨c', oc, vs, tq, rfl, kp _ _ z1, z2, z3⟩ (I2.nolimit.keeps kp) hk hco hgen hcell hx hb (pi.keeps kp) (by simp) hdb
        exact hr.depth
    · rw [PySem.W.dataLe_int] at heach
      refine ⟨.ref (s2.heap.objs.size + 1), upd H2 (s2.heap.objs.size + 1) (.lst ((zs.mergeSort fun a b => decide (a.2 ≤ b.2)).map Prod.fst)), I2.laid kp (Nat.le_succ _) ⟨?_, out, cc, of_each (map_each heach), hD⟩, rfl, go H2 _ g2 t2 (I2.hok.fresh (Nat.le_succ _))⟩
      rw [List.length_map, List.length_mergeSort]
      exact Nat.le_trans hl (by decide)
end Fx

/-! Lists sorted by a lambda, tuple(..), stars, dict comprehensions. -/
namespace Fx
open PySem L2
open PySem.Spec PyProof.Rows
open Evl (Ex)
variable {cl : Kl}
section
variable {K : PySem.W.Frag} {B F H B' H' : Hp} {G : List LT} {us ul tv : List V} {σ : L2.St} {ρ : Rh}
theorem Rl.lam {P : Addr} {q : Str} {H1 : Hp} (r : Rl K cl B F H G us) (g : LamG P q H H1) (hm : (P, q) ∈ cl.t) (hu : ∀ p ∈ cl.t, p.1 = P → p.2 = q) (t : LamX.TabS H1 P q) : Rl K cl B F H1 G us := by
  obtain ⟨bP, fP, ps1, oP, _⟩ := r.tb _ hm
  rcases g with rfl | ⟨ps, c, nc, ⟨ps0, hP⟩, rfl⟩
  · exact r
  have nPc : P ≠ c := ne_of_none hP nc
  have at_ : ∀ b, b ≠ P → b ≠ c → upd (upd H P (.tbl ps)) c (LamX.CodeO c q) b = H b := fun b h1 h2 => by rw [upd_ne h2, upd_ne h1]
  have ex : ∀ {C : Hp}, Ex C H → C P = none → Ex C (upd (upd H P (.tbl ps)) c (LamX.CodeO c q)) := fun {C} e n b o h => by
    rw [at_ b (fun z => by rw [z, n] at h; cases h) (ne_of_none (e b o h) nc)]
    exact e b o h
  refine ⟨ex r.exB bP, ex r.exF fP, fun b o h1 h2 => ?_, LtAll.keep (Evl.Ex.refl B) G us (fun b hb => ⟨(r.there b hb).1, at_ b ?_ ?_⟩) r.at_, r.nod, r.off, fun p hp => ?_⟩
  · by_cases z : b = c
    · subst z; rw [upd_same] at h1; cases h1; exact .inr (.inr ⟨_, rfl⟩)
    · by_cases y : b = P
      · subst y; rw [upd_ne z, upd_same] at h1; cases h1; exact .inr (.inl ⟨_, rfl⟩)
      · rw [at_ b y z] at h1; exact r.out b o h1 h2
  · exact fun z => r.ntab hb (List.mem_map.mpr ⟨_, hm, z.symm⟩)
  · obtain ⟨_, o, h1, _⟩ := r.there b hb
    exact ne_of_none h1 nc
  · obtain ⟨t1, t2, ts, t3, t4, t5⟩ := r.tb p hp
    refine ⟨t1, t2, ?_⟩
    by_cases z : p.1 = P
    · rw [z, hu p hp z]; exact t
    · refine ⟨ts, by rw [at_ _ z (ne_of_none t3 nc)]; exact t3, t4, fun pos cv h => ?_⟩
      obtain ⟨d, d1, d2⟩ := t5 pos cv h
      refine ⟨d, d1, ?_⟩
      rw [at_ d (fun y => by rw [y, hP] at d2; exact LamX.codeO_ne _ (Option.some.inj d2).symm) (ne_of_none d2 nc)]
      exact d2
theorem Rg.lam {P : Addr} {q : Str} {H1 : Hp} (r : Rg K cl B F H ul σ tv ρ G us) (g : LamG P q H H1) (hm : (P, q) ∈ cl.t) (hu : ∀ p ∈ cl.t, p.1 = P → p.2 = q) (t : LamX.TabS H1 P q) : Rg K cl B F H1 ul σ tv ρ G us :=
  ⟨r.er, r.rl.lam g hm hu t, r.bs, r.le, r.ul, r.sl, r.tm⟩
end
/-- the whole number that begins a tuple -/
def key1 : PyData → Int
  | .tuple (.int i :: _) => i
  | _ => 0
def isK1 : PyData → Bool
  | .tuple (.int _ :: _) => true
  | _ => false
def sort1 (ds : List PyData) : List PyData := ds.mergeSort fun a b => decide (key1 a ≤ key1 b)
/-- sorted(e, key=lambda x: x[0]) -/
def fSort1 (f : Rh → Option PyData) (ρ : Rh) : Option Ev := match f ρ with
  | some (.list ds) => if ds.all isK1 && decide (ds.length ≤ 100000) then some (.vl .own { ρ with g := ρ.g ++ [.nd () .lst ((sort1 ds).map TL.py)] }) else none
  | _ => none
theorem isK1_of {d : PyData} (h : isK1 d = true) : ∃ i r, d = .tuple (.int i :: r) := by
  unfold isK1 at h
  split at h
  · exact ⟨_, _, rfl⟩
  · cases h
/-- pairs that belong together, sorted -/
theorem pair_sort {K : PySem.W.Frag} {B : Hp} {vs : List V} {ds : List PyData} (a : DpAll K B vs ds) : DpAll K B (((vs.zip (ds.map key1)).mergeSort fun a b => decide (a.2 ≤ b.2)).map Prod.fst) (sort1 ds) := by
  have hl := DpAll.length a
  let zs := vs.zip ds
  have e1 : zs.map (fun p => (p.1, key1 p.2)) = vs.zip (ds.map key1) := by
    simp only [zs, List.zip_map_right]
    rfl
  have e2 : zs.map Prod.snd = ds := by simp [zs, List.map_snd_zip, hl]
  have m1 := List.map_mergeSort (r := fun p q : V × PyData => decide (key1 p.2 ≤ key1 q.2)) (s := fun a b : V × Int => decide (a.2 ≤ b.2)) (f := fun p => (p.1, key1 p.2)) (l := zs) fun p hp q hq => rfl
  have m2 := List.map_mergeSort (r := fun p q : V × PyData => decide (key1 p.2 ≤ key1 q.2)) (s := fun a b => decide (key1 a ≤ key1 b)) (f := Prod.snd) (l := zs) fun p hp q hq => rfl
  rw [e1] at m1
  rw [e2] at m2
  unfold sort1
  rw [← m1, ← m2, List.map_map]
  have all : ∀ p ∈ zs, Dp K B p.1 p.2 := by
    intro p hp
    obtain ⟨i, hi⟩ := List.mem_iff_getElem?.mp hp
    obtain ⟨h1, h2⟩ := List.getElem?_zip_eq_some.mp hi
    obtain ⟨v, h3, h4⟩ := DpAll.get a h2
    rw [h1] at h3; cases h3
    exact h4
  have go : ∀ l : List (V × PyData), (∀ p ∈ l, Dp K B p.1 p.2) → DpAll K B (l.map (Prod.fst ∘ fun p : V × PyData => (p.1, key1 p.2))) (l.map Prod.snd) := by
    intro l
    induction l with
    | nil => intro _; exact .nil
    | cons p l ih => intro h; exact .cons (h p (by simp)) (ih fun q hq => h q (by simp [hq]))
  exact go _ fun p hp => all p (List.mem_mergeSort.mp hp)
section
variable {K : PySem.W.Frag} {W : WX} {te ta tb tk tv to : TE} {tr : TA} {f g h : Rh → Option Sv} {df dg : Rh → Option PyData} {af : Rh → Option (List PyData)} {fe : Rh → Option Ev} {wi : TI} {gt : TG} {tt : TT}
theorem dp_inj {K : PySem.W.Frag} {H : Hp} {v : V} {i : Int} {rs : List PyData} {t : Addr} {zs : List V} (h : Dp K H v (.tuple (.int i :: rs))) : ∃ t zs, v = .ref t ∧ SqT K H t (.int i :: zs) := by
  cases h with
  | @tup a xs _ s1 a1 =>
    cases a1 with
    | cons x1 x2 => cases x1; exact ⟨a, _, rfl, s1⟩
theorem fv_sort1 {P : Addr} {q : Str} (hm : (P, q) ∈ cl.t) (hu : ∀ p ∈ cl.t, p.1 = P → p.2 = q) (hf : Pv K cl te f) : Fv K cl W (tSortLam K P q te) (fSort1 (vPy f)) := fun B F H ul σ tv ρ G us r Q p => by
  unfold fSort1 vPy at p
  split at p
  · rename_i ds e1
    split at e1
    · rename_i d e2
      cases e1
      split at p
      · rename_i hc
        simp only [Bool.and_eq_true, decide_eq_true_eq, List.all_eq_true] at hc
        refine hf B F H ul σ tv ρ G us _ r e2 _ fun v B1 H1 w hv => ?_
        have r1 := r.grow w
        have hv : Dp K B1 v (.list ds) := hv
        cases hv with
        | @lst a xs _ s1 a1 =>
          have hl := DpAll.length a1
          obtain ⟨tb1, tb2, tb3⟩ := r1.rl.tb _ hm
          have ez : (xs.zip (ds.map key1)).map Prod.fst = xs := by simp [List.map_fst_zip, hl]
          refine ⟨a, xs.zip (ds.map key1), rfl, by rw [ez]; exact Evl.ex_l r1.rl.exB s1, by rw [List.length_zip]; exact Nat.le_trans (Nat.min_le_right _ _) (by rw [List.length_map]; exact hc.2), fun z hz => ?_, tb3, fun H2 l g2 t2 hn => ?_⟩
          · obtain ⟨i, hi⟩ := List.mem_iff_getElem?.mp hz
            obtain ⟨h1, h2⟩ := List.getElem?_zip_eq_some.mp hi
            rw [List.getElem?_map] at h2
            cases hd : ds[i]? with
            | none => rw [hd] at h2; cases h2
            | some d =>
              rw [hd] at h2
              have h2 : key1 d = z.2 := by simpa using h2
              obtain ⟨v, h3, h4⟩ := DpAll.get a1 hd
              rw [h1] at h3; cases h3
              obtain ⟨n, rs, e⟩ := isK1_of (hc.1 _ (List.mem_of_getElem? hd))
              rw [← h2, e]
              rw [e] at h4
              obtain ⟨t, zs, e3, h5⟩ := dp_inj (t := 0) (zs := []) h4
              exact ⟨t, zs, e3, Evl.ex_t r1.rl.exB h5⟩
          · have r2 := r1.lam g2 hm hu t2
            have a2 := pair_sort a1
            have own : OwnO (.lst (((xs.zip (ds.map key1)).mergeSort fun a b => decide (a.2 ≤ b.2)).map Prod.fst)) := .inl ⟨_, rfl⟩
            have r3 := (r2.rl.addpy a2).pack (h := .lst) r2.ul_ hn rfl own ⟨free_of r2.rl.exB hn, upd_same⟩
            have r4 := r2.addRoot r3 (Evl.Ex.refl _)
            have e2 : (TL.nd l .lst ((sort1 ds).map TL.py) : LT).er = .nd () .lst ((sort1 ds).map TL.py) := by simp only [TL.er, erAll_py]
            rw [e2] at r4
            exact p (.ref l) B1 _ _ _ (w.kp r.rl.exF) r4 (by show (us ++ [V.ref l]).getLast? = _; simp)
      · exact p.elim
    · cases e1
  · exact p.elim
/-- tuple(e), e a new list -/
def fTupOf (f : Rh → Option Ev) (ρ : Rh) : Option Ev := match f ρ with
  | some (.vl .own ρ1) => match ρ1.g.getLast? with
    | some (.nd _ .lst es) => match pyAll es with
      | some ds => if ρ1.bs < ρ1.g.length then some (.vl (.s (.py (.tuple ds))) (dropLastF ρ1)) else none
      | none => none
    | _ => none
  | some (.vl (.s (.py (.list ds))) ρ1) => some (.vl (.s (.py (.tuple ds))) ρ1)
  | some (.ex C ρ1) => some (.ex C ρ1)
  | _ => none
theorem fv_tupOf (hf : Fv K cl W te fe) : Fv K cl W (tThen te (kTup K)) (fTupOf fe) := fun B F H ul σ tv ρ G us r Q p => by
  refine hf B F H ul σ tv ρ G us r _ ?_
  unfold fTupOf at p
  split at p
  · rename_i ρ1 e
    rw [e]
    intro v B1 H1 G1 us1 k1 r1 hv
    split at p
    · rename_i es et
      obtain ⟨G0, u0, us0, rfl, rfl, eu, hl0⟩ := r1.lastRoot hv et
      split at p
      · rename_i ds eds
        split at p
        · rename_i hb
          obtain ⟨rl0, hu, _, _, _⟩ := r1.rl.last
          have r2 := r1.dropLast hb rl0 (Evl.Ex.refl _)
          cases u0 with
          | un => cases eu
          | py => cases eu
          | nd q hd es' =>
            simp only [TL.er, TL.nd.injEq] at eu
            obtain ⟨_, rfl, rfl⟩ := eu
            have := pyAll_of eds
            subst this
            cases hu with
            | @nd _ _ _ vs hn hc =>
              have a := LtAll.py hc
              refine .inl ⟨q, vs, rfl, SqL.of hn.2, fun l hq => ?_⟩
              have w := Gw.nw (o := .tup vs) r2.rl.exB hq
              exact p (.ref l) _ _ _ _ (k1.trans (w.kp r2.rl.exF)) (r2.grow w) (.tup (SqT.of upd_same) (DpAll.mono w.b _ _ a))
        · exact p.elim
      · exact p.elim
    · exact p.elim
  · rename_i ds ρ1 e
    rw [e]
    intro v B1 H1 G1 us1 k1 r1 hv
    have hv : Dp K B1 v (.list ds) := hv
    cases hv with
    | @lst a xs _ s1 a1 =>
      refine .inl ⟨a, xs, rfl, Evl.ex_l r1.rl.exB s1, fun l hq => ?_⟩
      have w := Gw.nw (o := .tup xs) r1.rl.exB hq
      exact p (.ref l) _ _ _ _ (k1.trans (w.kp r1.rl.exF)) (r1.grow w) (.tup (SqT.of upd_same) (DpAll.mono w.b _ _ a1))
  · rename_i C ρ1 e
    rw [e]
    exact fun B1 H1 G1 us1 k1 r1 => p B1 H1 G1 us1 k1 r1
  · exact p.elim
/-- *e, .. in a display -/
def aStar (f : Rh → Option PyData) (g : Rh → Option (List PyData)) (ρ : Rh) : Option (List PyData) := match f ρ, g ρ with
  | some (.list ds), some es => some (ds ++ es)
  | some (.tuple ds), some es => some (ds ++ es)
  | _, _ => none
theorem pa_star (ha : Pv K cl te f) (hr : Pa K cl tr af) : Pa K cl (StX.tStar K te tr) (aStar (vPy f) af) := fun B F H ul σ tv ρ G us ds r e Q q => by
  unfold aStar vPy at e
  split at e
  · rename_i ds1 es h1 h2
    cases e
    split at h1
    · rename_i d h3
      cases h1
      refine ha B F H ul σ tv ρ G us _ r h3 _ fun x B1 H1 w1 hx => ?_
      have hx : Dp K B1 x (.list ds1) := hx
      cases hx with
      | @lst a xs _ s1 a1 =>
        exact ⟨a, xs, rfl, .inr (Evl.ex_l (r.grow w1).rl.exB s1), hr B1 F H1 ul σ tv ρ G us _ (r.grow w1) h2 _ fun ys B2 H2 w2 hy => q _ B2 H2 (w1.trans w2) (DpAll.append (DpAll.mono w2.b _ _ a1) hy)⟩
    · cases h1
  · rename_i ds1 es h1 h2
    cases e
    split at h1
    · rename_i d h3
      cases h1
      refine ha B F H ul σ tv ρ G us _ r h3 _ fun x B1 H1 w1 hx => ?_
      have hx : Dp K B1 x (.tuple ds1) := hx
      cases hx with
      | @tup a xs _ s1 a1 =>
        exact ⟨a, xs, rfl, .inl (Evl.ex_t (r.grow w1).rl.exB s1), hr B1 F H1 ul σ tv ρ G us _ (r.grow w1) h2 _ fun ys B2 H2 w2 hy => q _ B2 H2 (w1.trans w2) (DpAll.append (DpAll.mono w2.b _ _ a1) hy)⟩
    · cases h1
  · cases e
/-! ### {k: v for x in it} -/
def collectD (tg : Sv → Rh → Option Rh) (kf : Rh → Option PyData) (vf : Rh → Option Sv) (ρ : Rh) : List PyData → List Key → List PyData → Option (List Key × List PyData)
  | [], ks, vs => some (ks, vs)
  | d :: ds, ks, vs => match tg (.py d) ρ with
    | some ρ1 => match kf ρ1, vf ρ1 with
      | some dk, some (.py v) => match keyF dk with
        | some k => match ixK ks k with
          | none => collectD tg kf vf ρ ds (ks ++ [k]) (vs ++ [v])
          | some _ => none
        | none => none
      | _, _ => none
    | none => none
def nDc (vs : List Nat) (it : Rh → Option (List PyData)) (tg : Sv → Rh → Option Rh) (kf : Rh → Option PyData) (vf : Rh → Option Sv) (ρ : Rh) : Option (Hd × List PyData) := match it ρ with
  | some ds => if ds.length ≤ 100000 then match collectD tg kf vf (wipeR ρ vs) ds [] [] with
      | some (ks, xs) => some (.dct ks, xs)
      | none => none
    else none
  | none => none
theorem nv_dc {vs : List Nat} {it : Rh → Option (List PyData)} {fg : Sv → Rh → Option Rh} (hi : Iv K cl wi it) (hg : Tw K cl gt vs fg) (hk : Dv K cl tk df) (he : Pv K cl te f) : Nv K cl (tDc wi gt tYes tk te vs) (nDc vs it fg df f) := fun B F H ul σ tv ρ G us hd ds0 r e0 Q q => by
  unfold nDc at e0
  split at e0
  · rename_i ds e1
    split at e0
    · rename_i hlen
      split at e0
      · rename_i ks0 xs0 e2
        cases e0
        refine hi B F H ul σ tv ρ G us ds r e1 _ fun J B1 H1 w hJ => ?_
        intro D hD
        have r1 := r.grow w
        refine ⟨fun i m H' => ∃ B' H0 ks xs done, m = ds.length - i ∧ i ≤ ds.length ∧ Gw B1 H1 B' H0 ∧ H0 D = none ∧ H' = upd H0 D (.dK (ks.zip xs)) ∧ ks.length = xs.length ∧ ks.Nodup ∧ DpAll K B' xs done ∧ done.length ≤ i ∧ collectD fg df f (wipeR ρ vs) (ds.drop i) ks done = some (ks0, ds0),
          ⟨_, B1, H1, [], [], [], rfl, Nat.zero_le _, Gw.refl r1.rl.exB, hD, rfl, rfl, List.nodup_nil, .nil, Nat.le_refl _, by simpa using e2⟩, ?_⟩
        rintro i m H' ⟨B', H0, ks, xs, done, rfl, hi, g0, h0, rfl, hkl, hnd, a0, hdl, ec⟩
        have ow : OwnO (.dK (ks.zip xs)) := .inr (.inl ⟨_, rfl⟩)
        have g1 : Gw B' H0 B' (upd H0 D (.dK (ks.zip xs))) := Gw.ow g0.exB h0 ow
        have r2 := (r1.grow g0).grow g1
        have hJ' := hJ B' (upd H0 D (.dK (ks.zip xs))) g0.b (g0.h.trans g1.h) r2.rl.exB r2.rl.out
        by_cases hlt : i < ds.length
        · rw [List.drop_eq_getElem_cons hlt] at ec
          obtain ⟨go, yl⟩ := hJ'.1 i _ (List.getElem?_eq_getElem hlt)
          refine .inr ⟨go, fun H' => ∃ B' H0 ks xs done, Gw B1 H1 B' H0 ∧ H0 D = none ∧ H' = upd H0 D (.dK (ks.zip xs)) ∧ ks.length = xs.length ∧ ks.Nodup ∧ DpAll K B' xs done ∧ done.length ≤ i + 1 ∧ collectD fg df f (wipeR ρ vs) (ds.drop (i + 1)) ks done = some (ks0, ds0),
            fun H' ⟨B', H0, ks, xs, done, z1, z2, z3, z4, z5, z6, z7, z8⟩ => ⟨ds.length - (i + 1), by omega, B', H0, ks, xs, done, rfl, by omega, z1, z2, z3, z4, z5, z6, z7, z8⟩, fun x H2 hy => ?_⟩
          obtain ⟨B2, w2, hx⟩ := yl x H2 hy
          have r3 := r2.grow w2
          simp only [collectD] at ec
          split at ec
          · rename_i ρ1 et
            refine hg B2 F H2 ul σ tv _ ρ1 G us x (.py ds[i]) (r3.wipe vs) hx et _ fun σ2 hw2 r4 => ⟨hw2, ?_⟩
            have hD2 : H2 D = some (.dK (ks.zip xs)) := w2.h D _ upd_same
            have hB' : B' D = none := free_of g0.exB h0
            have fin : ∀ {B3 H3 : Hp}, Gw B2 H2 B3 H3 → H3 D = some (.dK (ks.zip xs)) ∧ B3 D = none ∧ Gw B1 H1 B3 (minus H3 D) := fun {B3 H3} w3 => by
              have hB2 : B2 D = none := w2.new D (by rw [upd_same]; simp) hB'
              have hB3 : B3 D = none := w3.new D (by rw [hD2]; simp) hB2
              exact ⟨w3.h D _ hD2, hB3, ((g0.trans g1).trans (w2.trans w3)).minus hD hB3⟩
            refine pt_yes B2 F H2 ul σ2 tv ρ1 G us true r4 rfl _ fun B3 H3 w3 => ?_
            rw [if_pos rfl]
            split at ec
            · rename_i dk v ek ev
              split at ec
              · rename_i k hk'
                split at ec
                · rename_i hix
                  refine hk B3 F H3 ul σ2 tv ρ1 G us _ (r4.grow w3) ek _ fun y B4 H4 w4 hy => he B4 F H4 ul σ2 tv ρ1 G us _ ((r4.grow w3).grow w4) ev _ fun z B5 H5 w5 hz => ?_
                  have := key_val hk' hy
                  subst this
                  obtain ⟨f1, f2, f3⟩ := fin (w3.trans (w4.trans w5))
                  have hl := DpAll.length a0
                  refine ⟨ks.zip xs, k, rfl, f1, ?_, B5, minus H5 D, ks ++ [k], xs ++ [z], done ++ [v], f3, minus_same, ?_, by simp [hkl], ?_, ?_, by simp; omega, ec⟩
                  · rw [List.length_zip]
                    exact Nat.lt_of_le_of_lt (Nat.min_le_right _ _) (Nat.lt_of_lt_of_le (show xs.length < 100000 by omega) (by decide))
                  · rw [putK_new hix hkl]
                    have := minus_upd f1
                    conv => lhs; rw [← this]
                    funext q
                    by_cases z : q = D
                    · subst z; rw [upd_same, upd_same]
                    · rw [upd_ne z, upd_ne z, upd_ne z]
                  · exact List.nodup_append.mpr ⟨hnd, by simp, fun a ha b hb z => by simp at hb; subst hb z; exact ixK_not hix ha⟩
                  · exact DpAll.snoc_of (DpAll.mono (w2.trans (w3.trans (w4.trans w5))).b _ _ a0) hz
                · cases ec
              · cases ec
            · cases ec
          · cases ec
        · have : i = ds.length := by omega
          subst this
          rw [List.drop_length] at ec
          simp only [collectD, Option.some.injEq, Prod.mk.injEq] at ec
          obtain ⟨rfl, rfl⟩ := ec
          exact .inl ⟨hJ'.2, q D xs B' H0 (.dK (ks.zip xs)) (w.trans g0) h0 rfl ow ⟨free_of g0.exB h0, hkl, hnd, upd_same⟩ a0⟩
      · cases e0
    · cases e0
  · cases e0
end
end Fx

/-! Displays that hold trees; names that take the parts of a new tuple; dicts by tuples. -/
namespace Fx
open PySem L2
open PySem.Spec PyProof.Rows
open Evl (Ex)
variable {cl : Kl}
/-! ### small ones -/
/-- a tuple of what is read now -/
def dTup (f : Rh → Option (List PyData)) (ρ : Rh) : Option PyData := match f ρ with
  | some ds => if ds.length ≤ 1000 then some (.tuple ds) else none
  | none => none
def dLst (f : Rh → Option (List PyData)) (ρ : Rh) : Option PyData := match f ρ with
  | some ds => if ds.length ≤ 1000 then some (.list ds) else none
  | none => none
/-! ### what lies on tm, as children -/
def gathF : List (Option Sv) → Nat → List T → Option (List T)
  | [], _, [] => some []
  | some (.py d) :: r, k, xs => match gathF r k xs with
    | some cs => some (.py d :: cs)
    | none => none
  | some (.pt π) :: r, k, x :: xs => if π = [k] then match x with
      | .nd a h c0 => match gathF r (k + 1) xs with
        | some cs => some (.nd a h c0 :: cs)
        | none => none
      | _ => none
    else none
  | _, _, _ => none
def dispF (n l0 : Nat) (h : Hd) (cs : List T) (ρ : Rh) : Rh := ⟨msk (fun π => !headLt l0 π) ρ.sl, msk (fun π => !headLt l0 π) (ρ.tm.take (ρ.tm.length - n)), ρ.g.take l0 ++ [.nd () h cs], ρ.bs⟩
def allPy : List (Option Sv) → Option (List PyData)
  | [] => some []
  | some (.py d) :: r => match allPy r with
    | some ds => some (d :: ds)
    | none => none
  | _ :: _ => none
def popN (n : Nat) (ρ : Rh) : Rh := { ρ with tm := ρ.tm.take (ρ.tm.length - n) }
/-- (a, b), some of them perhaps new lists -/
def fTup (n : Nat) (g : Rh → Option Rh) (ρ : Rh) : Option Ev := match g ρ with
  | some ρ1 => match allPy (ρ1.tm.drop (ρ1.tm.length - n)) with
    | some ds => if n ≤ 1000 then some (.vl (.s (.py (.tuple ds))) (popN n ρ1)) else none
    | none => if ρ.g.length ≤ ρ1.g.length ∧ ρ1.bs ≤ ρ.g.length ∧ n ≤ 1000 then match gathF (ρ1.tm.drop (ρ1.tm.length - n)) ρ.g.length (ρ1.g.drop ρ.g.length) with
        | some cs => some (.vl .own (dispF n ρ.g.length .tup cs ρ1))
        | none => none
      else none
  | none => none
def fLst (n : Nat) (g : Rh → Option Rh) (ρ : Rh) : Option Ev := match g ρ with
  | some ρ1 => if ρ.g.length ≤ ρ1.g.length ∧ ρ1.bs ≤ ρ.g.length ∧ n ≤ 1000 then match gathF (ρ1.tm.drop (ρ1.tm.length - n)) ρ.g.length (ρ1.g.drop ρ.g.length) with
      | some cs => some (.vl .own (dispF n ρ.g.length .lst cs ρ1))
      | none => none
    else none
  | none => none
/-- {k: v, ..}, the keys written -/
def fDct (ks : List Key) (g : Rh → Option Rh) (ρ : Rh) : Option Ev :=
  match g { ρ with g := ρ.g ++ [.nd () (.dct []) []], tm := ρ.tm ++ [some (.pt [ρ.g.length])] } with
  | some ρ1 => if ρ.g.length + 1 ≤ ρ1.g.length ∧ ρ1.bs ≤ ρ.g.length ∧ ks.Nodup ∧ ks.length ≤ 15 then match (ρ1.tm.take (ρ1.tm.length - ks.length)).getLast?, ρ1.g[ρ.g.length]?, gathF (ρ1.tm.drop (ρ1.tm.length - ks.length)) (ρ.g.length + 1) (ρ1.g.drop (ρ.g.length + 1)) with
      | some (some (.pt π)), some (.nd _ (.dct []) []), some cs => if π = [ρ.g.length] then some (.vl .own ⟨msk (fun π => !headLt ρ.g.length π) ρ1.sl, msk (fun π => !headLt ρ.g.length π) (ρ1.tm.take (ρ1.tm.length - (ks.length + 1))), ρ1.g.take ρ.g.length ++ [.nd () (.dct ks) cs], ρ1.bs⟩) else none
      | _, _, _ => none
    else none
  | none => none
section
variable {K : PySem.W.Frag} {W : WX} {te ta tb tk tv to tx : TE} {tr : TA} {f g h : Rh → Option Sv} {df dg : Rh → Option PyData} {af : Rh → Option (List PyData)} {fe : Rh → Option Ev} {ga : Rh → Option Rh} {n m : Nat}
theorem dv_tup (ha : Da K cl tr af) : Dv K cl (tTup tr) (dTup af) := fun B F H ul σ tv ρ G us d r e Q q => by
  unfold dTup at e
  split at e
  · rename_i ds h1
    split at e
    · rename_i hl
      cases e
      refine ha B F H ul σ tv ρ G us _ r h1 _ fun xs B1 H1 w1 hx => ⟨Nat.le_trans (by rw [DpAll.length hx]; exact hl) (by decide), fun p hp => ?_⟩
      have w2 := Gw.nw (o := .tup xs) (r.grow w1).rl.exB hp
      exact q _ _ _ (w1.trans w2) (.tup (SqT.of upd_same) (DpAll.mono w2.h _ _ hx))
    · cases e
  · cases e
theorem dv_lst (ha : Da K cl tr af) : Dv K cl (tLst tr) (dLst af) := fun B F H ul σ tv ρ G us d r e Q q => by
  unfold dLst at e
  split at e
  · rename_i ds h1
    split at e
    · rename_i hl
      cases e
      refine ha B F H ul σ tv ρ G us _ r h1 _ fun xs B1 H1 w1 hx => ⟨Nat.le_trans (by rw [DpAll.length hx]; exact hl) (by decide), fun p hp => ?_⟩
      have w2 := Gw.nw (o := .lst xs) (r.grow w1).rl.exB hp
      exact q _ _ _ (w1.trans w2) (.lst (SqL.of upd_same) (DpAll.mono w2.h _ _ hx))
    · cases e
  · cases e
theorem gath_ok {B H : Hp} {G : List LT} : ∀ (tms : List (Option Sv)) (vs : List V) (Y : List LT) (ys : List V) (k : Nat) (cs : List T), LtAll K cl B H ys Y → (∀ j u, Y[j]? = some u → G[k + j]? = some u) → vs.length = tms.length →
    (∀ (i : Nat) (s : Sv), tms[i]? = some (some s) → ∃ v, vs[i]? = some v ∧ SvAt K B G v s) → gathF tms k (Y.map TL.er) = some cs →
    ∃ cs' : List LT, cs'.map TL.er = cs ∧ LtAll K cl B H vs cs' ∧ addrsAll cs' = addrsAll Y
  | [], vs, Y, ys, k, cs, hY, hG, hl, ht, e => by
    cases Y with
    | cons => simp [gathF] at e
    | nil =>
      simp only [List.map_nil, gathF, Option.some.injEq] at e
      subst e
      have : vs = [] := List.length_eq_zero_iff.mp (by simpa using hl)
      subst this
      exact ⟨[], rfl, .nil, rfl⟩
  | none :: r, vs, Y, ys, k, cs, hY, hG, hl, ht, e => by simp [gathF] at e
  | some (.at v) :: r, vs, Y, ys, k, cs, hY, hG, hl, ht, e => by simp [gathF] at e
  | some (.py d) :: r, [], Y, ys, k, cs, hY, hG, hl, ht, e => by simp at hl
  | some (.py d) :: r, v :: vs, Y, ys, k, cs, hY, hG, hl, ht, e => by
    simp only [gathF] at e
    split at e
    · rename_i cs1 e1
      cases e
      obtain ⟨cs', a1, a2, a3⟩ := gath_ok r vs Y ys k cs1 hY hG (by simpa using hl) (fun i s h => by simpa using ht (i + 1) s (by simpa using h)) e1
      obtain ⟨v', h1, h2⟩ := ht 0 (.py d) rfl
      simp at h1; subst h1
      exact ⟨.py d :: cs', by simp [TL.er, a1], .cons (.py h2) a2, by simp [addrsAll, TL.addrs, a3]⟩
    · cases e
  | some (.pt π) :: r, [], Y, ys, k, cs, hY, hG, hl, ht, e => by simp at hl
  | some (.pt π) :: r, v :: vs, [], ys, k, cs, hY, hG, hl, ht, e => by simp [gathF] at e
  | some (.pt π) :: r, v :: vs, u :: Y, ys, k, cs, hY, hG, hl, ht, e => by
    simp only [List.map_cons, gathF] at e
    split at e
    · rename_i eπ
      subst eπ
      cases hY with
      | @cons y ys' _ _ hu hY =>
        split at e
        · rename_i a hd c0 eu
          split at e
          · rename_i cs1 e1
            cases e
            obtain ⟨cs', a1, a2, a3⟩ := gath_ok r vs Y ys' (k + 1) cs1 hY (fun j x hj => by have := hG (j + 1) x (by simpa using hj); rw [show k + 1 + j = k + (j + 1) by omega]; exact this) (by simpa using hl) (fun i s h => by simpa using ht (i + 1) s (by simpa using h)) e1
            obtain ⟨v', h1, h2⟩ := ht 0 (.pt [k]) rfl
            simp at h1; subst h1
            have h2 : pv G [k] = some v := h2
            have hg := hG 0 u rfl
            simp only [Nat.add_zero] at hg
            have hv : v = y := by
              unfold pv at h2
              simp only [gget, hg, TL.get] at h2
              cases u with
              | un => cases eu
              | py => cases eu
              | nd p hh c =>
                simp [TL.get, lref] at h2
                cases hu
                exact h2.symm
            subst hv
            exact ⟨u :: cs', by simp [eu, a1], .cons hu a2, by simp [addrsAll, a3]⟩
          · cases e
        · cases e
    · cases e
theorem allPy_ok {B : Hp} {G : List LT} : ∀ (tms : List (Option Sv)) (vs : List V) (ds : List PyData), vs.length = tms.length → (∀ (i : Nat) (s : Sv), tms[i]? = some (some s) → ∃ v, vs[i]? = some v ∧ SvAt K B G v s) → allPy tms = some ds → DpAll K B vs ds
  | [], vs, ds, hl, ht, e => by
    have : vs = [] := List.length_eq_zero_iff.mp (by simpa using hl)
    subst this
    simp only [allPy, Option.some.injEq] at e
    subst e
    exact .nil
  | none :: r, vs, ds, hl, ht, e => by simp [allPy] at e
  | some (.at _) :: r, vs, ds, hl, ht, e => by simp [allPy] at e
  | some (.pt _) :: r, vs, ds, hl, ht, e => by simp [allPy] at e
  | some (.py d) :: r, [], ds, hl, ht, e => by simp at hl
  | some (.py d) :: r, v :: vs, ds, hl, ht, e => by
    simp only [allPy] at e
    split at e
    · rename_i ds1 e1
      cases e
      obtain ⟨v', h1, h2⟩ := ht 0 (.py d) rfl
      simp at h1; subst h1
      exact .cons h2 (allPy_ok r vs ds1 (by simpa using hl) (fun i s h => by simpa using ht (i + 1) s (by simpa using h)) e1)
    · cases e
variable {B F H : Hp} {ul us vs : List V} {tv0 : List V} {σ : L2.St} {ρ : Rh} {G : List LT} {l0 : Nat}
theorem pop_n (r : Rg K cl B F H ul σ (tv0 ++ vs) ρ G us) (hn : vs.length = n) : Rg K cl B F H ul σ tv0 (popN n ρ) G us := by
  obtain ⟨e, _, _⟩ := last_tm r hn
  refine ⟨r.er, r.rl, r.bs, r.le, r.ul, r.sl, ?_⟩
  have a := r.tm
  rw [List.map_append] at a
  have a := a.left
  rw [List.length_map] at a
  show SlAt K B G (tv0.map some) (ρ.tm.take (ρ.tm.length - n))
  rw [e]; exact a
/-- the last n of tm become the children of a new root -/
theorem disp_ok {cs : List T} {h : Hd} (r : Rg K cl B F H ul σ (tv0 ++ vs) ρ G us) (hn : vs.length = n) (hb : ρ.bs ≤ l0) (hl : l0 ≤ ρ.g.length) (e : gathF (ρ.tm.drop (ρ.tm.length - n)) l0 (ρ.g.drop l0) = some cs) :
    ∃ (G2 : List LT) (us2 : List V), (∀ p o, H p = none → h.own = true → OwnO o → Node K cl B (upd H p o) p h vs → ∃ G', Rg K cl B F (upd H p o) ul σ tv0 (dispF n l0 h cs ρ) G' (us2 ++ [.ref p])) ∧
      (∀ p, H p = none → h = .tup → ∃ G', Rg K cl (upd B p (.tup vs)) F (upd H p (.tup vs)) ul σ tv0 (dispF n l0 h cs ρ) G' (us2 ++ [.ref p])) := by
  obtain ⟨t1, t2, t3⟩ := last_tm r hn
  have hus := r.ul_
  have hgl := r.gl
  have hlG : l0 ≤ G.length := by rw [← hgl]; exact hl
  have eG : G = G.take l0 ++ G.drop l0 := (List.take_append_drop l0 G).symm
  have eU : us = us.take l0 ++ us.drop l0 := (List.take_append_drop l0 us).symm
  have rl := r.rl
  rw [eG, eU] at rl
  have hlen : (us.take l0).length = (G.take l0).length := by rw [List.length_take, List.length_take, hus]
  obtain ⟨us', ws', z1, z2, z3⟩ := LtAll.split rl.at_
  have z4 : us' = us.take l0 := (List.append_inj_left z1 (by rw [hlen, z2.length])).symm
  subst z4
  have z5 : ws' = us.drop l0 := (List.append_cancel_left z1).symm
  subst z5
  have e' : gathF (ρ.tm.drop (ρ.tm.length - n)) l0 ((G.drop l0).map TL.er) = some cs := by
    rw [List.map_drop, r.er]; exact e
  obtain ⟨cs', c1, c2, c3⟩ := gath_ok (G := G) _ vs (G.drop l0) (us.drop l0) l0 cs z3 (fun j u hj => by rw [List.getElem?_drop] at hj; exact hj) t2 t3 e'
  have r2 : Rl K cl B F H (G.take l0 ++ cs') (us.take l0 ++ vs) := by
    refine rl.re (z2.append c2) ?_ fun q hq => ?_
    · have n := rl.nod
      rw [addrsAll_append] at n ⊢
      rw [c3]; exact n
    · rw [addrsAll_append] at hq ⊢
      rw [c3] at hq; exact hq
  have lt : (G.take l0).length = l0 := by rw [List.length_take]; omega
  have fin : ∀ {B' H' : Hp} {p : Addr}, Ex B B' → Rl K cl B' F H' (G.take l0 ++ [.nd p h cs']) (us.take l0 ++ [.ref p]) → Rg K cl B' F H' ul σ tv0 (dispF n l0 h cs ρ) (G.take l0 ++ [.nd p h cs']) (us.take l0 ++ [.ref p]) := fun {B' H' p} kb rf => by
    have key : ∀ π v, (fun π => !headLt l0 π) π = false → pv G π = some v → pv (G.take l0 ++ [TL.nd p h cs']) π = some v := fun π v h1 h2 => by
      have h1 : headLt l0 π = true := by simpa using h1
      rw [pv_app_lt h1 (by omega), pv_take h1]; exact h2
    refine ⟨?_, rf, r.bs, ?_, ?_, r.sl.mask kb key, ?_⟩
    · show _ = ρ.g.take l0 ++ [.nd () h cs]
      rw [List.map_append, List.map_take, r.er]
      simp [TL.er, erAll_map, c1]
    · show ρ.bs ≤ _
      rw [List.length_append, lt]; omega
    · have h1 := r.ul
      have h2 := r.bs
      rw [List.drop_append_of_le_length (by rw [List.length_take]; omega), List.take_append_of_le_length (by rw [List.length_drop, List.length_take]; omega), List.drop_take, List.take_take]
      rw [show min ul.length (l0 - σ.length) = ul.length by omega]
      exact h1
    · have a := r.tm
      rw [List.map_append] at a
      have a := a.left
      rw [List.length_map] at a
      show SlAt K B' _ (tv0.map some) (msk _ (ρ.tm.take (ρ.tm.length - n)))
      rw [t1]
      exact a.mask kb key
  refine ⟨G.take l0, us.take l0, fun p o hp ho own hn' => ⟨_, fin (Evl.Ex.refl B) (r2.pack hlen hp ho own hn')⟩, fun p hp hh => ?_⟩
  subst hh
  exact ⟨_, fin (Evl.Ex.new (free_of r2.exB hp)) (r2.packT hlen hp)⟩
theorem fv_tup (ha : Fa K cl W n tr ga) : Fv K cl W (tTup tr) (fTup n ga) := fun B F H ul σ tv ρ G us r Q p => by
  refine ha B F H ul σ tv ρ G us r _ ?_
  unfold fTup at p
  split at p
  · rename_i ρ1 e
    rw [e]
    intro vs B1 H1 G1 us1 hn k1 r1
    obtain ⟨t1, t2, t3⟩ := last_tm r1 hn
    split at p
    · rename_i ds ed
      split at p
      · rename_i hn2
        have a := allPy_ok _ _ _ t2 t3 ed
        refine ⟨Nat.le_trans (by rw [hn]; exact hn2) (by decide), fun l hq => ?_⟩
        have w := Gw.nw (o := .tup vs) r1.rl.exB hq
        exact p (.ref l) _ _ _ _ (k1.trans (w.kp r1.rl.exF)) ((pop_n r1 hn).grow w) (.tup (SqT.of upd_same) (DpAll.mono w.b _ _ a))
      · exact p.elim
    · split at p
      · rename_i hc
        obtain ⟨hc1, hc2, hc3⟩ := hc
        split at p
        · rename_i cs ec
          obtain ⟨G2, us2, _, hT⟩ := disp_ok (h := .tup) r1 hn hc2 hc1 ec
          refine ⟨Nat.le_trans (by rw [hn]; exact hc3) (by decide), fun l hq => ?_⟩
          obtain ⟨G', r2⟩ := hT l hq rfl
          have w := Gw.nw (o := .tup vs) r1.rl.exB hq
          exact p (.ref l) _ _ _ _ (k1.trans (w.kp r1.rl.exF)) r2 (by show (us2 ++ [V.ref l]).getLast? = _; simp)
        · exact p.elim
      · exact p.elim
  · exact p.elim
theorem fv_lst (ha : Fa K cl W n tr ga) : Fv K cl W (tLst tr) (fLst n ga) := fun B F H ul σ tv ρ G us r Q p => by
  refine ha B F H ul σ tv ρ G us r _ ?_
  unfold fLst at p
  split at p
  · rename_i ρ1 e
    rw [e]
    intro vs B1 H1 G1 us1 hn k1 r1
    split at p
    · rename_i hc
      obtain ⟨hc1, hc2, hc3⟩ := hc
      split at p
      · rename_i cs ec
        obtain ⟨G2, us2, hO, _⟩ := disp_ok (h := .lst) r1 hn hc2 hc1 ec
        refine ⟨Nat.le_trans (by rw [hn]; exact hc3) (by decide), fun l hq => ?_⟩
        obtain ⟨G', r2⟩ := hO l (.lst vs) hq rfl (.inl ⟨_, rfl⟩) ⟨free_of r1.rl.exB hq, upd_same⟩
        exact p (.ref l) _ _ _ _ k1 r2 (by show (us2 ++ [V.ref l]).getLast? = _; simp)
      · exact p.elim
    · exact p.elim
  · exact p.elim
/-! ### {k: v, ..} -/
def FpP (K : PySem.W.Frag) (cl : Kl) (B F : Hp) (ul : List V) (σ : L2.St) (tv : List V) (ks : List Key) (Q : List (V × V) → Hp → Prop) : Option Rh → Prop
  | some ρ => ∀ vs B' H' G us, vs.length = ks.length → Kp F B B' → Rg K cl B' F H' ul σ (tv ++ vs) ρ G us → Q ((ks.map kV).zip vs) H'
  | none => False
def Fp (K : PySem.W.Frag) (cl : Kl) (W : WX) (trs : List (TE × TE)) (ks : List Key) (f : Rh → Option Rh) : Prop := ∀ (B F H : Hp) (ul : List V) (σ : L2.St) (tv : List V) (ρ : Rh) (G : List LT) (us : List V), Rg K cl B F H ul σ tv ρ G us →
  ∀ Q : List (V × V) → Hp → Prop, FpP K cl B F ul σ tv ks Q (f ρ) → tPairs trs σ H Q
theorem fp_no : Fp K cl W [] [] gNo := fun B F H ul σ tv ρ G us r Q p => p [] B H G us rfl (Kp.refl F B) (by rw [List.append_nil]; exact r)
theorem FpP.imp {B B1 F : Hp} {ul tv : List V} {σ : L2.St} {ks : List Key} {Q : List (V × V) → Hp → Prop} (k : Kp F B B1) : ∀ {o : Option Rh}, FpP K cl B F ul σ tv ks Q o → FpP K cl B1 F ul σ tv ks Q o
  | some ρ, h => fun vs B' H' G us hn k' => h vs B' H' G us hn (k.trans k')
  | none, h => h
theorem fp_co {k : Key} {ks : List Key} {trs : List (TE × TE)} {fv : Rh → Option Ev} (h : Fv K cl W te fv) (hr : Fp K cl W trs ks ga) : Fp K cl W ((tC (kV k), te) :: trs) (k :: ks) (gCo fv ga) := fun B F H ul σ tv ρ G us r Q p => by
  refine h B F H ul σ tv ρ G us r _ ?_
  unfold gCo at p
  split at p
  · rename_i x ρ1 e
    rw [e]
    intro v B1 H1 G1 us1 k1 r1 hv
    split at p
    · rename_i ρ2 e2
      have r2 := push_ok r1 hv e2
      refine hr B1 F H1 ul σ _ ρ2 G1 us1 r2 _ ?_
      have p := FpP.imp k1 p
      cases e3 : ga ρ2 with
      | none => rw [e3] at p; exact p.elim
      | some ρ3 =>
        rw [e3] at p
        intro vs B2 H2 G2 us2 hn k2 r3
        have := p (v :: vs) B2 H2 G2 us2 (by simp [hn]) k2 (by rw [show tv ++ v :: vs = tv ++ [v] ++ vs by simp]; exact r3)
        simpa using this
    · exact p.elim
  · exact p.elim
theorem merge_new : ∀ (ks : List Key) (vs : List V) (ak : List Key) (av : List V), ks.length = vs.length → ak.length = av.length → (ak ++ ks).Nodup → mergeK (ak.zip av) (ks.zip vs) = (ak ++ ks).zip (av ++ vs)
  | [], vs, ak, av, h, _, _ => by
    have : vs = [] := List.length_eq_zero_iff.mp (by simpa using h.symm)
    subst this
    simp [mergeK]
  | k :: ks, [], ak, av, h, _, _ => by simp at h
  | k :: ks, v :: vs, ak, av, h, ha, n => by
    have nk : ixK ak k = none := by
      cases e : ixK ak k with
      | none => rfl
      | some i =>
        have := ixK_mem e
        have hm : k ∈ ak := List.mem_of_getElem? this
        exact absurd rfl ((List.nodup_append.mp n).2.2 k hm k (by simp))
    have ih := merge_new ks vs (ak ++ [k]) (av ++ [v]) (by simpa using h) (by simp [ha]) (by simpa using n)
    unfold mergeK at ih ⊢
    rw [List.zip_cons_cons, List.foldl_cons, putK_new nk ha, ih]
    simp
theorem zip_keys : ∀ (ks : List Key) (vs : List V), (ks.map kV).zip vs = (ks.zip vs).map fun kv => (kV kv.1, kv.2)
  | [], _ => rfl
  | _ :: _, [] => rfl
  | k :: ks, v :: vs => by simp [zip_keys ks vs]
theorem gput_end {G : List LT} {u v : LT} : gput (G ++ [u]) [G.length] v = G ++ [v] := by
  simp [gput, TL.put]
theorem fv_dct {trs : List (TE × TE)} {ks : List Key} (hp : Fp K cl W trs ks ga) : Fv K cl W (tDisp trs) (fDct ks ga) := fun B F H ul σ tv ρ G us r Q p => by
  intro pD hD
  have own0 : OwnO (.dK []) := .inr (.inl ⟨_, rfl⟩)
  have w0 := Gw.ow r.rl.exB hD own0
  have rN : Rl K cl B F (upd H pD (.dK [])) (G ++ [.nd pD (.dct []) []]) (us ++ [.ref pD]) := by
    have : Rl K cl B F H (G ++ []) (us ++ []) := by simpa using r.rl
    exact this.pack (h := .dct []) r.ul_ hD rfl own0 ⟨free_of r.rl.exB hD, rfl, List.nodup_nil, upd_same⟩
  have r0 := (r.addRoot rN (Evl.Ex.refl _))
  have r0p : Rg K cl B F (upd H pD (.dK [])) ul σ (tv ++ [.ref pD]) { ρ with g := ρ.g ++ [.nd () (.dct []) []], tm := ρ.tm ++ [some (.pt [ρ.g.length])] } (G ++ [.nd pD (.dct []) []]) (us ++ [.ref pD]) := by
    refine push_ok (x := .own) r0 (by show (us ++ [V.ref pD]).getLast? = _; simp) ?_
    simp [push, TL.er, erAll]
  refine hp B F _ ul σ _ _ _ _ r0p _ ?_
  unfold fDct at p
  split at p
  · rename_i ρ1 e
    rw [e]
    intro vs B1 H1 G1 us1 hn k1 r1
    split at p
    · rename_i hc
      obtain ⟨hc1, hc2, hc3, hc4⟩ := hc
      split at p
      · rename_i π cs et eg ec
        split at p
        · rename_i eπ
          subst eπ
          have rp := pop_n r1 hn
          have hpv := top_ok rp (show topPt (popN ks.length ρ1) = some [ρ.g.length] by unfold topPt popN; rw [et])
          obtain ⟨t1, t2, t3⟩ := last_tm r1 hn
          have hus := r1.ul_
          have hgl := r1.gl
          have hG : G1[ρ.g.length]? = some (.nd pD (.dct []) []) := by
            rw [← r1.er, List.getElem?_map] at eg
            cases eu : G1[ρ.g.length]? with
            | none => rw [eu] at eg; cases eg
            | some u =>
              rw [eu] at eg
              unfold pv at hpv
              simp only [gget, eu] at hpv
              cases u with
              | un => cases eg
              | py => cases eg
              | nd q h c =>
                simp only [Option.map_some, TL.er, Option.some.injEq, TL.nd.injEq] at eg
                obtain ⟨_, rfl, ec⟩ := eg
                simp [TL.get, lref] at hpv
                subst hpv
                cases c with
                | nil => rfl
                | cons => simp [erAll] at ec
          have hlt : ρ.g.length < G1.length := (List.getElem?_eq_some_iff.mp hG).1
          have eT : G1.take (ρ.g.length + 1) = G1.take ρ.g.length ++ [.nd pD (.dct []) []] := by
            rw [List.take_add_one, hG]; rfl
          have rl := r1.rl
          rw [(List.take_append_drop (ρ.g.length + 1) G1).symm, (List.take_append_drop (ρ.g.length + 1) us1).symm] at rl
          have hlen : (us1.take (ρ.g.length + 1)).length = (G1.take (ρ.g.length + 1)).length := by rw [List.length_take, List.length_take, hus]
          have rL := rl.left hlen
          obtain ⟨us', ws', z1, z2, z3⟩ := LtAll.split rl.at_
          have z4 : us' = us1.take (ρ.g.length + 1) := (List.append_inj_left z1 (by rw [hlen, z2.length])).symm
          subst z4
          have z5 : ws' = us1.drop (ρ.g.length + 1) := (List.append_cancel_left z1).symm
          subst z5
          have e' : gathF (ρ1.tm.drop (ρ1.tm.length - ks.length)) (ρ.g.length + 1) ((G1.drop (ρ.g.length + 1)).map TL.er) = some cs := by
            rw [List.map_drop, r1.er]; exact ec
          obtain ⟨cs', c1, c2, c3⟩ := gath_ok (G := G1) _ vs (G1.drop (ρ.g.length + 1)) (us1.drop (ρ.g.length + 1)) (ρ.g.length + 1) cs z3 (fun j u hj => by rw [List.getElem?_drop] at hj; exact hj) t2 t3 e'
          have nod := rl.nod
          rw [addrsAll_append] at nod
          have nod := List.nodup_append.mp nod
          have lt : (G1.take ρ.g.length).length = ρ.g.length := by rw [List.length_take]; omega
          have hnode : gget (G1.take (ρ.g.length + 1)) [ρ.g.length] = some (.nd pD (.dct []) []) := by
            rw [eT]
            simp only [gget]
            rw [List.getElem?_append_right (by omega), lt]
            simp [TL.get]
          obtain ⟨vs0, hn0, hc0⟩ := rL.node hnode
          obtain ⟨n1, n2, _, n4⟩ := hn0
          have ev0 : vs0 = [] := List.length_eq_zero_iff.mp (by simpa using n2.symm)
          subst ev0
          have rM := rL.mut (h' := .dct ks) (vs' := vs) (cs' := cs') (o := .dK (ks.zip vs)) hnode rfl rfl (.inr (.inl ⟨_, rfl⟩)) ⟨n1, hn.symm, hc3, upd_same⟩ c2 (by rw [c3]; exact nod.2.1) (fun q hq => .inr (by
            rw [c3] at hq
            exact ⟨fun z => nod.2.2 q z q hq rfl, rl.off q (by rw [addrsAll_append]; simp [hq])⟩))
          rw [eT] at rM
          have eGp : gput (G1.take ρ.g.length ++ [TL.nd pD (.dct []) []]) [ρ.g.length] (.nd pD (.dct ks) cs') = G1.take ρ.g.length ++ [.nd pD (.dct ks) cs'] := by
            conv => lhs; rw [show [ρ.g.length] = [(G1.take ρ.g.length).length] by rw [lt]]
            exact gput_end
          rw [eGp] at rM
          have eUs : us1.take (ρ.g.length + 1) = us1.take ρ.g.length ++ [.ref pD] := by
            have := z2
            rw [eT] at this
            obtain ⟨a1, a2, b1, b2, b3⟩ := LtAll.split this
            cases b3 with
            | cons x1 x2 =>
              cases x2
              cases x1
              have la : a1.length = ρ.g.length := by rw [b2.length, lt]
              rw [List.take_add_one] at b1
              have hx : us1[ρ.g.length]? = some (.ref pD) := by
                have h3 : (us1.take ρ.g.length ++ us1[ρ.g.length]?.toList)[ρ.g.length]? = (a1 ++ [V.ref pD])[ρ.g.length]? := by rw [b1]
                have l3 : (us1.take ρ.g.length).length = ρ.g.length := by rw [List.length_take]; omega
                rw [List.getElem?_append_right (by omega), List.getElem?_append_right (by omega), l3, la] at h3
                cases ex : us1[ρ.g.length]? with
                | none => rw [ex] at h3; simp at h3
                | some y => rw [ex] at h3; simpa using h3
              rw [List.take_add_one, hx]; rfl
          rw [eUs] at rM
          refine ⟨n4, ks.zip vs, ?_, by rw [List.length_zip]; exact Nat.le_trans (Nat.min_le_left _ _) hc4, ?_⟩
          · exact zip_keys ks vs
          · have em := merge_new ks vs [] [] hn.symm rfl (by simpa using hc3)
            simp only [List.nil_append, List.zip_nil_left] at em
            rw [em]
            have key : ∀ π v, (fun π => !headLt ρ.g.length π) π = false → pv G1 π = some v → pv (G1.take ρ.g.length ++ [TL.nd pD (.dct ks) cs']) π = some v := fun π v h1 h2 => by
              have h1 : headLt ρ.g.length π = true := by simpa using h1
              rw [pv_app_lt h1 (by omega), pv_take h1]; exact h2
            refine p (.ref pD) B1 _ _ _ k1 ⟨?_, rM, r1.bs, ?_, ?_, r1.sl.mask (Evl.Ex.refl _) key, ?_⟩ (by show (us1.take ρ.g.length ++ [V.ref pD]).getLast? = _; simp)
            · show _ = ρ1.g.take ρ.g.length ++ [.nd () (.dct ks) cs]
              rw [List.map_append, List.map_take, r1.er]
              simp [TL.er, erAll_map, c1]
            · show ρ1.bs ≤ _
              rw [List.length_append, lt]; omega
            · have h1 := r1.ul
              have h2 := r1.bs
              rw [List.drop_append_of_le_length (by rw [List.length_take]; omega), List.take_append_of_le_length (by rw [List.length_drop, List.length_take]; omega), List.drop_take, List.take_take]
              rw [show min ul.length (ρ.g.length - σ.length) = ul.length by omega]
              exact h1
            · have r1' : Rg K cl B1 F H1 ul σ (tv ++ ([.ref pD] ++ vs)) ρ1 G1 us1 := by rw [← List.append_assoc]; exact r1
              have hn' : ([V.ref pD] ++ vs).length = ks.length + 1 := by simp [hn]
              obtain ⟨u1, _, _⟩ := last_tm r1' hn'
              have a := r1'.tm
              rw [List.map_append] at a
              have a := a.left
              rw [List.length_map] at a
              show SlAt K B1 _ (tv.map some) (msk _ (ρ1.tm.take (ρ1.tm.length - (ks.length + 1))))
              rw [u1]
              exact a.mask (Evl.Ex.refl _) key
        · exact p.elim
      · exact p.elim
    · exact p.elim
  · exact p.elim
end
end Fx

/-! Dicts by tuples, d.get(k, x), names that take a new tuple's parts, comprehensions that change trees. -/
namespace Fx
open PySem L2
open PySem.Spec PyProof.Rows
open Evl (Ex)
variable {cl : Kl}
/-! ### d.get(k, x) -/
def vGet2 (f : Rh → Option Sv) (g : Rh → Option PyData) (h : Rh → Option Sv) (ρ : Rh) : Option Sv := match f ρ, g ρ, h ρ with
  | some (.pt π), some e, some x => match keyF e, gget ρ.g π with
    | some k, some (.nd _ (.dct ks) cs) => match ixK ks k with
      | some i => kidAt π cs i
      | none => some x
    | _, _ => none
  | _, _, _ => none
def keysF : List PyData → Option (List Key)
  | [] => some []
  | d :: r => match keyF d, keysF r with
    | some k, some ks => some (k :: ks)
    | _, _ => none
def kTup (f : Rh → Option (List PyData)) (ρ : Rh) : Option (List Key) := match f ρ with
  | some ds => if ds.length ≤ 1000 then keysF ds else none
  | none => none
/-- a new tuple that is a key -/
def Kt (K : PySem.W.Frag) (cl : Kl) (te : TE) (f : Rh → Option (List Key)) : Prop := ∀ (B F H : Hp) (ul : List V) (σ : L2.St) (tv : List V) (ρ : Rh) (G : List LT) (us : List V) (ks : List Key), Rg K cl B F H ul σ tv ρ G us → f ρ = some ks →
  ∀ Q : VK, (∀ b B' H', Gw B H B' H' → H' b = some (.tup (ks.map kV)) → Q (.ref b) H') → te σ H Q
def vGetT2 (f : Rh → Option Sv) (g : Rh → Option (List Key)) (h : Rh → Option Sv) (ρ : Rh) : Option Sv := match f ρ, g ρ, h ρ with
  | some (.pt π), some k, some x => match gget ρ.g π with
    | some (.nd _ (.ddt ks) cs) => match ixK ks k with
      | some i => kidAt π cs i
      | none => some x
    | _ => none
  | _, _, _ => none
def vGetT (f : Rh → Option Sv) (g : Rh → Option (List Key)) (ρ : Rh) : Option Sv := match f ρ, g ρ with
  | some (.pt π), some k => match gget ρ.g π with
    | some (.nd _ (.ddt ks) cs) => match ixK ks k with
      | some i => kidAt π cs i
      | none => none
    | _ => none
  | _, _ => none
/-- d[k] = e, k a new tuple -/
def sPuT (pf : Rh → Option Sv) (kf : Rh → Option (List Key)) (f : Rh → Option Ev) (ρ : Rh) : Option Oc := match f ρ with
  | some (.vl r ρ1) => match pf ρ1, kf ρ1 with
    | some (.pt π), some k => match childF r ρ1 with
      | some (c, ρ2) => match gget ρ2.g π with
        | some (.nd _ (.ddt ks) cs) => if ks.length < 100000 then match ixK ks k with
            | some i => some (.nx (putAt π (kidF π i) (.nd () (.ddt ks) (cs.set i c)) ρ2))
            | none => some (.nx (putAt π (fun _ => false) (.nd () (.ddt (ks ++ [k])) (cs ++ [c])) ρ2))
          else none
        | _ => none
      | none => none
    | _, _ => none
  | some (.ex C ρ1) => some (.ex C ρ1)
  | none => none
section
variable {K : PySem.W.Frag} {W : WX} {te ta tb tc tk tv to tx : TE} {tr : TA} {f g h pf : Rh → Option Sv} {df dg : Rh → Option PyData} {af : Rh → Option (List PyData)} {fe : Rh → Option Ev} {ga : Rh → Option Rh} {kf : Rh → Option (List Key)} {n m : Nat}
theorem keys_of {H : Hp} : ∀ {ds : List PyData} {ks : List Key} {vs : List V}, keysF ds = some ks → DpAll K H vs ds → vs = ks.map kV
  | [], ks, vs, h, a => by cases a; simp only [keysF, Option.some.injEq] at h; subst h; rfl
  | d :: r, ks, vs, h, a => by
    cases a with
    | cons x y =>
      simp only [keysF] at h
      split at h
      · rename_i k ks1 h1 h2
        cases h
        rw [key_val h1 x, keys_of h2 y]; rfl
      · cases h
theorem kt_tup (ha : Da K cl tr af) : Kt K cl (tTup tr) (kTup af) := fun B F H ul σ tv ρ G us ks r e Q q => by
  unfold kTup at e
  split at e
  · rename_i ds h1
    split at e
    · rename_i hl
      refine ha B F H ul σ tv ρ G us _ r h1 _ fun xs B1 H1 w1 hx => ⟨Nat.le_trans (by rw [DpAll.length hx]; exact hl) (by decide), fun p hp => ?_⟩
      have w2 := Gw.nw (o := .tup xs) (r.grow w1).rl.exB hp
      exact q p _ _ (w1.trans w2) (by rw [upd_same, keys_of e hx])
    · cases e
  · cases e
theorem pv_get2 (ha : Pv K cl ta f) (hb : Dv K cl tb dg) (hc : Pv K cl tc h) : Pv K cl (tDGet2 ta tb tc) (vGet2 f dg h) := fun B F H ul σ tv ρ G us s r e Q q => by
  unfold vGet2 at e
  split at e
  · rename_i π e' x h1 h2 h3
    refine ha B F H ul σ tv ρ G us _ r h1 _ fun v B1 H1 w1 hv => ?_
    have hv : pv G π = some v := hv
    have r1 := r.grow w1
    split at e
    · rename_i k _ ks cs hk hg
      obtain ⟨p, cs', g1, rfl, rfl⟩ := node_of r hg hv
      obtain ⟨vs1, hn1, _⟩ := r1.rl.node g1
      refine ⟨p, rfl, .inl ⟨_, .inl hn1.2.2.2⟩, hb B1 F H1 ul σ tv ρ G us _ r1 h2 _ fun y B2 H2 w2 hy => hc B2 F H2 ul σ tv ρ G us _ (r1.grow w2) h3 _ fun z B3 H3 w3 hz => ?_⟩
      have r3 := (r1.grow w2).grow w3
      obtain ⟨vs, hn, hcs⟩ := r3.rl.node g1
      have := key_val hk hy
      subst this
      refine ⟨_, DGet.k hn.2.2.2, ?_⟩
      split at e
      · rename_i i hi
        obtain ⟨u, h4, h5⟩ := kid_of r3 g1 hcs e
        rw [val_zip hi h4]
        exact q u B3 H3 (w1.trans (w2.trans w3)) h5
      · rename_i hi
        cases e
        rw [val_none hi]
        exact q z B3 H3 (w1.trans (w2.trans w3)) hz
    · cases e
  · cases e
theorem pv_getT2 (ha : Pv K cl ta f) (hb : Kt K cl tb kf) (hc : Pv K cl tc h) : Pv K cl (tDGet2 ta tb tc) (vGetT2 f kf h) := fun B F H ul σ tv ρ G us s r e Q q => by
  unfold vGetT2 at e
  split at e
  · rename_i π k x h1 h2 h3
    refine ha B F H ul σ tv ρ G us _ r h1 _ fun v B1 H1 w1 hv => ?_
    have hv : pv G π = some v := hv
    have r1 := r.grow w1
    split at e
    · rename_i _ ks cs hg
      obtain ⟨p, cs', g1, rfl, rfl⟩ := node_of r hg hv
      obtain ⟨vs1, hn1, _⟩ := r1.rl.node g1
      refine ⟨p, rfl, .inr ⟨_, .inl hn1.2.2.2⟩, hb B1 F H1 ul σ tv ρ G us _ r1 h2 _ fun b B2 H2 w2 hy => hc B2 F H2 ul σ tv ρ G us _ (r1.grow w2) h3 _ fun z B3 H3 w3 hz => ?_⟩
      have r3 := (r1.grow w2).grow w3
      obtain ⟨vs, hn, hcs⟩ := r3.rl.node g1
      refine ⟨_, DGet.t hn.2.2.2 (w3.h b _ hy), ?_⟩
      split at e
      · rename_i i hi
        obtain ⟨u, h4, h5⟩ := kid_of r3 g1 hcs e
        rw [val_zip hi h4]
        exact q u B3 H3 (w1.trans (w2.trans w3)) h5
      · rename_i hi
        cases e
        rw [val_none hi]
        exact q z B3 H3 (w1.trans (w2.trans w3)) hz
    · cases e
  · cases e
theorem pv_getT (ha : Pv K cl ta f) (hb : Kt K cl tb kf) : Pv K cl (tDGet ta tb) (vGetT f kf) := fun B F H ul σ tv ρ G us s r e Q q => by
  unfold vGetT at e
  split at e
  · rename_i π k h1 h2
    refine ha B F H ul σ tv ρ G us _ r h1 _ fun v B1 H1 w1 hv => hb B1 F H1 ul σ tv ρ G us _ (r.grow w1) h2 _ fun b B2 H2 w2 hy => ?_
    have hv : pv G π = some v := hv
    have r2 := (r.grow w1).grow w2
    split at e
    · rename_i _ ks cs hg
      obtain ⟨p, cs', g1, rfl, rfl⟩ := node_of r hg hv
      obtain ⟨vs, hn, hcs⟩ := r2.rl.node g1
      split at e
      · rename_i i hi
        obtain ⟨u, h4, h5⟩ := kid_of r2 g1 hcs e
        have hd : DGet H2 p (.ref b) (valV (ks.zip vs) k) := DGet.t hn.2.2.2 hy
        rw [val_zip hi h4] at hd
        exact ⟨p, u, rfl, hd, q u B2 H2 (w1.trans w2) h5⟩
      · cases e
    · cases e
  · cases e
theorem sx_puT (ho : Pv K cl ta pf) (hk : Kt K cl tk kf) (h : Fv K cl W te fe) : Sx K cl W (sDPut ta tk te) (sPuT pf kf fe) := fun B F H ul σ tv ρ G us D r p => by
  refine h B F H ul σ tv ρ G us r _ ?_
  unfold sPuT at p
  split at p
  · rename_i x ρ1 e
    rw [e]
    intro v B1 H1 G1 us1 k1 r1 hv
    split at p
    · rename_i π key eπ ek
      refine ho B1 F H1 ul σ tv ρ1 G1 us1 _ r1 eπ _ fun y B2 H2 w hy => hk B2 F H2 ul σ tv ρ1 G1 us1 _ (r1.grow w) ek _ fun b B3 H3 w3 hz => ?_
      have hy : pv G1 π = some y := hy
      have r2 := (r1.grow w).grow w3
      split at p
      · rename_i c ρ2 ec
        obtain ⟨G2, us2, u, r3, rfl, hu, nu, hq, hs⟩ := child_ok r2 (by
          cases x with
          | s s => exact SvAt.keep (w.b.trans w3.b) (fun _ _ => rfl) hv
          | own => exact hv) ec
        split at p
        · rename_i ks cs hg
          obtain ⟨u2, g1, g2⟩ := r3.get hg
          cases u2 with
          | un => cases g2
          | py => cases g2
          | nd q hd cs' =>
            simp only [TL.er, TL.nd.injEq] at g2
            obtain ⟨_, rfl, rfl⟩ := g2
            have ey : y = .ref q := by
              have := hs π (.ref q) (by unfold pv; rw [g1]; rfl)
              rw [hy] at this; cases this; rfl
            subst ey
            obtain ⟨vs, hn, hc⟩ := r3.rl.node g1
            obtain ⟨hB, hl, hnd, hh⟩ := hn
            split at p
            · rename_i hlen
              have hfl : (ks.zip vs).length < sizeLine := by rw [List.length_zip]; exact Nat.lt_of_le_of_lt (Nat.min_le_left _ _) (Nat.lt_of_lt_of_le hlen (by decide))
              have kk : Kp F B B3 := k1.trans ((w.trans w3).kp r1.rl.exF)
              split at p
              · rename_i k hk'
                have ep : HO.dT (putK (ks.zip vs) key v) = .dT (ks.zip (vs.set k v)) := by rw [putK_zip hk' hnd hl]
                obtain ⟨G', r4⟩ := set_ok (h' := .ddt ks) (vs := vs) (v := v) (u := u) (k := k) (o := .dT (putK (ks.zip vs) key v)) r3 g1 rfl rfl (.inr (.inr (.inl ⟨_, rfl⟩))) ⟨hB, by simp [hl], hnd, by rw [upd_same, ep]⟩ hc hu nu hq
                exact ⟨q, _, rfl, DPut.t hh hz hfl, p B3 _ σ G' us2 kk r4⟩
              · rename_i hk'
                have ep : HO.dT (putK (ks.zip vs) key v) = .dT ((ks ++ [key]).zip (vs ++ [v])) := by rw [putK_new hk' hl]
                have hnd2 : (ks ++ [key]).Nodup := List.nodup_append.mpr ⟨hnd, by simp, fun a ha b hb z => by simp at hb; subst hb z; exact ixK_not hk' ha⟩
                obtain ⟨G', r4⟩ := app_ok (h' := .ddt (ks ++ [key])) (vs := vs) (ws := [v]) (es := [u]) (o := .dT (putK (ks.zip vs) key v)) r3 g1 rfl rfl (.inr (.inr (.inl ⟨_, rfl⟩))) ⟨hB, by simp [hl], hnd2, by rw [upd_same, ep]⟩ hc (one_at hu) (by rw [one_addr]; exact nu) (by rw [one_addr]; exact hq)
                exact ⟨q, _, rfl, DPut.t hh hz hfl, p B3 _ σ G' us2 kk r4⟩
            · exact p.elim
        · exact p.elim
      · exact p.elim
    · exact p.elim
  · rename_i C' ρ1 e
    rw [e]
    exact fun B1 H1 G1 us1 k1 r1 => p B1 H1 σ G1 us1 k1 r1
  · exact p.elim
end
/-! ### a, b = e, e a new tuple of two trees -/
def sAt2 (i j : Nat) (f : Rh → Option Ev) (ρ : Rh) : Option Oc := match f ρ with
  | some (.vl .own ρ1) => match ρ1.g.getLast? with
    | some (.nd _ .tup [.nd a1 h1 c1, .nd a2 h2 c2]) => if ρ1.bs < ρ1.g.length ∧ i < ρ1.sl.length ∧ j < ρ1.sl.length ∧ i < ρ1.bs ∧ j < ρ1.bs ∧ i ≠ j then
        some (.nx { ρ1 with
          sl := ((msk (fun π => rootF i π || rootF j π || rootF (ρ1.g.length - 1) π) ρ1.sl).set i (some (.pt [i]))).set j (some (.pt [j])),
          tm := msk (fun π => rootF i π || rootF j π || rootF (ρ1.g.length - 1) π) ρ1.tm,
          g := (ρ1.g.dropLast.set j (.nd a2 h2 c2)).set i (.nd a1 h1 c1) }) else none
    | _ => none
  | some (.ex C ρ1) => some (.ex C ρ1)
  | _ => none
section
variable {K : PySem.W.Frag} {W : WX} {te : TE} {fe : Rh → Option Ev}
theorem sx_at2 (i j : Nat) (h : Fv K cl W te fe) : Sx K cl W (tAsg te (gTup K 2 (gCons (gName i) (gCons (gName j) gNil)))) (sAt2 i j fe) := fun B F H ul σ tv ρ G us D r p => by
  refine h B F H ul σ tv ρ G us r _ ?_
  unfold sAt2 at p
  split at p
  · rename_i ρ1 e
    rw [e]
    intro v B1 H1 G1 us1 k1 r1 hv
    split at p
    · rename_i a0 a1 h1 c1 a2 h2 c2 et
      split at p
      · rename_i hc
        obtain ⟨hb, hi, hj, hib, hjb, hij⟩ := hc
        obtain ⟨G0, u0, us0, rfl, rfl, eu, hl⟩ := r1.lastRoot hv et
        cases u0 with
        | un => cases eu
        | py => cases eu
        | nd q hd cs0 =>
          simp only [TL.er, TL.nd.injEq] at eu
          obtain ⟨_, rfl, eu⟩ := eu
          have two : ∃ x1 x2 : LT, cs0 = [x1, x2] := by
            cases cs0 with
            | nil => simp [erAll] at eu
            | cons x1 cs0 =>
              cases cs0 with
              | nil => simp [erAll] at eu
              | cons x2 cs0 =>
                cases cs0 with
                | nil => exact ⟨x1, x2, rfl⟩
                | cons => simp [erAll] at eu
          obtain ⟨x1, x2, rfl⟩ := two
          simp only [erAll, List.cons.injEq, and_true] at eu
          obtain ⟨e1, e2⟩ := eu
          obtain ⟨rl0, hu, nu, hq, _⟩ := r1.rl.last
          cases hu with
          | @nd _ _ _ vs hn hcs =>
            cases hcs with
            | @cons v1 _ _ _ y1 hcs =>
              cases hcs with
              | @cons v2 _ _ _ y2 hcs =>
                cases hcs
                have hn : SqT K B1 q [v1, v2] := hn
                have hil : i < σ.length := by rw [r1.sl.len]; exact hi
                have hjl : j < σ.length := by rw [r1.sl.len]; exact hj
                have hgl := r1.gl
                have hi0 : i < G0.length := by simp at hgl; omega
                have hj0 : j < G0.length := by simp at hgl; omega
                have rS : Rl K cl B1 F H1 (G0 ++ [x1] ++ [x2]) (us0 ++ [v1] ++ [v2]) := by
                  refine r1.rl.re ((rl0.at_.append (.cons y1 .nil)).append (.cons y2 .nil)) ?_ fun a ha => ?_
                  · have n := r1.rl.nod
                    simpa [addrsAll_append, addrsAll, TL.addrs, Hd.own] using n
                  · simpa [addrsAll_append, addrsAll, TL.addrs, Hd.own] using ha
                have rA := rS.setLast j
                rw [List.set_append_left _ _ hj0, List.set_append_left _ _ (by rw [hl]; exact hj0)] at rA
                have rB := rA.setLast i
                have key : ∀ π w, (fun π => rootF i π || rootF j π || rootF (ρ1.g.length - 1) π) π = false → pv (G0 ++ [TL.nd q .tup [x1, x2]]) π = some w → pv ((G0.set j x2).set i x1) π = some w := fun π w h1 h2 => by
                  simp only [Bool.or_eq_false_iff] at h1
                  cases π with
                  | nil => simp [pv, gget] at h2
                  | cons k s =>
                    have n1 : k ≠ i := fun z => by subst z; simp [rootF] at h1
                    have n2 : k ≠ j := fun z => by subst z; simp [rootF] at h1
                    have n3 : k ≠ G0.length := fun z => by subst z; simp [rootF, hgl] at h1
                    rw [pv_set fun ⟨t, z⟩ => by simp at z; exact n1 z.1.symm, pv_set fun ⟨t, z⟩ => by simp at z; exact n2 z.1.symm]
                    unfold pv at h2 ⊢
                    simp only [gget] at h2 ⊢
                    by_cases hlt : k < G0.length
                    · rw [List.getElem?_append_left hlt] at h2; exact h2
                    · rw [List.getElem?_eq_none (by simp; omega)] at h2; cases h2
                have sl1 := (r1.sl.mask (Evl.Ex.refl _) key)
                have lref1 : ∀ {v : V} {x : LT} {a : Unit} {h : Hd} {c : List T}, x.er = .nd a h c → LtAt K cl B1 H1 v x → lref x = some v := fun {v x a h c} e y => by
                  cases x with
                  | un => cases e
                  | py => cases e
                  | nd p hh cc => cases y; rfl
                have p1 : SvAt K B1 ((G0.set j x2).set i x1) v1 (.pt [i]) := by
                  show pv _ [i] = some v1
                  unfold pv
                  simp only [gget, List.getElem?_set_self (show i < (G0.set j x2).length by simpa using hi0)]
                  have := lref1 e1 y1
                  cases x1 <;> simpa [TL.get] using this
                have p2 : SvAt K B1 ((G0.set j x2).set i x1) v2 (.pt [j]) := by
                  show pv _ [j] = some v2
                  unfold pv
                  simp only [gget]
                  rw [List.getElem?_set_ne hij, List.getElem?_set_self hj0]
                  have := lref1 e2 y2
                  cases x2 <;> simpa [TL.get] using this
                refine ⟨q, _, rfl, Evl.ex_t r1.rl.exB hn, rfl, v1, _, rfl, v2, _, rfl, rfl, ?_⟩
                refine p B1 H1 _ ((G0.set j x2).set i x1) ((us0.set j v2).set i v1) k1 ⟨?_, rB, by simp only [List.length_set]; exact r1.bs, ?_, ?_, (sl1.set p1).set p2, r1.tm.mask (Evl.Ex.refl _) key⟩
                · show _ = (ρ1.g.dropLast.set j _).set i _
                  rw [List.map_set, List.map_set, e1, e2, ← r1.er]
                  simp
                · show ρ1.bs ≤ _
                  simp only [List.length_set]
                  simp at hgl; omega
                · have h1 := r1.ul
                  have h2 := r1.bs
                  have h3 := r1.le
                  have h4 : ρ1.g.length = G0.length + 1 := by rw [hgl]; simp
                  simp only [List.length_set]
                  rw [List.drop_append_of_le_length (by omega), List.take_append_of_le_length (by simp; omega)] at h1
                  rw [List.drop_set, if_pos hil, List.drop_set, if_pos hjl]
                  exact h1
      · exact p.elim
    · exact p.elim
  · rename_i C ρ1 e
    rw [e]
    exact fun B1 H1 G1 us1 k1 r1 => p B1 H1 σ G1 us1 k1 r1
  · exact p.elim
end
end Fx

namespace Fx
open PySem L2
open PySem.Spec PyProof.Rows
theorem hu65_of {A : Around} {k : Nat} (hr : Room k A) : A.units + 65 < cLine := by have := hr.un; omega
end Fx

namespace Mo
open PySem L2 Fx
def b_done : Rh → Option Oc :=
  (sSq (sIf (fB (dB eqF (vD (vIdx (vVar 1) (vPy (vC (.int 0))))) (vPy (vC (.str "get"))))) (sRt (fP (vTup (aCons (vPy (vVar 0)) (aCons (vPy (vVar 0)) aNil))))) sNx)
    (sSq (sAt (gTu 2 (gTC (gN 2) (gTC (gN 3) gT0))) (fP (vVar 1)))
    (sSq (sIf (fB (dB eqF (vD (vVar 2)) (vPy (vC (.str "set"))))) (sRt (fP (vTup (aCons (vPy (vVar 3)) (aCons (vPy (vVar 0)) aNil))))) sNx)
    (sRt (fP (vTup (aCons (vPy (vS (d2 addF (vD (vVar 0)) (vD (vVar 3))))) (aCons (vPy (vS (d2 addF (vD (vVar 0)) (vD (vVar 3))))) aNil))))))))
def S_done : Sem := runF 2 4 b_done
def b_known_at_first : Rh → Option Oc :=
  (sSq (sIf (fB (dB eqF (vD (vVar 0)) (vPy (vC (.int 0))))) (sRt (fP (vTup (aCons (vPy (vC (.str "here"))) (aCons (vPy (vC (.int 0))) (aCons (vPy (vC (.int 0))) (aCons (vPy (vTup aNil)) aNil))))))) sNx)
    (sRt (fP (vTup (aCons (vPy (vC (.str "gone"))) (aCons (vPy (vS (dNeg (vPy (vC (.int 1)))))) (aCons (vPy (vC (.int 0))) (aCons (vPy (vTup aNil)) aNil))))))))
def S_known_at_first : Sem := runF 1 1 b_known_at_first
def h_mark_of_1 : Rh → Option Oc :=
  (sIf (fB (dB eqF (vD (vIdx (vVar 2) (vPy (vC (.int 0))))) (vD (vVar 1)))) (sRt (fP (vVar 2))) sNx)
def b_mark_of : Rh → Option Oc :=
  (sSq (sFu (fP (vVar 0)) (gN 2) h_mark_of_1)
    (sRt (fP (vC .none))))
def S_mark_of : Sem := runF 2 3 b_mark_of
def h_with_mark_1 : Rh → Option (Hd × List PyData) :=
  (nLc [3] (iT (vPy (vVar 0))) (gN 3) (dB neF (vD (vIdx (vVar 3) (vPy (vC (.int 0))))) (vD (vIdx (vVar 1) (vPy (vC (.int 0)))))) (vVar 3))
def b_with_mark : Rh → Option Oc :=
  (sSq (sAs 2 (fP (vFz h_with_mark_1)))
    (sRt (fTupOf (fSort1 (vPy (vFz (nLst (aStar (vPy (vVar 2)) (aCons (vPy (vVar 1)) aNil)))))))))
def S_with_mark : Sem := runF 2 4 b_with_mark
def b_House_has : Rh → Option Oc :=
  (sRt (fP (vB (dB eqF (vD (vIdx (vGet (vFld "House" "known" (vVar 0)) (vD (vVar 1))) (vPy (vC (.int 0))))) (vPy (vC (.str "here")))))))
def S_House_has : SemR := runR 2 2 b_House_has
def b_House_parcel : Rh → Option Oc :=
  (sSq (sAt (gTu 3 (gTC (gN 3) (gTC (gN 4) (gTC (gN 5) gT0)))) (fP (vSlc (vVar 2) (oI (vPy (vC (.int 1)))) oNo)))
    (sRt (fP (vTup (aCons (vPy (vC (.str "parcel"))) (aCons (vPy (vS (d2 subF (vPy (vC (.int 1))) (vD (vFld "House" "number" (vVar 0)))))) (aCons (vPy (vVar 1)) (aCons (vPy (vS (d2 addF (vD (vVar 3)) (vPy (vC (.int 1)))))) (aCons (vPy (vVar 4)) (aCons (vPy (vVar 5)) aNil))))))))))
def S_House_parcel : SemR := runR 3 6 b_House_parcel
def b_House_lay_out : Rh → Option Oc :=
  (sAp (vFld "House" "laid_out" (vVar 0)) (fP (vVar 1)))
def S_House_lay_out : Sem := runF 2 2 b_House_lay_out
def h_House___init___1 : Rh → Option (Hd × List PyData) :=
  (nDc [3] (iLn (vD (vVar 2))) (gN 3) (vD (vVar 3)) (vS (dCall S_known_at_first (aCons (vD (vVar 1)) aNil))))
def b_House___init__ : Rh → Option Oc :=
  (sSq (sFl "House" "number" (vVar 0) (fP (vVar 1)))
    (sSq (sFl "House" "known" (vVar 0) (fN h_House___init___1))
    (sSq (sFl "House" "written" (vVar 0) (fN (nDcp (vFld "House" "known" (vVar 0)))))
    (sSq (sFl "House" "laid_out" (vVar 0) (fN (nLst aNil)))
    (sFl "House" "new_rows" (vVar 0) (fN (nLst aNil)))))))
def S_House___init__ : Sem := runF 3 4 b_House___init__
def h_House_owes_1 : Rh → Option (Hd × List PyData) :=
  (nLc [1, 2] (iIt (vFld "House" "known" (vVar 0))) (gTu 2 (gTC (gN 1) (gTC (gN 2) gT0))) (dB eqF (vD (vIdx (vVar 2) (vPy (vC (.int 0))))) (vPy (vC (.str "owed")))) (vVar 1))
def b_House_owes : Rh → Option Oc :=
  (sRt (fN (nLock (vFld "House" "known" (vVar 0)) h_House_owes_1)))
def S_House_owes : Sem := runF 1 3 b_House_owes
def b_House_do_wish : Rh → Option Oc :=
  (sSq (sAt (gTu 4 (gTC (gN 5) (gTC (gN 6) (gTC (gN 7) (gTC (gN 8) gT0))))) (fP (vGet (vFld "House" "known" (vVar 0)) (vD (vVar 3)))))
    (sSq (sAt (gTu 2 (gTC (gN 9) (gTC (gN 10) gT0))) (fP (vS (dCall S_done (aCons (vD (vVar 7)) (aCons (vD (vVar 4)) aNil))))))
    (sSq (sPu (vFld "House" "known" (vVar 0)) (vD (vVar 3)) (fTup 4 (gCo (fP (vVar 5)) (gCo (fP (vVar 6)) (gCo (fP (vVar 9)) (gCo (fZ (fCall S_with_mark 2 (gCo (fP (vVar 8)) (gCo (fP (vTup (aCons (vPy (vVar 1)) (aCons (vPy (vVar 2)) (aCons (vPy (vVar 10)) aNil))))) gNo)))) gNo))))))
    (sSq (sAp (vFld "House" "new_rows" (vVar 0)) (fP (vTup (aCons (vPy (vVar 1)) (aCons (vPy (vVar 2)) (aCons (vPy (vVar 3)) (aCons (vPy (vVar 4)) (aCons (vPy (vVar 10)) aNil))))))))
    (sRt (fP (vVar 10)))))))
def S_House_do_wish : Sem := runF 5 11 b_House_do_wish
def b_House_call_came : Rh → Option Oc :=
  (sSq (sAt (gTu 4 (gTC (gN 2) (gTC (gN 3) (gTC (gN 4) (gTC (gN 5) gT0))))) (fP (vSlc (vVar 1) (oI (vPy (vC (.int 2)))) oNo)))
    (sSq (sIf (fB (bNot (bV (vMethR "House" "has" S_House_has (vVar 0) (wCo (vVar 4) wNo))))) sRN sNx)
    (sSq (sAs 6 (fP (vS (dCall S_mark_of (aCons (vD (vIdx (vGet (vFld "House" "known" (vVar 0)) (vD (vVar 4))) (vPy (vC (.int 3))))) (aCons (vD (vVar 2)) aNil))))))
    (sSq (sIf (fB (bAnd (dB isntF (vD (vVar 6)) (vPy (vC .none))) (dB gtF (vD (vIdx (vVar 6) (vPy (vC (.int 1))))) (vD (vVar 3))))) sRN sNx)
    (sSq (sIf (fB (bOr (dB isF (vD (vVar 6)) (vPy (vC .none))) (dB ltF (vD (vIdx (vVar 6) (vPy (vC (.int 1))))) (vD (vVar 3))))) (sAs 6 (fZ (fTup 3 (gCo (fP (vVar 2)) (gCo (fP (vVar 3)) (gCo (fZ (fMeth "House" "do_wish" S_House_do_wish 4 (vVar 0) (gCo (fP (vVar 2)) (gCo (fP (vVar 3)) (gCo (fP (vVar 4)) (gCo (fP (vVar 5)) gNo)))))) gNo)))))) sNx)
    (sDr (fMeth "House" "lay_out" S_House_lay_out 1 (vVar 0) (gCo (fP (vTup (aCons (vPy (vC (.str "answer"))) (aCons (vPy (vVar 2)) (aCons (vPy (vVar 3)) (aCons (vPy (vIdx (vVar 6) (vPy (vC (.int 2))))) aNil)))))) gNo))))))))
def S_House_call_came : Sem := runF 2 7 b_House_call_came
def b_House_parcel_came : Rh → Option Oc :=
  (sSq (sAt (gTu 4 (gTC (gN 2) (gTC (gN 3) (gTC (gN 4) (gTC (gN 5) gT0))))) (fP (vSlc (vVar 1) (oI (vPy (vC (.int 2)))) oNo)))
    (sSq (sIf (fB (dB gtF (vD (vVar 3)) (vD (vIdx (vGet (vFld "House" "known" (vVar 0)) (vD (vVar 2))) (vPy (vC (.int 1))))))) (sPu (vFld "House" "known" (vVar 0)) (vD (vVar 2)) (fP (vTup (aCons (vPy (vC (.str "here"))) (aCons (vPy (vVar 3)) (aCons (vPy (vVar 4)) (aCons (vPy (vVar 5)) aNil))))))) sNx)
    (sDr (fMeth "House" "lay_out" S_House_lay_out 1 (vVar 0) (gCo (fP (vTup (aCons (vPy (vC (.str "taken"))) (aCons (vPy (vS (d2 subF (vPy (vC (.int 1))) (vD (vFld "House" "number" (vVar 0)))))) (aCons (vPy (vVar 2)) (aCons (vPy (vVar 3)) aNil)))))) gNo)))))
def S_House_parcel_came : Sem := runF 2 6 b_House_parcel_came
def b_House_taken_came : Rh → Option Oc :=
  (sSq (sAt (gTu 2 (gTC (gN 2) (gTC (gN 3) gT0))) (fP (vSlc (vVar 1) (oI (vPy (vC (.int 2)))) oNo)))
    (sSq (sAt (gTu 2 (gTC (gN 4) (gTC (gN 5) gT0))) (fP (vSlc (vGet (vFld "House" "known" (vVar 0)) (vD (vVar 2))) oNo (oI (vPy (vC (.int 2)))))))
    (sIf (fB (bAnd (dB eqF (vD (vVar 4)) (vPy (vC (.str "owed")))) (dB eqF (vD (vVar 3)) (d2 addF (vD (vVar 5)) (vPy (vC (.int 1))))))) (sPu (vFld "House" "known" (vVar 0)) (vD (vVar 2)) (fP (vTup (aCons (vPy (vC (.str "gone"))) (aCons (vPy (vVar 5)) (aCons (vPy (vC (.int 0))) (aCons (vPy (vTup aNil)) aNil))))))) sNx)))
def S_House_taken_came : Sem := runF 2 6 b_House_taken_came
def b_House_came : Rh → Option Oc :=
  (sIf (fB (dB eqF (vD (vIdx (vVar 1) (vPy (vC (.int 0))))) (vPy (vC (.str "call"))))) (sDr (fMeth "House" "call_came" S_House_call_came 1 (vVar 0) (gCo (fP (vVar 1)) gNo))) (sIf (fB (dB eqF (vD (vIdx (vVar 1) (vPy (vC (.int 0))))) (vPy (vC (.str "parcel"))))) (sDr (fMeth "House" "parcel_came" S_House_parcel_came 1 (vVar 0) (gCo (fP (vVar 1)) gNo))) (sIf (fB (dB eqF (vD (vIdx (vVar 1) (vPy (vC (.int 0))))) (vPy (vC (.str "taken"))))) (sDr (fMeth "House" "taken_came" S_House_taken_came 1 (vVar 0) (gCo (fP (vVar 1)) gNo))) sNx)))
def S_House_came : Sem := runF 2 2 b_House_came
def b_House_write : Rh → Option Oc :=
  (sSq (sAs 1 (fMv (vFld "House" "laid_out" (vVar 0))))
    (sSq (sAs 2 (fMv (vFld "House" "new_rows" (vVar 0))))
    (sSq (sFl "House" "written" (vVar 0) (fN (nDcp (vFld "House" "known" (vVar 0)))))
    (sSq (sFl "House" "laid_out" (vVar 0) (fN (nLst aNil)))
    (sSq (sFl "House" "new_rows" (vVar 0) (fN (nLst aNil)))
    (sRt (fTup 2 (gCo (fMv (vVar 1)) (gCo (fMv (vVar 2)) gNo)))))))))
def S_House_write : Sem := runF 1 3 b_House_write
def h_House_nudge_1 : Rh → Option (Hd × List PyData) :=
  (nLc [1, 2] (iIt (vFld "House" "written" (vVar 0))) (gTu 2 (gTC (gN 1) (gTC (gN 2) gT0))) (dB eqF (vD (vIdx (vVar 2) (vPy (vC (.int 0))))) (vPy (vC (.str "owed")))) (vMethR "House" "parcel" S_House_parcel (vVar 0) (wCo (vVar 1) (wCo (vVar 2) wNo))))
def b_House_nudge : Rh → Option Oc :=
  (sRt (fN (nLock (vFld "House" "written" (vVar 0)) h_House_nudge_1)))
def S_House_nudge : Sem := runF 1 3 b_House_nudge
def b_House_move : Rh → Option Oc :=
  (sSq (sIf (fB (bNot (bV (vMethR "House" "has" S_House_has (vVar 0) (wCo (vVar 1) wNo))))) (sRaise "NotHere") sNx)
    (sSq (sAt (gTu 3 (gTC (gN 2) (gTC (gN 3) (gTC (gN 4) gT0)))) (fP (vSlc (vGet (vFld "House" "known" (vVar 0)) (vD (vVar 1))) (oI (vPy (vC (.int 1)))) oNo)))
    (sSq (sPu (vFld "House" "known" (vVar 0)) (vD (vVar 1)) (fP (vTup (aCons (vPy (vC (.str "owed"))) (aCons (vPy (vVar 2)) (aCons (vPy (vVar 3)) (aCons (vPy (vVar 4)) aNil)))))))
    (sDr (fMeth "House" "lay_out" S_House_lay_out 1 (vVar 0) (gCo (fP (vMethR "House" "parcel" S_House_parcel (vVar 0) (wCo (vVar 1) (wCo (vGet (vFld "House" "known" (vVar 0)) (vD (vVar 1))) wNo)))) gNo))))))
def S_House_move : Sem := runF 2 5 b_House_move
def b_House_sleep : Rh → Option Oc :=
  (sSq (sFl "House" "known" (vVar 0) (fN (nDcp (vFld "House" "written" (vVar 0)))))
    (sSq (sFl "House" "laid_out" (vVar 0) (fN (nLst aNil)))
    (sFl "House" "new_rows" (vVar 0) (fN (nLst aNil)))))
def S_House_sleep : Sem := runF 1 1 b_House_sleep
end Mo

namespace Mo
open PySem L2 Fx
def b__law_cell_at : Rh → Option Oc :=
  (sSq (sIf (fB (dB ltF (vD (vVar 1)) (vD (vLen (vVar 0))))) (sRt (fP (vIdx (vVar 0) (vD (vVar 1))))) sNx)
    (sRt (fP (vC (.int 0)))))
def S__law_cell_at : Sem := runF 2 2 b__law_cell_at
def h__law_alike_1 (S : Sem) : Rh → Option (Hd × List PyData) :=
  (nLc [2] (iR (aCons (vD (vLen (vVar 1))) aNil)) (gN 2) bYes (vS (dCall S (aCons (vD (vIdx (vVar 0) (vD (vVar 2)))) (aCons (vD (vIdx (vVar 1) (vD (vVar 2)))) aNil)))))
def b__law_alike (S : Sem) : Rh → Option Oc :=
  (sSq (sIf (fB (bV (vIsi2 "list" "tuple" (vVar 1)))) (sSq (sIf (fB (bOr (dB neF (vD (vIsi "list" (vVar 1))) (vD (vIsi "list" (vVar 0)))) (dB neF (vD (vIsi "tuple" (vVar 1))) (vD (vIsi "tuple" (vVar 0)))))) (sRt (fP (vC (.bool false)))) sNx)
    (sSq (sIf (fB (dB neF (vD (vLen (vVar 0))) (vD (vLen (vVar 1))))) (sRt (fP (vC (.bool false)))) sNx)
    (sRt (fP (vS (d1 allF (vD (vFz (h__law_alike_1 S))))))))) sNx)
    (sSq (sIf (fB (bV (vIsi "str" (vVar 1)))) (sRt (fP (vB (bAnd (bV (vIsi "str" (vVar 0))) (bV (vB (dB eqF (vD (vVar 0)) (vD (vVar 1))))))))) sNx)
    (sRt (fP (vB (bAnd (bV (vIsi "int" (vVar 0))) (bV (vB (bAnd (bV (vB (bNot (bV (vIsi "bool" (vVar 0)))))) (bV (vB (dB eqF (vD (vVar 0)) (vD (vVar 1))))))))))))))
def SL__law_alike : Nat → Sem
  | 0 => fun _ _ => none
  | n + 1 => runF 2 3 (b__law_alike (SL__law_alike n))
def S__law_alike : Sem := SL__law_alike 6
def b__law_wish : Rh → Option Oc :=
  (sSq (sAs 1 (fP (vS (d2 subF (d2 modF (d2 fdivF (vD (vVar 0)) (vPy (vC (.int 6)))) (vPy (vC (.int 7)))) (vPy (vC (.int 3)))))))
    (sSq (sIf (fB (dB eqF (d2 modF (d2 fdivF (vD (vVar 0)) (vPy (vC (.int 3)))) (vPy (vC (.int 2)))) (vPy (vC (.int 1))))) (sAs 1 (fP (vS (d2 subF (d2 modF (d2 fdivF (vD (vVar 0)) (vPy (vC (.int 6)))) (d2 addF (d2 mulF (vPy (vC (.int 2))) (d2 powF (vPy (vC (.int 10))) (vPy (vC (.int 30))))) (vPy (vC (.int 1))))) (d2 powF (vPy (vC (.int 10))) (vPy (vC (.int 30)))))))) sNx)
    (sRt (fP (vIdx (vFz (nLst (aCons (vPy (vTup (aCons (vPy (vC (.str "get"))) aNil))) (aCons (vPy (vTup (aCons (vPy (vC (.str "set"))) (aCons (vPy (vVar 1)) aNil)))) (aCons (vPy (vTup (aCons (vPy (vC (.str "add"))) (aCons (vPy (vVar 1)) aNil)))) aNil))))) (d2 modF (vD (vVar 0)) (vPy (vC (.int 3)))))))))
def S__law_wish : Sem := runF 1 2 b__law_wish
def h__law_keys_1 : Rh → Option (Hd × List PyData) :=
  (nLc [7] (iR (aCons (vD (vVar 3)) aNil)) (gN 7) bYes (vIdx (vVar 1) (d2 modF (d2 addF (d2 fdivF (vD (vVar 5)) (vPy (vC (.int 26)))) (d2 mulF (vPy (vC (.int 5))) (vD (vVar 7)))) (vPy (vC (.int 26))))))
def h__law_keys_2 : Rh → Option (Hd × List PyData) :=
  (nLc [7] (iR (aCons (vD (vVar 2)) aNil)) (gN 7) bYes (vSlc (vS (d2 addF (vD (vVar 6)) (vPy (vC (.str "qwertyui"))))) oNo (oI (d2 addF (vD (vVar 7)) (vPy (vC (.int 1)))))))
def h__law_keys_3 : Rh → Option (Hd × List PyData) :=
  (nLc [7] (iR (aCons (vD (vVar 2)) aNil)) (gN 7) bYes (vS (d2 addF (d2 addF (vD (vSlc (vVar 6) oNo (oI (vD (vVar 4))))) (vD (vIdx (vVar 1) (d2 modF (d2 addF (vD (vVar 5)) (vD (vVar 7))) (vPy (vC (.int 26))))))) (vD (vSlc (vVar 6) (oI (vD (vVar 4))) oNo)))))
def b__law_keys : Rh → Option Oc :=
  (sSq (sAs 1 (fP (vC (.str "abcdefghijklmnopqrstuvwxyz"))))
    (sSq (sAs 2 (fP (vS (d2 addF (vPy (vC (.int 1))) (d2 modF (vD (vVar 0)) (vPy (vC (.int 6))))))))
    (sSq (sAs 3 (fP (vS (d2 modF (d2 fdivF (vD (vVar 0)) (vPy (vC (.int 6)))) (vPy (vC (.int 8)))))))
    (sSq (sAs 4 (fP (vS (d2 modF (d2 fdivF (vD (vVar 0)) (vPy (vC (.int 48)))) (d2 addF (vD (vVar 3)) (vPy (vC (.int 1))))))))
    (sSq (sAs 5 (fP (vS (d2 fdivF (vD (vVar 0)) (vPy (vC (.int 432)))))))
    (sSq (sAs 6 (fP (vS (d2 joinF (vPy (vC (.str ""))) (vD (vFz h__law_keys_1))))))
    (sSq (sIf (fB (dB eqF (d2 modF (vD (vVar 5)) (vPy (vC (.int 3)))) (vPy (vC (.int 1))))) (sRt (fN h__law_keys_2)) sNx)
    (sRt (fN h__law_keys_3)))))))))
def S__law_keys : Sem := runF 1 8 b__law_keys
def b__law_done : Rh → Option Oc :=
  (sSq (sIf (fB (dB eqF (vD (vIdx (vVar 1) (vPy (vC (.int 0))))) (vPy (vC (.str "get"))))) (sRt (fP (vTup (aCons (vPy (vVar 0)) (aCons (vPy (vVar 0)) aNil))))) sNx)
    (sSq (sIf (fB (dB eqF (vD (vIdx (vVar 1) (vPy (vC (.int 0))))) (vPy (vC (.str "set"))))) (sRt (fP (vTup (aCons (vPy (vIdx (vVar 1) (vPy (vC (.int 1))))) (aCons (vPy (vVar 0)) aNil))))) sNx)
    (sRt (fP (vTup (aCons (vPy (vS (d2 addF (vD (vVar 0)) (vD (vIdx (vVar 1) (vPy (vC (.int 1)))))))) (aCons (vPy (vS (d2 addF (vD (vVar 0)) (vD (vIdx (vVar 1) (vPy (vC (.int 1)))))))) aNil)))))))
def S__law_done : Sem := runF 2 2 b__law_done
end Mo

namespace L
open PySem L2 Fx Mo
def b__law_came : Rh → Option Oc :=
  (sSq (sAt (gTu 2 (gTC (gN 5) (gTC (gN 6) gT0))) (fP (vGetT2 (vGet (vVar 0) (vPy (vC (.str "marks")))) (kTup (aCons (vD (vVar 1)) (aCons (vD (vVar 3)) aNil))) (vTup (aCons (vPy (vC (.int 0))) (aCons (vPy (vC (.int 0))) aNil))))))
    (sSq (sIf (fB (dB gtF (vD (vVar 5)) (vD (vVar 2)))) sRN sNx)
    (sSq (sIf (fB (dB ltF (vD (vVar 5)) (vD (vVar 2)))) (sSq (sAt (gTu 2 (gTC (gN 7) (gTC (gN 6) gT0))) (fP (vS (dCall S__law_done (aCons (vD (vGet2 (vGet (vVar 0) (vPy (vC (.str "amounts")))) (vD (vVar 3)) (vC (.int 0)))) (aCons (vD (vVar 4)) aNil))))))
    (sSq (sPu (vGet (vVar 0) (vPy (vC (.str "amounts")))) (vD (vVar 3)) (fP (vVar 7)))
    (sSq (sPuT (vGet (vVar 0) (vPy (vC (.str "marks")))) (kTup (aCons (vD (vVar 1)) (aCons (vD (vVar 3)) aNil))) (fP (vTup (aCons (vPy (vVar 2)) (aCons (vPy (vVar 6)) aNil)))))
    (sAp (vGet (vVar 0) (vPy (vC (.str "rows")))) (fP (vTup (aCons (vPy (vVar 1)) (aCons (vPy (vVar 2)) (aCons (vPy (vVar 3)) (aCons (vPy (vVar 4)) (aCons (vPy (vVar 6)) aNil))))))))))) sNx)
    (sAp (vGet (vVar 0) (vPy (vC (.str "letters")))) (fP (vTup (aCons (vPy (vC (.str "answer"))) (aCons (vPy (vVar 1)) (aCons (vPy (vVar 2)) (aCons (vPy (vVar 6)) aNil))))))))))
def S__law_came : Sem := runF 5 8 b__law_came
def h_law_1 : Rh → Option Oc :=
  (sSq (sAs 7 (fP (vS (d2 modF (vD (vVar 6)) (vPy (vC (.int 6)))))))
    (sSq (sAs 8 (fP (vS (d2 fdivF (vD (vVar 6)) (vPy (vC (.int 6)))))))
    (sSq (sAs 9 (fP (vS (d2 maxF (vPy (vC (.int 1))) (d2 addF (vD (vIdx (vVar 5) (vD (vVar 7)))) (vD (vIdx (vFz (nLst (aCons (vPy (vC (.int 1))) (aCons (vPy (vC (.int 1))) (aCons (vPy (vC (.int 1))) (aCons (vPy (vC (.int 0))) (aCons (vPy (vC (.int 0))) (aCons (vPy (vS (dNeg (vPy (vC (.int 1)))))) (aCons (vPy (vS (d2 addF (vPy (vC (.int 2))) (d2 modF (d2 fdivF (vD (vVar 8)) (vPy (vC (.int 8)))) (vPy (vC (.int 8))))))) (aCons (vPy (vC (.int 1))) aNil)))))))))) (d2 modF (vD (vVar 8)) (vPy (vC (.int 8)))))))))))
    (sSq (sSL (vVar 5) (vD (vVar 7)) (fP (vS (d2 maxF (vD (vIdx (vVar 5) (vD (vVar 7)))) (vD (vVar 9))))))
    (sSq (sAs 10 (fP (vIdx (vVar 2) (d2 modF (d2 fdivF (vD (vVar 8)) (vPy (vC (.int 3)))) (vD (vLen (vVar 2)))))))
    (sSq (sAs 11 (fP (vS (dCall S__law_wish (aCons (d2 fdivF (d2 mulF (d2 addF (vD (vVar 6)) (vPy (vC (.int 5)))) (vPy (vC (.int 48271)))) (vPy (vC (.int 11)))) aNil)))))
    (sSq (sIf (fBo (fCmp2 isntF (fZ (fMeth "House" "came" S_House_came 1 (vVar 3) (gCo (fP (vTup (aCons (vPy (vC (.str "call"))) (aCons (vPy (vVar 1)) (aCons (vPy (vVar 7)) (aCons (vPy (vVar 9)) (aCons (vPy (vVar 10)) (aCons (vPy (vVar 11)) aNil)))))))) gNo))) (fP (vC .none)))) (sRt (fP (vC (.bool false)))) sNx)
    (sIf (fB (dB eqF (vD (vVar 1)) (vPy (vC (.int 0))))) (sDr (fCall S__law_came 5 (gCo (fP (vVar 4)) (gCo (fP (vVar 7)) (gCo (fP (vVar 9)) (gCo (fP (vVar 10)) (gCo (fP (vVar 11)) gNo))))))) sNx))))))))
def h_law_2 : Rh → Option Oc :=
  (sSq (sAs 12 (fP (vMethR "House" "has" S_House_has (vVar 3) (wCo (vVar 10) wNo))))
    (sIf (fB (bOr (bNot (bV (vIsi "bool" (vVar 12)))) (dB neF (vD (vVar 12)) (vD (vB (dB eqF (vD (vVar 1)) (vPy (vC (.int 0))))))))) (sRt (fP (vC (.bool false)))) sNx))
def b_law : Rh → Option Oc :=
  (sSq (sAs 1 (fP (vS (d1 intF (vD (vB (dB eqF (d2 modF (dCall S__law_cell_at (aCons (vD (vVar 0)) (aCons (vPy (vC (.int 0))) aNil))) (vPy (vC (.int 5)))) (vPy (vC (.int 4))))))))))
    (sSq (sAs 2 (fP (vFz (nCall S__law_keys (aCons (dCall S__law_cell_at (aCons (vD (vVar 0)) (aCons (vPy (vC (.int 1))) aNil))) aNil)))))
    (sSq (sAs 3 (fMake "House" S_House___init__ 2 (gCo (fP (vVar 1)) (gCo (fP (vFz (nCopy (vD (vVar 2))))) gNo))))
    (sSq (sAs 4 (fDct [(.inr "amounts"), (.inr "marks"), (.inr "rows"), (.inr "letters")] (gCo (fN nDct0) (gCo (fN nDdt0) (gCo (fN (nLst aNil)) (gCo (fN (nLst aNil)) gNo))))))
    (sSq (sAs 5 (fN (nLst (aCons (vPy (vC (.int 0))) (aCons (vPy (vC (.int 0))) (aCons (vPy (vC (.int 0))) (aCons (vPy (vC (.int 0))) (aCons (vPy (vC (.int 0))) (aCons (vPy (vC (.int 0))) aNil)))))))))
    (sSq (sFo (fP (vFz (nSlc (vVar 0) (oI (vPy (vC (.int 2)))) oNo))) (gN 6) h_law_1)
    (sSq (sFo (fP (vVar 2)) (gN 10) h_law_2)
    (sSq (sAs 12 (fMeth "House" "write" S_House_write 0 (vVar 3) gNo))
    (sSq (sIf (fOr (fB (bNot (bV (vS (dCall S__law_alike (aCons (vD (vVar 12)) (aCons (dTup (aCons (vD (vGet (vVar 4) (vPy (vC (.str "letters"))))) (aCons (vD (vGet (vVar 4) (vPy (vC (.str "rows"))))) aNil))) aNil))))))) (fBo (fCmp2 neF (fZ (fMeth "House" "owes" S_House_owes 0 (vVar 3) gNo)) (fP (vFz (nLst aNil)))))) (sRt (fP (vC (.bool false)))) sNx)
    (sSq (sAp (vIdx (vVar 12) (vPy (vC (.int 0)))) (fP (vC (.str "more"))))
    (sSq (sAp (vIdx (vVar 12) (vPy (vC (.int 1)))) (fP (vC (.str "more"))))
    (sRt (fAnd (fCall S__law_alike 2 (gCo (fZ (fMeth "House" "write" S_House_write 0 (vVar 3) gNo)) (gCo (fP (vTup (aCons (vPy (vFz (nLst aNil))) (aCons (vPy (vFz (nLst aNil))) aNil)))) gNo))) (fBo (fCmp2 eqF (fZ (fMeth "House" "nudge" S_House_nudge 0 (vVar 3) gNo)) (fP (vFz (nLst aNil))))))))))))))))))
def S_law : Sem := runF 1 13 b_law
end L

namespace L
open PySem L2 Fx
def top (i : Nat) : Stmt := PySem.Challenge.pw_movehouse_k04_calls_at_a_house.main.body.getD i (.Pass ⟨0, 0, 0, 0⟩)
abbrev s_done : Stmt := top 2
abbrev s_known_at_first : Stmt := top 7
abbrev s_mark_of : Stmt := top 8
abbrev s_with_mark : Stmt := top 9
abbrev s_House_has : Stmt := inClass (top 10) 1
abbrev s_House_parcel : Stmt := inClass (top 10) 9
abbrev s_House_lay_out : Stmt := inClass (top 10) 10
abbrev s_House___init__ : Stmt := inClass (top 10) 0
abbrev s_House_owes : Stmt := inClass (top 10) 2
abbrev s_House_do_wish : Stmt := inClass (top 10) 5
abbrev s_House_call_came : Stmt := inClass (top 10) 4
abbrev s_House_parcel_came : Stmt := inClass (top 10) 6
abbrev s_House_taken_came : Stmt := inClass (top 10) 7
abbrev s_House_came : Stmt := inClass (top 10) 3
abbrev s_House_write : Stmt := inClass (top 10) 11
abbrev s_House_nudge : Stmt := inClass (top 10) 13
abbrev s__law_cell_at : Stmt := top 12
abbrev s__law_alike : Stmt := top 13
abbrev s__law_wish : Stmt := top 14
abbrev s__law_keys : Stmt := top 15
abbrev s__law_done : Stmt := top 16
abbrev s__law_came : Stmt := top 17
abbrev s_law : Stmt := top 18
theorem sc_done : FnScope ["amount", "wish", "word", "n"] ["amount", "wish"] (defScope s_done) := ⟨rfl, rfl, rfl, by decide +kernel, rfl, by decide +kernel, by decide +kernel⟩
theorem sc_known_at_first : FnScope ["house"] ["house"] (defScope s_known_at_first) := ⟨rfl, rfl, rfl, by decide +kernel, rfl, by decide +kernel, by decide +kernel⟩
theorem sc_mark_of : FnScope ["marks", "caller", "mark"] ["marks", "caller"] (defScope s_mark_of) := ⟨rfl, rfl, rfl, by decide +kernel, rfl, by decide +kernel, by decide +kernel⟩
theorem sc_with_mark : FnScope ["marks", "new", "others", "mark"] ["marks", "new"] (defScope s_with_mark) := ⟨rfl, rfl, rfl, by decide +kernel, rfl, by decide +kernel, by decide +kernel⟩
theorem sc_House_has : FnScope ["self", "key"] ["self", "key"] (defScope s_House_has) := ⟨rfl, rfl, rfl, by decide +kernel, rfl, by decide +kernel, by decide +kernel⟩
theorem sc_House_parcel : FnScope ["self", "key", "facts", "turn", "amount", "marks"] ["self", "key", "facts"] (defScope s_House_parcel) := ⟨rfl, rfl, rfl, by decide +kernel, rfl, by decide +kernel, by decide +kernel⟩
theorem sc_House_lay_out : FnScope ["self", "letter"] ["self", "letter"] (defScope s_House_lay_out) := ⟨rfl, rfl, rfl, by decide +kernel, rfl, by decide +kernel, by decide +kernel⟩
theorem sc_House___init__ : FnScope ["self", "number", "keys", "key"] ["self", "number", "keys"] (defScope s_House___init__) := ⟨rfl, rfl, rfl, by decide +kernel, rfl, by decide +kernel, by decide +kernel⟩
theorem sc_House_owes : FnScope ["self", "key", "facts"] ["self"] (defScope s_House_owes) := ⟨rfl, rfl, rfl, by decide +kernel, rfl, by decide +kernel, by decide +kernel⟩
theorem sc_House_do_wish : FnScope ["self", "caller", "number", "key", "wish", "state", "turn", "old", "marks", "amount", "told"] ["self", "caller", "number", "key", "wish"] (defScope s_House_do_wish) := ⟨rfl, rfl, rfl, by decide +kernel, rfl, by decide +kernel, by decide +kernel⟩
theorem sc_House_call_came : FnScope ["self", "letter", "caller", "number", "key", "wish", "mark"] ["self", "letter"] (defScope s_House_call_came) := ⟨rfl, rfl, rfl, by decide +kernel, rfl, by decide +kernel, by decide +kernel⟩
theorem sc_House_parcel_came : FnScope ["self", "letter", "key", "turn", "amount", "marks"] ["self", "letter"] (defScope s_House_parcel_came) := ⟨rfl, rfl, rfl, by decide +kernel, rfl, by decide +kernel, by decide +kernel⟩
theorem sc_House_taken_came : FnScope ["self", "letter", "key", "turn", "state", "known_turn"] ["self", "letter"] (defScope s_House_taken_came) := ⟨rfl, rfl, rfl, by decide +kernel, rfl, by decide +kernel, by decide +kernel⟩
theorem sc_House_came : FnScope ["self", "letter"] ["self", "letter"] (defScope s_House_came) := ⟨rfl, rfl, rfl, by decide +kernel, rfl, by decide +kernel, by decide +kernel⟩
theorem sc_House_write : FnScope ["self", "posted", "rows"] ["self"] (defScope s_House_write) := ⟨rfl, rfl, rfl, by decide +kernel, rfl, by decide +kernel, by decide +kernel⟩
theorem sc_House_nudge : FnScope ["self", "key", "facts"] ["self"] (defScope s_House_nudge) := ⟨rfl, rfl, rfl, by decide +kernel, rfl, by decide +kernel, by decide +kernel⟩
theorem sc__law_cell_at : FnScope ["_law_script", "_law_k"] ["_law_script", "_law_k"] (defScope s__law_cell_at) := ⟨rfl, rfl, rfl, by decide +kernel, rfl, by decide +kernel, by decide +kernel⟩
theorem sc__law_alike : FnScope ["_law_found", "_law_due", "_law_k"] ["_law_found", "_law_due"] (defScope s__law_alike) := ⟨rfl, rfl, rfl, by decide +kernel, rfl, by decide +kernel, by decide +kernel⟩
theorem sc__law_wish : FnScope ["_law_cell", "_law_number"] ["_law_cell"] (defScope s__law_wish) := ⟨rfl, rfl, rfl, by decide +kernel, rfl, by decide +kernel, by decide +kernel⟩
theorem sc__law_keys : FnScope ["_law_cell", "_law_letters", "_law_many", "_law_size", "_law_at", "_law_turn", "_law_rest", "_law_k"] ["_law_cell"] (defScope s__law_keys) := ⟨rfl, rfl, rfl, by decide +kernel, rfl, by decide +kernel, by decide +kernel⟩
theorem sc__law_done : FnScope ["_law_amount", "_law_wish_here"] ["_law_amount", "_law_wish_here"] (defScope s__law_done) := ⟨rfl, rfl, rfl, by decide +kernel, rfl, by decide +kernel, by decide +kernel⟩
theorem sc__law_came : FnScope ["_law_own", "_law_caller", "_law_number", "_law_key", "_law_wish_here", "_law_last", "_law_told", "_law_amount"] ["_law_own", "_law_caller", "_law_number", "_law_key", "_law_wish_here"] (defScope s__law_came) := ⟨rfl, rfl, rfl, by decide +kernel, rfl, by decide +kernel, by decide +kernel⟩
theorem sc_law : FnScope ["_law_script", "_law_number", "_law_keys_here", "_law_house", "_law_own", "_law_last", "_law_cell", "_law_caller", "_law_more", "_law_count", "_law_key", "_law_wish_here", "_law_found"] ["_law_script"] (defScope s_law) := ⟨rfl, rfl, rfl, by decide +kernel, rfl, by decide +kernel, by decide +kernel⟩
structure Adr where
  cl : String → Addr
  f_done : Addr
  d_done : FuncData
  f_known_at_first : Addr
  d_known_at_first : FuncData
  f_mark_of : Addr
  d_mark_of : FuncData
  f_with_mark : Addr
  d_with_mark : FuncData
  f_House_has : Addr
  d_House_has : FuncData
  f_House_parcel : Addr
  d_House_parcel : FuncData
  f_House_lay_out : Addr
  d_House_lay_out : FuncData
  f_House___init__ : Addr
  d_House___init__ : FuncData
  f_House_owes : Addr
  d_House_owes : FuncData
  f_House_do_wish : Addr
  d_House_do_wish : FuncData
  f_House_call_came : Addr
  d_House_call_came : FuncData
  f_House_parcel_came : Addr
  d_House_parcel_came : FuncData
  f_House_taken_came : Addr
  d_House_taken_came : FuncData
  f_House_came : Addr
  d_House_came : FuncData
  f_House_write : Addr
  d_House_write : FuncData
  f_House_nudge : Addr
  d_House_nudge : FuncData
  f__law_cell_at : Addr
  d__law_cell_at : FuncData
  f__law_alike : Addr
  d__law_alike : FuncData
  f__law_wish : Addr
  d__law_wish : FuncData
  f__law_keys : Addr
  d__law_keys : FuncData
  f__law_done : Addr
  d__law_done : FuncData
  f__law_came : Addr
  d__law_came : FuncData
  f_law : Addr
  d_law : FuncData
  lc : Addr
  lP : Addr
abbrev Adr.tabs (A : Adr) : List (Addr × Str) := [(A.lP, ("with_mark" : Str) ++ ".<locals>." ++ "<lambda>")]
abbrev Adr.kl (A : Adr) : Kl := ⟨A.cl, A.tabs⟩
structure Txt (K : PySem.W.Frag) (mg : Str → Option Value) (A : Adr) : Prop where
  c_House : mg "House" = some (.ref (A.cl "House"))
  F_done : Fun K "done" "done" s_done A.f_done A.d_done
  B_done : Binds K A.d_done ["amount", "wish"] []
  m_done : mg "done" = some (.ref A.f_done)
  F_known_at_first : Fun K "known_at_first" "known_at_first" s_known_at_first A.f_known_at_first A.d_known_at_first
  B_known_at_first : Binds K A.d_known_at_first ["house"] []
  m_known_at_first : mg "known_at_first" = some (.ref A.f_known_at_first)
  F_mark_of : Fun K "mark_of" "mark_of" s_mark_of A.f_mark_of A.d_mark_of
  B_mark_of : Binds K A.d_mark_of ["marks", "caller"] []
  m_mark_of : mg "mark_of" = some (.ref A.f_mark_of)
  F_with_mark : Fun K "with_mark" "with_mark" s_with_mark A.f_with_mark A.d_with_mark
  B_with_mark : Binds K A.d_with_mark ["marks", "new"] []
  m_with_mark : mg "with_mark" = some (.ref A.f_with_mark)
  F_House_has : Fun K "has" "House.has" s_House_has A.f_House_has A.d_House_has
  B_House_has : Binds K A.d_House_has ["self", "key"] []
  M_House_has : Meth K (A.cl "House") "has" A.f_House_has
  F_House_parcel : Fun K "parcel" "House.parcel" s_House_parcel A.f_House_parcel A.d_House_parcel
  B_House_parcel : Binds K A.d_House_parcel ["self", "key", "facts"] []
  M_House_parcel : Meth K (A.cl "House") "parcel" A.f_House_parcel
  F_House_lay_out : Fun K "lay_out" "House.lay_out" s_House_lay_out A.f_House_lay_out A.d_House_lay_out
  B_House_lay_out : Binds K A.d_House_lay_out ["self", "letter"] []
  M_House_lay_out : Meth K (A.cl "House") "lay_out" A.f_House_lay_out
  F_House___init__ : Fun K "__init__" "House.__init__" s_House___init__ A.f_House___init__ A.d_House___init__
  B_House___init__ : Binds K A.d_House___init__ ["self", "number", "keys"] []
  F_House_owes : Fun K "owes" "House.owes" s_House_owes A.f_House_owes A.d_House_owes
  B_House_owes : Binds K A.d_House_owes ["self"] []
  M_House_owes : Meth K (A.cl "House") "owes" A.f_House_owes
  F_House_do_wish : Fun K "do_wish" "House.do_wish" s_House_do_wish A.f_House_do_wish A.d_House_do_wish
  B_House_do_wish : Binds K A.d_House_do_wish ["self", "caller", "number", "key", "wish"] []
  M_House_do_wish : Meth K (A.cl "House") "do_wish" A.f_House_do_wish
  F_House_call_came : Fun K "call_came" "House.call_came" s_House_call_came A.f_House_call_came A.d_House_call_came
  B_House_call_came : Binds K A.d_House_call_came ["self", "letter"] []
  M_House_call_came : Meth K (A.cl "House") "call_came" A.f_House_call_came
  F_House_parcel_came : Fun K "parcel_came" "House.parcel_came" s_House_parcel_came A.f_House_parcel_came A.d_House_parcel_came
  B_House_parcel_came : Binds K A.d_House_parcel_came ["self", "letter"] []
  M_House_parcel_came : Meth K (A.cl "House") "parcel_came" A.f_House_parcel_came
  F_House_taken_came : Fun K "taken_came" "House.taken_came" s_House_taken_came A.f_House_taken_came A.d_House_taken_came
  B_House_taken_came : Binds K A.d_House_taken_came ["self", "letter"] []
  M_House_taken_came : Meth K (A.cl "House") "taken_came" A.f_House_taken_came
  F_House_came : Fun K "came" "House.came" s_House_came A.f_House_came A.d_House_came
  B_House_came : Binds K A.d_House_came ["self", "letter"] []
  M_House_came : Meth K (A.cl "House") "came" A.f_House_came
  F_House_write : Fun K "write" "House.write" s_House_write A.f_House_write A.d_House_write
  B_House_write : Binds K A.d_House_write ["self"] []
  M_House_write : Meth K (A.cl "House") "write" A.f_House_write
  F_House_nudge : Fun K "nudge" "House.nudge" s_House_nudge A.f_House_nudge A.d_House_nudge
  B_House_nudge : Binds K A.d_House_nudge ["self"] []
  M_House_nudge : Meth K (A.cl "House") "nudge" A.f_House_nudge
  F__law_cell_at : Fun K "_law_cell_at" "_law_cell_at" s__law_cell_at A.f__law_cell_at A.d__law_cell_at
  B__law_cell_at : Binds K A.d__law_cell_at ["_law_script", "_law_k"] []
  m__law_cell_at : mg "_law_cell_at" = some (.ref A.f__law_cell_at)
  F__law_alike : Fun K "_law_alike" "_law_alike" s__law_alike A.f__law_alike A.d__law_alike
  B__law_alike : Binds K A.d__law_alike ["_law_found", "_law_due"] []
  m__law_alike : mg "_law_alike" = some (.ref A.f__law_alike)
  F__law_wish : Fun K "_law_wish" "_law_wish" s__law_wish A.f__law_wish A.d__law_wish
  B__law_wish : Binds K A.d__law_wish ["_law_cell"] []
  m__law_wish : mg "_law_wish" = some (.ref A.f__law_wish)
  F__law_keys : Fun K "_law_keys" "_law_keys" s__law_keys A.f__law_keys A.d__law_keys
  B__law_keys : Binds K A.d__law_keys ["_law_cell"] []
  m__law_keys : mg "_law_keys" = some (.ref A.f__law_keys)
  F__law_done : Fun K "_law_done" "_law_done" s__law_done A.f__law_done A.d__law_done
  B__law_done : Binds K A.d__law_done ["_law_amount", "_law_wish_here"] []
  m__law_done : mg "_law_done" = some (.ref A.f__law_done)
  F__law_came : Fun K "_law_came" "_law_came" s__law_came A.f__law_came A.d__law_came
  B__law_came : Binds K A.d__law_came ["_law_own", "_law_caller", "_law_number", "_law_key", "_law_wish_here"] []
  m__law_came : mg "_law_came" = some (.ref A.f__law_came)
  F_law : Fun K "law" "law" s_law A.f_law A.d_law
  B_law : Binds K A.d_law ["_law_script"] []
  m_law : mg "law" = some (.ref A.f_law)
  C_House : Cls K (A.cl "House")
  K_House : Mk K (A.cl "House") A.f_House___init__
  n_House_number : NoAttr K (A.cl "House") "number"
  n_House_known : NoAttr K (A.cl "House") "known"
  n_House_written : NoAttr K (A.cl "House") "written"
  n_House_laid_out : NoAttr K (A.cl "House") "laid_out"
  n_House_new_rows : NoAttr K (A.cl "House") "new_rows"
  b_all : mg "all" = none
  b_bool : mg "bool" = none
  b_dict : mg "dict" = none
  b_int : mg "int" = none
  b_isinstance : mg "isinstance" = none
  b_len : mg "len" = none
  b_list : mg "list" = none
  b_max : mg "max" = none
  b_range : mg "range" = none
  b_sorted : mg "sorted" = none
  b_str : mg "str" = none
  b_tuple : mg "tuple" = none
  g_HERE : ∃ t, mg "HERE" = some (.str "here" t)
  g_OWED : ∃ t, mg "OWED" = some (.str "owed" t)
  g_GONE : ∃ t, mg "GONE" = some (.str "gone" t)
  lam : A.d_with_mark.code = .ref A.lc
theorem all_mk {w : World} {K : PySem.W.Frag} {h : Heap} {mg : Str → Option Value} {fa : Addr} (X : K.In h) (G : h.Ns mainGlobals mg) (hfa : mg "law" = some (.ref fa))
    {c_House : Addr}
    {lc lP : Addr}
    {f1 : Addr} {od1 an1 : Option Addr} {sl1 : Array (Option Value)} {oc1 kV1 dc1 pm1 ct1 cd1 : Value}
    {f2 : Addr} {od2 an2 : Option Addr} {sl2 : Array (Option Value)} {oc2 kV2 dc2 pm2 ct2 cd2 : Value}
    {f3 : Addr} {od3 an3 : Option Addr} {sl3 : Array (Option Value)} {oc3 kV3 dc3 pm3 ct3 cd3 : Value}
    {f4 : Addr} {od4 an4 : Option Addr} {sl4 : Array (Option Value)} {oc4 kV4 dc4 pm4 ct4 : Value}
    {f5 : Addr} {od5 an5 : Option Addr} {sl5 : Array (Option Value)} {oc5 kV5 dc5 pm5 ct5 cd5 : Value}
    {f6 : Addr} {od6 an6 : Option Addr} {sl6 : Array (Option Value)} {oc6 kV6 dc6 pm6 ct6 cd6 : Value}
    {f7 : Addr} {od7 an7 : Option Addr} {sl7 : Array (Option Value)} {oc7 kV7 dc7 pm7 ct7 cd7 : Value}
    {f8 : Addr} {od8 an8 : Option Addr} {sl8 : Array (Option Value)} {oc8 kV8 dc8 pm8 ct8 cd8 : Value}
    {f9 : Addr} {od9 an9 : Option Addr} {sl9 : Array (Option Value)} {oc9 kV9 dc9 pm9 ct9 cd9 : Value}
    {f10 : Addr} {od10 an10 : Option Addr} {sl10 : Array (Option Value)} {oc10 kV10 dc10 pm10 ct10 cd10 : Value}
    {f11 : Addr} {od11 an11 : Option Addr} {sl11 : Array (Option Value)} {oc11 kV11 dc11 pm11 ct11 cd11 : Value}
    {f12 : Addr} {od12 an12 : Option Addr} {sl12 : Array (Option Value)} {oc12 kV12 dc12 pm12 ct12 cd12 : Value}
    {f13 : Addr} {od13 an13 : Option Addr} {sl13 : Array (Option Value)} {oc13 kV13 dc13 pm13 ct13 cd13 : Value}
    {f14 : Addr} {od14 an14 : Option Addr} {sl14 : Array (Option Value)} {oc14 kV14 dc14 pm14 ct14 cd14 : Value}
    {f15 : Addr} {od15 an15 : Option Addr} {sl15 : Array (Option Value)} {oc15 kV15 dc15 pm15 ct15 cd15 : Value}
    {f16 : Addr} {od16 an16 : Option Addr} {sl16 : Array (Option Value)} {oc16 kV16 dc16 pm16 ct16 cd16 : Value}
    {f17 : Addr} {od17 an17 : Option Addr} {sl17 : Array (Option Value)} {oc17 kV17 dc17 pm17 ct17 cd17 : Value}
    {f18 : Addr} {od18 an18 : Option Addr} {sl18 : Array (Option Value)} {oc18 kV18 dc18 pm18 ct18 cd18 : Value}
    {f19 : Addr} {od19 an19 : Option Addr} {sl19 : Array (Option Value)} {oc19 kV19 dc19 pm19 ct19 cd19 : Value}
    {f20 : Addr} {od20 an20 : Option Addr} {sl20 : Array (Option Value)} {oc20 kV20 dc20 pm20 ct20 cd20 : Value}
    {f21 : Addr} {od21 an21 : Option Addr} {sl21 : Array (Option Value)} {oc21 kV21 dc21 pm21 ct21 cd21 : Value}
    {f22 : Addr} {od22 an22 : Option Addr} {sl22 : Array (Option Value)} {oc22 kV22 dc22 pm22 ct22 cd22 : Value}
    {f23 : Addr} {od23 an23 : Option Addr} {sl23 : Array (Option Value)} {oc23 kV23 dc23 pm23 ct23 cd23 : Value}
    {t_HERE : Tok}
    {t_OWED : Tok}
    {t_GONE : Tok}
    (n_House : PySem.W.nsIn K mainGlobals "House" = some (some (.ref c_House)))
    (a1 : PySem.W.nsIn K mainGlobals "done" = some (some (.ref f1)))
    (l1 : K.lookup f1 = some ⟨oc1, od1, .func (PySem.W.fnOf "done" "done" (defArgs s_done) (defBody s_done) (defScope s_done) .none kV1 dc1 pm1 an1 cd1 ct1), sl1⟩)
    (c1 : PySem.W.codeIn K cd1 "done" = true)
    (k1 : PySem.W.keepIn K (.ref f1) = true)
    (a2 : PySem.W.nsIn K mainGlobals "known_at_first" = some (some (.ref f2)))
    (l2 : K.lookup f2 = some ⟨oc2, od2, .func (PySem.W.fnOf "known_at_first" "known_at_first" (defArgs s_known_at_first) (defBody s_known_at_first) (defScope s_known_at_first) .none kV2 dc2 pm2 an2 cd2 ct2), sl2⟩)
    (c2 : PySem.W.codeIn K cd2 "known_at_first" = true)
    (k2 : PySem.W.keepIn K (.ref f2) = true)
    (a3 : PySem.W.nsIn K mainGlobals "mark_of" = some (some (.ref f3)))
    (l3 : K.lookup f3 = some ⟨oc3, od3, .func (PySem.W.fnOf "mark_of" "mark_of" (defArgs s_mark_of) (defBody s_mark_of) (defScope s_mark_of) .none kV3 dc3 pm3 an3 cd3 ct3), sl3⟩)
    (c3 : PySem.W.codeIn K cd3 "mark_of" = true)
    (k3 : PySem.W.keepIn K (.ref f3) = true)
    (a4 : PySem.W.nsIn K mainGlobals "with_mark" = some (some (.ref f4)))
    (l4 : K.lookup f4 = some ⟨oc4, od4, .func (PySem.W.fnOf "with_mark" "with_mark" (defArgs s_with_mark) (defBody s_with_mark) (defScope s_with_mark) .none kV4 dc4 pm4 an4 (.ref lc) ct4), sl4⟩)
    (c4 : PySem.W.codeIn K (.ref lc) "with_mark" = true)
    (k4 : PySem.W.keepIn K (.ref f4) = true)
    (a5 : PySem.W.findIn K (.ref c_House) "has" = some (some (.ref f5)))
    (i5 : PySem.W.isFn K (.ref f5) = true)
    (l5 : K.lookup f5 = some ⟨oc5, od5, .func (PySem.W.fnOf "has" "House.has" (defArgs s_House_has) (defBody s_House_has) (defScope s_House_has) .none kV5 dc5 pm5 an5 cd5 ct5), sl5⟩)
    (c5 : PySem.W.codeIn K cd5 "House.has" = true)
    (k5 : PySem.W.keepIn K (.ref f5) = true)
    (a6 : PySem.W.findIn K (.ref c_House) "parcel" = some (some (.ref f6)))
    (i6 : PySem.W.isFn K (.ref f6) = true)
    (l6 : K.lookup f6 = some ⟨oc6, od6, .func (PySem.W.fnOf "parcel" "House.parcel" (defArgs s_House_parcel) (defBody s_House_parcel) (defScope s_House_parcel) .none kV6 dc6 pm6 an6 cd6 ct6), sl6⟩)
    (c6 : PySem.W.codeIn K cd6 "House.parcel" = true)
    (k6 : PySem.W.keepIn K (.ref f6) = true)
    (a7 : PySem.W.findIn K (.ref c_House) "lay_out" = some (some (.ref f7)))
    (i7 : PySem.W.isFn K (.ref f7) = true)
    (l7 : K.lookup f7 = some ⟨oc7, od7, .func (PySem.W.fnOf "lay_out" "House.lay_out" (defArgs s_House_lay_out) (defBody s_House_lay_out) (defScope s_House_lay_out) .none kV7 dc7 pm7 an7 cd7 ct7), sl7⟩)
    (c7 : PySem.W.codeIn K cd7 "House.lay_out" = true)
    (k7 : PySem.W.keepIn K (.ref f7) = true)
    (a8 : PySem.W.findIn K (.ref c_House) "__init__" = some (some (.ref f8)))
    (i8 : PySem.W.isFn K (.ref f8) = true)
    (l8 : K.lookup f8 = some ⟨oc8, od8, .func (PySem.W.fnOf "__init__" "House.__init__" (defArgs s_House___init__) (defBody s_House___init__) (defScope s_House___init__) .none kV8 dc8 pm8 an8 cd8 ct8), sl8⟩)
    (c8 : PySem.W.codeIn K cd8 "House.__init__" = true)
    (k8 : PySem.W.keepIn K (.ref f8) = true)
    (a9 : PySem.W.findIn K (.ref c_House) "owes" = some (some (.ref f9)))
    (i9 : PySem.W.isFn K (.ref f9) = true)
    (l9 : K.lookup f9 = some ⟨oc9, od9, .func (PySem.W.fnOf "owes" "House.owes" (defArgs s_House_owes) (defBody s_House_owes) (defScope s_House_owes) .none kV9 dc9 pm9 an9 cd9 ct9), sl9⟩)
    (c9 : PySem.W.codeIn K cd9 "House.owes" = true)
    (k9 : PySem.W.keepIn K (.ref f9) = true)
    (a10 : PySem.W.findIn K (.ref c_House) "do_wish" = some (some (.ref f10)))
    (i10 : PySem.W.isFn K (.ref f10) = true)
    (l10 : K.lookup f10 = some ⟨oc10, od10, .func (PySem.W.fnOf "do_wish" "House.do_wish" (defArgs s_House_do_wish) (defBody s_House_do_wish) (defScope s_House_do_wish) .none kV10 dc10 pm10 an10 cd10 ct10), sl10⟩)
    (c10 : PySem.W.codeIn K cd10 "House.do_wish" = true)
    (k10 : PySem.W.keepIn K (.ref f10) = true)
    (a11 : PySem.W.findIn K (.ref c_House) "call_came" = some (some (.ref f11)))
    (i11 : PySem.W.isFn K (.ref f11) = true)
    (l11 : K.lookup f11 = some ⟨oc11, od11, .func (PySem.W.fnOf "call_came" "House.call_came" (defArgs s_House_call_came) (defBody s_House_call_came) (defScope s_House_call_came) .none kV11 dc11 pm11 an11 cd11 ct11), sl11⟩)
    (c11 : PySem.W.codeIn K cd11 "House.call_came" = true)
    (k11 : PySem.W.keepIn K (.ref f11) = true)
    (a12 : PySem.W.findIn K (.ref c_House) "parcel_came" = some (some (.ref f12)))
    (i12 : PySem.W.isFn K (.ref f12) = true)
    (l12 : K.lookup f12 = some ⟨oc12, od12, .func (PySem.W.fnOf "parcel_came" "House.parcel_came" (defArgs s_House_parcel_came) (defBody s_House_parcel_came) (defScope s_House_parcel_came) .none kV12 dc12 pm12 an12 cd12 ct12), sl12⟩)
    (c12 : PySem.W.codeIn K cd12 "House.parcel_came" = true)
    (k12 : PySem.W.keepIn K (.ref f12) = true)
    (a13 : PySem.W.findIn K (.ref c_House) "taken_came" = some (some (.ref f13)))
    (i13 : PySem.W.isFn K (.ref f13) = true)
    (l13 : K.lookup f13 = some ⟨oc13, od13, .func (PySem.W.fnOf "taken_came" "House.taken_came" (defArgs s_House_taken_came) (defBody s_House_taken_came) (defScope s_House_taken_came) .none kV13 dc13 pm13 an13 cd13 ct13), sl13⟩)
    (c13 : PySem.W.codeIn K cd13 "House.taken_came" = true)
    (k13 : PySem.W.keepIn K (.ref f13) = true)
    (a14 : PySem.W.findIn K (.ref c_House) "came" = some (some (.ref f14)))
    (i14 : PySem.W.isFn K (.ref f14) = true)
    (l14 : K.lookup f14 = some ⟨oc14, od14, .func (PySem.W.fnOf "came" "House.came" (defArgs s_House_came) (defBody s_House_came) (defScope s_House_came) .none kV14 dc14 pm14 an14 cd14 ct14), sl14⟩)
    (c14 : PySem.W.codeIn K cd14 "House.came" = true)
    (k14 : PySem.W.keepIn K (.ref f14) = true)
    (a15 : PySem.W.findIn K (.ref c_House) "write" = some (some (.ref f15)))
    (i15 : PySem.W.isFn K (.ref f15) = true)
    (l15 : K.lookup f15 = some ⟨oc15, od15, .func (PySem.W.fnOf "write" "House.write" (defArgs s_House_write) (defBody s_House_write) (defScope s_House_write) .none kV15 dc15 pm15 an15 cd15 ct15), sl15⟩)
    (c15 : PySem.W.codeIn K cd15 "House.write" = true)
    (k15 : PySem.W.keepIn K (.ref f15) = true)
    (a16 : PySem.W.findIn K (.ref c_House) "nudge" = some (some (.ref f16)))
    (i16 : PySem.W.isFn K (.ref f16) = true)
    (l16 : K.lookup f16 = some ⟨oc16, od16, .func (PySem.W.fnOf "nudge" "House.nudge" (defArgs s_House_nudge) (defBody s_House_nudge) (defScope s_House_nudge) .none kV16 dc16 pm16 an16 cd16 ct16), sl16⟩)
    (c16 : PySem.W.codeIn K cd16 "House.nudge" = true)
    (k16 : PySem.W.keepIn K (.ref f16) = true)
    (a17 : PySem.W.nsIn K mainGlobals "_law_cell_at" = some (some (.ref f17)))
    (l17 : K.lookup f17 = some ⟨oc17, od17, .func (PySem.W.fnOf "_law_cell_at" "_law_cell_at" (defArgs s__law_cell_at) (defBody s__law_cell_at) (defScope s__law_cell_at) .none kV17 dc17 pm17 an17 cd17 ct17), sl17⟩)
    (c17 : PySem.W.codeIn K cd17 "_law_cell_at" = true)
    (k17 : PySem.W.keepIn K (.ref f17) = true)
    (a18 : PySem.W.nsIn K mainGlobals "_law_alike" = some (some (.ref f18)))
    (l18 : K.lookup f18 = some ⟨oc18, od18, .func (PySem.W.fnOf "_law_alike" "_law_alike" (defArgs s__law_alike) (defBody s__law_alike) (defScope s__law_alike) .none kV18 dc18 pm18 an18 cd18 ct18), sl18⟩)
    (c18 : PySem.W.codeIn K cd18 "_law_alike" = true)
    (k18 : PySem.W.keepIn K (.ref f18) = true)
    (a19 : PySem.W.nsIn K mainGlobals "_law_wish" = some (some (.ref f19)))
    (l19 : K.lookup f19 = some ⟨oc19, od19, .func (PySem.W.fnOf "_law_wish" "_law_wish" (defArgs s__law_wish) (defBody s__law_wish) (defScope s__law_wish) .none kV19 dc19 pm19 an19 cd19 ct19), sl19⟩)
    (c19 : PySem.W.codeIn K cd19 "_law_wish" = true)
    (k19 : PySem.W.keepIn K (.ref f19) = true)
    (a20 : PySem.W.nsIn K mainGlobals "_law_keys" = some (some (.ref f20)))
    (l20 : K.lookup f20 = some ⟨oc20, od20, .func (PySem.W.fnOf "_law_keys" "_law_keys" (defArgs s__law_keys) (defBody s__law_keys) (defScope s__law_keys) .none kV20 dc20 pm20 an20 cd20 ct20), sl20⟩)
    (c20 : PySem.W.codeIn K cd20 "_law_keys" = true)
    (k20 : PySem.W.keepIn K (.ref f20) = true)
    (a21 : PySem.W.nsIn K mainGlobals "_law_done" = some (some (.ref f21)))
    (l21 : K.lookup f21 = some ⟨oc21, od21, .func (PySem.W.fnOf "_law_done" "_law_done" (defArgs s__law_done) (defBody s__law_done) (defScope s__law_done) .none kV21 dc21 pm21 an21 cd21 ct21), sl21⟩)
    (c21 : PySem.W.codeIn K cd21 "_law_done" = true)
    (k21 : PySem.W.keepIn K (.ref f21) = true)
    (a22 : PySem.W.nsIn K mainGlobals "_law_came" = some (some (.ref f22)))
    (l22 : K.lookup f22 = some ⟨oc22, od22, .func (PySem.W.fnOf "_law_came" "_law_came" (defArgs s__law_came) (defBody s__law_came) (defScope s__law_came) .none kV22 dc22 pm22 an22 cd22 ct22), sl22⟩)
    (c22 : PySem.W.codeIn K cd22 "_law_came" = true)
    (k22 : PySem.W.keepIn K (.ref f22) = true)
    (a23 : PySem.W.nsIn K mainGlobals "law" = some (some (.ref f23)))
    (l23 : K.lookup f23 = some ⟨oc23, od23, .func (PySem.W.fnOf "law" "law" (defArgs s_law) (defBody s_law) (defScope s_law) .none kV23 dc23 pm23 an23 cd23 ct23), sl23⟩)
    (c23 : PySem.W.codeIn K cd23 "law" = true)
    (k23 : PySem.W.keepIn K (.ref f23) = true)
    (pg_House : PySem.W.plainGet K c_House Str.empty = true)
    (hd_House : PySem.W.hasDictIn K c_House = true)
    (po_House : PySem.W.plainOver K c_House = true)
    (sa_House : PySem.W.findIn K (.ref c_House) "__setattr__" = some (some (.builtin "object.__setattr__")))
    (mk_House : PySem.W.makesIn K c_House = true)
    (kc_House : PySem.W.keepIn K (.ref c_House) = true)
    (f_House_number : PySem.W.findIn K (.ref c_House) "number" = some none)
    (f_House_known : PySem.W.findIn K (.ref c_House) "known" = some none)
    (f_House_written : PySem.W.findIn K (.ref c_House) "written" = some none)
    (f_House_laid_out : PySem.W.findIn K (.ref c_House) "laid_out" = some none)
    (f_House_new_rows : PySem.W.findIn K (.ref c_House) "new_rows" = some none)
    (z_all : PySem.W.nsIn K mainGlobals "all" = some none)
    (z_bool : PySem.W.nsIn K mainGlobals "bool" = some none)
    (z_dict : PySem.W.nsIn K mainGlobals "dict" = some none)
    (z_int : PySem.W.nsIn K mainGlobals "int" = some none)
    (z_isinstance : PySem.W.nsIn K mainGlobals "isinstance" = some none)
    (z_len : PySem.W.nsIn K mainGlobals "len" = some none)
    (z_list : PySem.W.nsIn K mainGlobals "list" = some none)
    (z_max : PySem.W.nsIn K mainGlobals "max" = some none)
    (z_range : PySem.W.nsIn K mainGlobals "range" = some none)
    (z_sorted : PySem.W.nsIn K mainGlobals "sorted" = some none)
    (z_str : PySem.W.nsIn K mainGlobals "str" = some none)
    (z_tuple : PySem.W.nsIn K mainGlobals "tuple" = some none)
    (y_HERE : PySem.W.nsIn K mainGlobals "HERE" = some (some (.str "here" t_HERE)))
    (y_OWED : PySem.W.nsIn K mainGlobals "OWED" = some (some (.str "owed" t_OWED)))
    (y_GONE : PySem.W.nsIn K mainGlobals "GONE" = some (some (.str "gone" t_GONE)))
    (tP : h.get? lP = some (PySem.W.tabObj #[]))
    (tN : K.lookup lP = none)
    (tH : PySem.W.codeHdIn K lc lP = true) :
    ∃ A : Adr, Txt K mg A ∧ fa = A.f_law ∧ (∀ (s : Shared) (v : Value), BindsTo s A.d_law ⟨[v], []⟩ [("_law_script", v)]) ∧ K.lookup A.lP = none ∧ PySem.W.codeHdIn K A.lc A.lP = true ∧ h.get? A.lP = some (PySem.W.tabObj #[]) := by
  have e : f23 = fa := by
    have e := (PySem.W.mg_of X G a23).symm.trans hfa
    injection e with e; injection e
  subst e
  have ecl : ∃ cl : String → Addr, cl "House" = c_House := ⟨fun s => if s = "House" then c_House else 0, by simp⟩
  obtain ⟨cl, e_House⟩ := ecl
  subst e_House
  have F1 := fun_mk (st := s_done) l1 c1 k1
  have b1 := F1.binds (ps := ["amount", "wish"]) fun _ _ _ _ _ _ us hl => match us, hl with | [_, _], _ => rfl
  have F2 := fun_mk (st := s_known_at_first) l2 c2 k2
  have b2 := F2.binds (ps := ["house"]) fun _ _ _ _ _ _ us hl => match us, hl with | [_], _ => rfl
  have F3 := fun_mk (st := s_mark_of) l3 c3 k3
  have b3 := F3.binds (ps := ["marks", "caller"]) fun _ _ _ _ _ _ us hl => match us, hl with | [_, _], _ => rfl
  have F4 := fun_mk (st := s_with_mark) l4 c4 k4
  have b4 := F4.binds (ps := ["marks", "new"]) fun _ _ _ _ _ _ us hl => match us, hl with | [_, _], _ => rfl
  have F5 := fun_mk (st := s_House_has) l5 c5 k5
  have b5 := F5.binds (ps := ["self", "key"]) fun _ _ _ _ _ _ us hl => match us, hl with | [_, _], _ => rfl
  have F6 := fun_mk (st := s_House_parcel) l6 c6 k6
  have b6 := F6.binds (ps := ["self", "key", "facts"]) fun _ _ _ _ _ _ us hl => match us, hl with | [_, _, _], _ => rfl
  have F7 := fun_mk (st := s_House_lay_out) l7 c7 k7
  have b7 := F7.binds (ps := ["self", "letter"]) fun _ _ _ _ _ _ us hl => match us, hl with | [_, _], _ => rfl
  have F8 := fun_mk (st := s_House___init__) l8 c8 k8
  have b8 := F8.binds (ps := ["self", "number", "keys"]) fun _ _ _ _ _ _ us hl => match us, hl with | [_, _, _], _ => rfl
  have F9 := fun_mk (st := s_House_owes) l9 c9 k9
  have b9 := F9.binds (ps := ["self"]) fun _ _ _ _ _ _ us hl => match us, hl with | [_], _ => rfl
  have F10 := fun_mk (st := s_House_do_wish) l10 c10 k10
  have b10 := F10.binds (ps := ["self", "caller", "number", "key", "wish"]) fun _ _ _ _ _ _ us hl => match us, hl with | [_, _, _, _, _], _ => rfl
  have F11 := fun_mk (st := s_House_call_came) l11 c11 k11
  have b11 := F11.binds (ps := ["self", "letter"]) fun _ _ _ _ _ _ us hl => match us, hl with | [_, _], _ => rfl
  have F12 := fun_mk (st := s_House_parcel_came) l12 c12 k12
  have b12 := F12.binds (ps := ["self", "letter"]) fun _ _ _ _ _ _ us hl => match us, hl with | [_, _], _ => rfl
  have F13 := fun_mk (st := s_House_taken_came) l13 c13 k13
  have b13 := F13.binds (ps := ["self", "letter"]) fun _ _ _ _ _ _ us hl => match us, hl with | [_, _], _ => rfl
  have F14 := fun_mk (st := s_House_came) l14 c14 k14
  have b14 := F14.binds (ps := ["self", "letter"]) fun _ _ _ _ _ _ us hl => match us, hl with | [_, _], _ => rfl
  have F15 := fun_mk (st := s_House_write) l15 c15 k15
  have b15 := F15.binds (ps := ["self"]) fun _ _ _ _ _ _ us hl => match us, hl with | [_], _ => rfl
  have F16 := fun_mk (st := s_House_nudge) l16 c16 k16
  have b16 := F16.binds (ps := ["self"]) fun _ _ _ _ _ _ us hl => match us, hl with | [_], _ => rfl
  have F17 := fun_mk (st := s__law_cell_at) l17 c17 k17
  have b17 := F17.binds (ps := ["_law_script", "_law_k"]) fun _ _ _ _ _ _ us hl => match us, hl with | [_, _], _ => rfl
  have F18 := fun_mk (st := s__law_alike) l18 c18 k18
  have b18 := F18.binds (ps := ["_law_found", "_law_due"]) fun _ _ _ _ _ _ us hl => match us, hl with | [_, _], _ => rfl
  have F19 := fun_mk (st := s__law_wish) l19 c19 k19
  have b19 := F19.binds (ps := ["_law_cell"]) fun _ _ _ _ _ _ us hl => match us, hl with | [_], _ => rfl
  have F20 := fun_mk (st := s__law_keys) l20 c20 k20
  have b20 := F20.binds (ps := ["_law_cell"]) fun _ _ _ _ _ _ us hl => match us, hl with | [_], _ => rfl
  have F21 := fun_mk (st := s__law_done) l21 c21 k21
  have b21 := F21.binds (ps := ["_law_amount", "_law_wish_here"]) fun _ _ _ _ _ _ us hl => match us, hl with | [_, _], _ => rfl
  have F22 := fun_mk (st := s__law_came) l22 c22 k22
  have b22 := F22.binds (ps := ["_law_own", "_law_caller", "_law_number", "_law_key", "_law_wish_here"]) fun _ _ _ _ _ _ us hl => match us, hl with | [_, _, _, _, _], _ => rfl
  have F23 := fun_mk (st := s_law) l23 c23 k23
  have b23 := F23.binds (ps := ["_law_script"]) fun _ _ _ _ _ _ us hl => match us, hl with | [_], _ => rfl
  exact ⟨⟨cl, f1, PySem.W.fnOf "done" "done" (defArgs s_done) (defBody s_done) (defScope s_done) .none kV1 dc1 pm1 an1 cd1 ct1, f2, PySem.W.fnOf "known_at_first" "known_at_first" (defArgs s_known_at_first) (defBody s_known_at_first) (defScope s_known_at_first) .none kV2 dc2 pm2 an2 cd2 ct2, f3, PySem.W.fnOf "mark_of" "mark_of" (defArgs s_mark_of) (defBody s_mark_of) (defScope s_mark_of) .none kV3 dc3 pm3 an3 cd3 ct3, f4, PySem.W.fnOf "with_mark" "with_mark" (defArgs s_with_mark) (defBody s_with_mark) (defScope s_with_mark) .none kV4 dc4 pm4 an4 (.ref lc) ct4, f5, PySem.W.fnOf "has" "House.has" (defArgs s_House_has) (defBody s_House_has) (defScope s_House_has) .none kV5 dc5 pm5 an5 cd5 ct5, f6, PySem.W.fnOf "parcel" "House.parcel" (defArgs s_House_parcel) (defBody s_House_parcel) (defScope s_House_parcel) .none kV6 dc6 pm6 an6 cd6 ct6, f7, PySem.W.fnOf "lay_out" "House.lay_out" (defArgs s_House_lay_out) (defBody s_House_lay_out) (defScope s_House_lay_out) .none kV7 dc7 pm7 an7 cd7 ct7, f8, PySem.W.fnOf "__init__" "House.__init__" (defArgs s_House___init__) (defBody s_House___init__) (defScope s_House___init__) .none kV8 dc8 pm8 an8 cd8 ct8, f9, PySem.W.fnOf "owes" "House.owes" (defArgs s_House_owes) (defBody s_House_owes) (defScope s_House_owes) .none kV9 dc9 pm9 an9 cd9 ct9, f10, PySem.W.fnOf "do_wish" "House.do_wish" (defArgs s_House_do_wish) (defBody s_House_do_wish) (defScope s_House_do_wish) .none kV10 dc10 pm10 an10 cd10 ct10, f11, PySem.W.fnOf "call_came" "House.call_came" (defArgs s_House_call_came) (defBody s_House_call_came) (defScope s_House_call_came) .none kV11 dc11 pm11 an11 cd11 ct11, f12, PySem.W.fnOf "parcel_came" "House.parcel_came" (defArgs s_House_parcel_came) (defBody s_House_parcel_came) (defScope s_House_parcel_came) .none kV12 dc12 pm12 an12 cd12 ct12, f13, PySem.W.fnOf "taken_came" "House.taken_came" (defArgs s_House_taken_came) (defBody s_House_taken_came) (defScope s_House_taken_came) .none kV13 dc13 pm13 an13 cd13 ct13, f14, PySem.W.fnOf "came" "House.came" (defArgs s_House_came) (defBody s_House_came) (defScope s_House_came) .none kV14 dc14 pm14 an14 cd14 ct14, f15, PySem.W.fnOf "write" "House.write" (defArgs s_House_write) (defBody s_House_write) (defScope s_House_write) .none kV15 dc15 pm15 an15 cd15 ct15, f16, PySem.W.fnOf "nudge" "House.nudge" (defArgs s_House_nudge) (defBody s_House_nudge) (defScope s_House_nudge) .none kV16 dc16 pm16 an16 cd16 ct16, f17, PySem.W.fnOf "_law_cell_at" "_law_cell_at" (defArgs s__law_cell_at) (defBody s__law_cell_at) (defScope s__law_cell_at) .none kV17 dc17 pm17 an17 cd17 ct17, f18, PySem.W.fnOf "_law_alike" "_law_alike" (defArgs s__law_alike) (defBody s__law_alike) (defScope s__law_alike) .none kV18 dc18 pm18 an18 cd18 ct18, f19, PySem.W.fnOf "_law_wish" "_law_wish" (defArgs s__law_wish) (defBody s__law_wish) (defScope s__law_wish) .none kV19 dc19 pm19 an19 cd19 ct19, f20, PySem.W.fnOf "_law_keys" "_law_keys" (defArgs s__law_keys) (defBody s__law_keys) (defScope s__law_keys) .none kV20 dc20 pm20 an20 cd20 ct20, f21, PySem.W.fnOf "_law_done" "_law_done" (defArgs s__law_done) (defBody s__law_done) (defScope s__law_done) .none kV21 dc21 pm21 an21 cd21 ct21, f22, PySem.W.fnOf "_law_came" "_law_came" (defArgs s__law_came) (defBody s__law_came) (defScope s__law_came) .none kV22 dc22 pm22 an22 cd22 ct22, f23, PySem.W.fnOf "law" "law" (defArgs s_law) (defBody s_law) (defScope s_law) .none kV23 dc23 pm23 an23 cd23 ct23, lc, lP⟩, ⟨PySem.W.mg_of X G n_House,
    F1,
    b1,
    PySem.W.mg_of X G a1,
    F2,
    b2,
    PySem.W.mg_of X G a2,
    F3,
    b3,
    PySem.W.mg_of X G a3,
    F4,
    b4,
    PySem.W.mg_of X G a4,
    F5,
    b5,
    ⟨a5, i5, k5⟩,
    F6,
    b6,
    ⟨a6, i6, k6⟩,
    F7,
    b7,
    ⟨a7, i7, k7⟩,
    F8,
    b8,
    F9,
    b9,
    ⟨a9, i9, k9⟩,
    F10,
    b10,
    ⟨a10, i10, k10⟩,
    F11,
    b11,
    ⟨a11, i11, k11⟩,
    F12,
    b12,
    ⟨a12, i12, k12⟩,
    F13,
    b13,
    ⟨a13, i13, k13⟩,
    F14,
    b14,
    ⟨a14, i14, k14⟩,
    F15,
    b15,
    ⟨a15, i15, k15⟩,
    F16,
    b16,
    ⟨a16, i16, k16⟩,
    F17,
    b17,
    PySem.W.mg_of X G a17,
    F18,
    b18,
    PySem.W.mg_of X G a18,
    F19,
    b19,
    PySem.W.mg_of X G a19,
    F20,
    b20,
    PySem.W.mg_of X G a20,
    F21,
    b21,
    PySem.W.mg_of X G a21,
    F22,
    b22,
    PySem.W.mg_of X G a22,
    F23,
    b23,
    PySem.W.mg_of X G a23,
    ⟨pg_House, hd_House, po_House, sa_House⟩,
    ⟨mk_House, a8, i8, kc_House⟩,
    f_House_number,
    f_House_known,
    f_House_written,
    f_House_laid_out,
    f_House_new_rows,
    PySem.W.mg_none_of X G z_all,
    PySem.W.mg_none_of X G z_bool,
    PySem.W.mg_none_of X G z_dict,
    PySem.W.mg_none_of X G z_int,
    PySem.W.mg_none_of X G z_isinstance,
    PySem.W.mg_none_of X G z_len,
    PySem.W.mg_none_of X G z_list,
    PySem.W.mg_none_of X G z_max,
    PySem.W.mg_none_of X G z_range,
    PySem.W.mg_none_of X G z_sorted,
    PySem.W.mg_none_of X G z_str,
    PySem.W.mg_none_of X G z_tuple,
    ⟨_, PySem.W.mg_of X G y_HERE⟩,
    ⟨_, PySem.W.mg_of X G y_OWED⟩,
    ⟨_, PySem.W.mg_of X G y_GONE⟩,
    rfl⟩, rfl, (fun s v => .of_eq rfl), tN, tH, tP⟩
end L
namespace L
open PySem L2 Fx Mo
open Evl (Ex)
section
variable {P : Program} {w : World} {K : PySem.W.Frag} {mg : Str → Option Value} {A : Adr} {base : Heap}
theorem ok_done (T : Txt K mg A)  : ∀ t, FnOk P w K mg base (L2N.CX P w) 1 A.f_done A.d_done ["amount", "wish"] (PSf K ⟨A.cl, t⟩ S_done) := fun t => by
    refine def_ok (k := 0) T.F_done sc_done (by decide) fun cdv Ar outer s H E hcode hr => ?_
    have hu := hr.units
    have hu1 := hu_of hr
    have hu65 := hu65_of hr
    have tk : L2N.Takes (cxOf (L2N.CX P w) P w K mg base ["amount", "wish", "word", "n"] "done" (defScope s_done) A.f_done cdv Ar outer s H E) (fun c d _ H => E c d H) := L2N.takes_of rfl rfl rfl rfl
    exact ⟨_, (pss_cons (ps_if (pt_cmpR (cmp_ K _ hu) (pe_ix ix_seq (L2.pv 1) pe_int (fun _ _ => rfl)) pe_str (nomark _)) (pss_one (ps_ret (pe_tup (L2.pa_cons (L2.pv 0) (L2.pa_cons (L2.pv 0) L2.pa_nil))))) pss_nil)
        (pss_cons (ps_asg (L2.pv 1) (pg_tup (by rfl) (pgs_cons (pg_name (i := 2) sc_done.nd rfl (Or.inl rfl)) (pgs_cons (pg_name (i := 3) sc_done.nd rfl (Or.inl rfl)) pgs_nil))))
        (pss_cons (ps_if (pt_cmpR (cmp_ K _ hu) (L2.pv 2) pe_str (nomark _)) (pss_one (ps_ret (pe_tup (L2.pa_cons (L2.pv 3) (L2.pa_cons (L2.pv 0) L2.pa_nil))))) pss_nil)
        (pss_one (ps_ret (pe_tup (L2.pa_cons (pe_op (bin_ K _) (L2.pv 0) (L2.pv 3)) (L2.pa_cons (pe_op (bin_ K _) (L2.pv 0) (L2.pv 3)) L2.pa_nil)))))))),
    (sx_sq (sx_if (ft_b (Fx.pt_cmp isEq (dv_of (pv_idx (pv_var 1) (dv_py (pv_int _)))) (dv_py (pv_str _)))) (sx_rt (fv_p (pv_tup (Fx.pa_cons (pv_var 0) (Fx.pa_cons (pv_var 0) Fx.pa_nil))))) sx_nx)
        (sx_sq (sx_at (fv_p (pv_var 1)) (tg_tu (tgs_c (tg_n 2) (tgs_c (tg_n 3) tgs_0))))
        (sx_sq (sx_if (ft_b (Fx.pt_cmp isEq (dv_of (pv_var 2)) (dv_py (pv_str _)))) (sx_rt (fv_p (pv_tup (Fx.pa_cons (pv_var 3) (Fx.pa_cons (pv_var 0) Fx.pa_nil))))) sx_nx)
        (sx_rt (fv_p (pv_tup (Fx.pa_cons (pv_s (dv_bin isAdd (dv_of (pv_var 0)) (dv_of (pv_var 3)))) (Fx.pa_cons (pv_s (dv_bin isAdd (dv_of (pv_var 0)) (dv_of (pv_var 3)))) Fx.pa_nil))))))))⟩
theorem ok_known_at_first (T : Txt K mg A)  : ∀ t, FnOk P w K mg base (L2N.CX P w) 1 A.f_known_at_first A.d_known_at_first ["house"] (PSf K ⟨A.cl, t⟩ S_known_at_first) := fun t => by
    refine def_ok (k := 0) T.F_known_at_first sc_known_at_first (by decide) fun cdv Ar outer s H E hcode hr => ?_
    have hu := hr.units
    have hu1 := hu_of hr
    have hu65 := hu65_of hr
    have tk : L2N.Takes (cxOf (L2N.CX P w) P w K mg base ["house"] "known_at_first" (defScope s_known_at_first) A.f_known_at_first cdv Ar outer s H E) (fun c d _ H => E c d H) := L2N.takes_of rfl rfl rfl rfl
    exact ⟨_, (pss_cons (ps_if (pt_cmpR (cmp_ K _ hu) (L2.pv 0) pe_int (nomark _)) (pss_one (ps_ret (pe_tup (L2.pa_cons (pe_glob (v := .str "here") rfl T.g_HERE.choose_spec ⟨_, rfl⟩) (L2.pa_cons pe_int (L2.pa_cons pe_int (L2.pa_cons (pe_tup L2.pa_nil) L2.pa_nil))))))) pss_nil)
        (pss_one (ps_ret (pe_tup (L2.pa_cons (pe_glob (v := .str "gone") rfl T.g_GONE.choose_spec ⟨_, rfl⟩) (L2.pa_cons (pe_un un_neg pe_int) (L2.pa_cons pe_int (L2.pa_cons (pe_tup L2.pa_nil) L2.pa_nil)))))))),
    (sx_sq (sx_if (ft_b (Fx.pt_cmp isEq (dv_of (pv_var 0)) (dv_py (pv_int _)))) (sx_rt (fv_p (pv_tup (Fx.pa_cons (pv_str _) (Fx.pa_cons (pv_int _) (Fx.pa_cons (pv_int _) (Fx.pa_cons (pv_tup Fx.pa_nil) Fx.pa_nil))))))) sx_nx)
        (sx_rt (fv_p (pv_tup (Fx.pa_cons (pv_str _) (Fx.pa_cons (pv_s (dv_neg (dv_py (pv_int _)))) (Fx.pa_cons (pv_int _) (Fx.pa_cons (pv_tup Fx.pa_nil) Fx.pa_nil))))))))⟩
theorem ok_mark_of (T : Txt K mg A)  : ∀ t, FnOk P w K mg base (L2N.CX P w) 1 A.f_mark_of A.d_mark_of ["marks", "caller"] (PSf K ⟨A.cl, t⟩ S_mark_of) := fun t => by
    refine def_ok (k := 0) T.F_mark_of sc_mark_of (by decide) fun cdv Ar outer s H E hcode hr => ?_
    have hu := hr.units
    have hu1 := hu_of hr
    have hu65 := hu65_of hr
    have tk : L2N.Takes (cxOf (L2N.CX P w) P w K mg base ["marks", "caller", "mark"] "mark_of" (defScope s_mark_of) A.f_mark_of cdv Ar outer s H E) (fun c d _ H => E c d H) := L2N.takes_of rfl rfl rfl rfl
    exact ⟨_, (pss_cons (ps_for PassesOwn.leaving rfl (pi_tup (L2.pv 0)) (pg_name (i := 2) sc_mark_of.nd rfl (Or.inl rfl)) (pss_one (ps_if (pt_cmpR (cmp_ K _ hu) (pe_ix ix_seq (L2.pv 2) pe_int (fun _ _ => rfl)) (L2.pv 1) (nomark _)) (pss_one (ps_ret (L2.pv 2))) pss_nil)))
        (pss_one (ps_ret pe_non))),
    (sx_sq (sx_fu (fv_p (pv_var 0)) (tg_n 2) (sx_if (ft_b (Fx.pt_cmp isEq (dv_of (pv_idx (pv_var 2) (dv_py (pv_int _)))) (dv_of (pv_var 1)))) (sx_rt (fv_p (pv_var 2))) sx_nx))
        (sx_rt (fv_p pv_non)))⟩
theorem ok_with_mark (T : Txt K mg A) (TB : LamX.TabB base mg A.lc A.lP)  : FnOk P w K mg base (L2N.CX P w) 1 A.f_with_mark A.d_with_mark ["marks", "new"] (PSf K ⟨A.cl, A.tabs⟩ S_with_mark) := by
    refine def_ok (k := 0) T.F_with_mark sc_with_mark (by decide) fun cdv Ar outer s H E hcode hr => ?_
    have hu := hr.units
    have hu1 := hu_of hr
    have hu65 := hu65_of hr
    have tk : L2N.Takes (cxOf (L2N.CX P w) P w K mg base ["marks", "new", "others", "mark"] "with_mark" (defScope s_with_mark) A.f_with_mark cdv Ar outer s H E) (fun c d _ H => E c d H) := L2N.takes_of rfl rfl rfl rfl
    exact ⟨_, (pss_cons (ps_setLc (i := 2) (own := [("mark", 3)]) (g := gName 3) rfl sc_with_mark.nd rfl rfl (sw_true rfl rfl rfl (by decide +kernel)) (pi_tup (L2.pv 0)) (blkOk_by (N := ["marks", "new", "others", "mark"]) (sc := defScope s_with_mark) (by decide +kernel)) (fun _ _ _ _ _ => (pg_name (i := 3) sc_with_mark.nd rfl (Or.inl rfl))) (fun _ _ _ _ _ => pts_one (pt_cmpR (cmp_ K _ hu) (pe_ix ix_seq (L2.pv 3) pe_int (fun _ _ => rfl)) (pe_ix ix_seq (L2.pv 1) pe_int (fun _ _ => rfl)) (nomark _))) (fun _ _ _ _ _ => (L2.pv 3)))
        (pss_one (ps_ret (pe_tupleOf (by rfl) T.b_tuple (pe_sortLam (q := ("with_mark" : Str) ++ ".<locals>." ++ "<lambda>") (pe_lst (StX.pa_star (L2.pv 2) (L2.pa_cons (L2.pv 1) L2.pa_nil))) hr (by rfl) T.b_sorted TB (hcode.symm.trans T.lam) (by rfl) (by rfl) (by rfl) rfl rfl rfl (by decide) (by rfl) (fun _ _ _ _ _ _ => rfl)))))),
    (sx_sq (sx_as 2 (fv_p (pv_fz (nv_lc (Iv.of (iv_t (pv_var 0))) (tw_n 3) (Fx.pt_cmp isNe (dv_of (pv_idx (pv_var 3) (dv_py (pv_int _)))) (dv_of (pv_idx (pv_var 1) (dv_py (pv_int _))))) (pv_var 3)))))
        (sx_rt (fv_tupOf (fv_sort1 (by simp [Adr.kl, Adr.tabs]) (by simp [Adr.kl, Adr.tabs]) (pv_fz (nv_lst (Fx.pa_star (pv_var 2) (Fx.pa_cons (pv_var 1) Fx.pa_nil))))))))⟩
theorem ok_House_has (T : Txt K mg A)  : ∀ t, FnOk P w K mg base (L2N.CX P w) 1 A.f_House_has A.d_House_has ["self", "key"] (PSr K ⟨A.cl, t⟩ S_House_has) := fun t => by
    refine def_okR (k := 0) T.F_House_has sc_House_has (by decide) fun cdv Ar outer s H E hcode hr => ?_
    have hu := hr.units
    have hu1 := hu_of hr
    have hu65 := hu65_of hr
    have tk : L2N.Takes (cxOf (L2N.CX P w) P w K mg base ["self", "key"] "House.has" (defScope s_House_has) A.f_House_has cdv Ar outer s H E) (fun c d _ H => E c d H) := L2N.takes_of rfl rfl rfl rfl
    exact ⟨_, (pss_one (ps_ret (pe_cmpR (cmp_ K _ hu) (pe_ix ix_seq (pe_dget hu1 (pe_fld (L2.pv 0) rfl) (L2.pv 1) (fun _ _ => rfl)) pe_int (fun _ _ => rfl)) (pe_glob (v := .str "here") rfl T.g_HERE.choose_spec ⟨_, rfl⟩) (nomark _)))),
    (sq_rt (pv_cmp isEq (dv_of (pv_idx (pv_get (pv_fld T.C_House T.n_House_known (pv_var 0)) (dv_of (pv_var 1))) (dv_py (pv_int _)))) (dv_py (pv_str _))))⟩
theorem ok_House_parcel (T : Txt K mg A)  : ∀ t, FnOk P w K mg base (L2N.CX P w) 1 A.f_House_parcel A.d_House_parcel ["self", "key", "facts"] (PSr K ⟨A.cl, t⟩ S_House_parcel) := fun t => by
    refine def_okR (k := 0) T.F_House_parcel sc_House_parcel (by decide) fun cdv Ar outer s H E hcode hr => ?_
    have hu := hr.units
    have hu1 := hu_of hr
    have hu65 := hu65_of hr
    have tk : L2N.Takes (cxOf (L2N.CX P w) P w K mg base ["self", "key", "facts", "turn", "amount", "marks"] "House.parcel" (defScope s_House_parcel) A.f_House_parcel cdv Ar outer s H E) (fun c d _ H => E c d H) := L2N.takes_of rfl rfl rfl rfl
    exact ⟨_, (pss_cons (ps_asg (pe_slice (slc_ K) (L2.pv 2) (po_some pe_int) po_none) (pg_tup (by rfl) (pgs_cons (pg_name (i := 3) sc_House_parcel.nd rfl (Or.inl rfl)) (pgs_cons (pg_name (i := 4) sc_House_parcel.nd rfl (Or.inl rfl)) (pgs_cons (pg_name (i := 5) sc_House_parcel.nd rfl (Or.inl rfl)) pgs_nil)))))
        (pss_one (ps_ret (pe_tup (L2.pa_cons pe_str (L2.pa_cons (pe_op (bin_ K _) pe_int (pe_fld (L2.pv 0) rfl)) (L2.pa_cons (L2.pv 1) (L2.pa_cons (pe_op (bin_ K _) (L2.pv 3) pe_int) (L2.pa_cons (L2.pv 4) (L2.pa_cons (L2.pv 5) L2.pa_nil)))))))))),
    (sq_sq (sq_at (pv_slc (pv_var 2) (po_i (dv_py (pv_int _))) po_no) (tg_tu (tgs_c (tg_n 3) (tgs_c (tg_n 4) (tgs_c (tg_n 5) tgs_0)))))
        (sq_rt (pv_tup (Fx.pa_cons (pv_str _) (Fx.pa_cons (pv_s (dv_bin isSub (dv_py (pv_int _)) (dv_of (pv_fld T.C_House T.n_House_number (pv_var 0))))) (Fx.pa_cons (pv_var 1) (Fx.pa_cons (pv_s (dv_bin isAdd (dv_of (pv_var 3)) (dv_py (pv_int _)))) (Fx.pa_cons (pv_var 4) (Fx.pa_cons (pv_var 5) Fx.pa_nil)))))))))⟩
theorem ok_House_lay_out (T : Txt K mg A)  : ∀ t, FnOk P w K mg base (L2N.CX P w) 1 A.f_House_lay_out A.d_House_lay_out ["self", "letter"] (PSf K ⟨A.cl, t⟩ S_House_lay_out) := fun t => by
    refine def_ok (k := 0) T.F_House_lay_out sc_House_lay_out (by decide) fun cdv Ar outer s H E hcode hr => ?_
    have hu := hr.units
    have hu1 := hu_of hr
    have hu65 := hu65_of hr
    have tk : L2N.Takes (cxOf (L2N.CX P w) P w K mg base ["self", "letter"] "House.lay_out" (defScope s_House_lay_out) A.f_House_lay_out cdv Ar outer s H E) (fun c d _ H => E c d H) := L2N.takes_of rfl rfl rfl rfl
    exact ⟨_, (pss_one (ps_expr (pe_bm PySem.F.plainAttrs_list PySem.F.slot_list_append PySem.F.type_list_append mt_append (pe_fld (L2.pv 0) rfl) (pa_cons (L2.pv 1) L2.pa_nil)))),
    (sx_ap (pv_fld T.C_House T.n_House_laid_out (pv_var 0)) (fv_p (pv_var 1)))⟩
theorem ok_House___init__ (T : Txt K mg A) (G_known_at_first : ∀ t, FnOk P w K mg base (L2N.CX P w) 1 A.f_known_at_first A.d_known_at_first ["house"] (PSf K ⟨A.cl, t⟩ S_known_at_first))  : ∀ t, FnOk P w K mg base (L2N.CX P w) 2 A.f_House___init__ A.d_House___init__ ["self", "number", "keys"] (PSf K ⟨A.cl, t⟩ S_House___init__) := fun t => by
    refine def_ok (k := 1) T.F_House___init__ sc_House___init__ (by decide) fun cdv Ar outer s H E hcode hr => ?_
    have hu := hr.units
    have hu1 := hu_of hr
    have hu65 := hu65_of hr
    have tk : L2N.Takes (cxOf (L2N.CX P w) P w K mg base ["self", "number", "keys", "key"] "House.__init__" (defScope s_House___init__) A.f_House___init__ cdv Ar outer s H E) (fun c d _ H => E c d H) := L2N.takes_of rfl rfl rfl rfl
    exact ⟨_, (pss_cons (ps_fld (L2.pv 0) (L2.pv 1) rfl)
        (pss_cons (ps_fld (L2.pv 0) (pe_dc (own := [("key", 3)]) (g := gName 3) (tt := tYes) rfl sc_House___init__.nd (pi_list (L2.pv 2)) (blkOk_by (N := ["self", "number", "keys", "key"]) (sc := defScope s_House___init__) (by decide +kernel)) (fun _ _ _ _ _ => (pg_name (i := 3) sc_House___init__.nd rfl (Or.inl rfl))) (fun _ _ _ _ _ => pts_nil) (fun _ _ _ _ _ => (L2.pv 3)) (fun _ _ _ _ _ => (pe_callSD (CX := L2N.CX P w) (E := WE wN) (G_known_at_first []) (hr.mono (by decide)) (by rfl) T.m_known_at_first T.F_known_at_first.kp T.B_known_at_first .nil (fun σ => passN σ) (L2.pa_cons (L2.pv 1) L2.pa_nil)))) rfl)
        (pss_cons (ps_fld (L2.pv 0) (pe_callTy call_dictD (by rfl) T.b_dict (by decide +kernel) (pa_cons (pe_fld (L2.pv 0) rfl) L2.pa_nil)) rfl)
        (pss_cons (ps_fld (L2.pv 0) (pe_lst L2.pa_nil) rfl)
        (pss_one (ps_fld (L2.pv 0) (pe_lst L2.pa_nil) rfl)))))),
    (sx_sq (sx_fl T.C_House T.n_House_number (pv_var 0) (fv_p (pv_var 1)))
        (sx_sq (sx_fl T.C_House T.n_House_known (pv_var 0) (fv_n (nv_dc (iv_ln (dv_of (pv_var 2))) (tw_n 3) (dv_of (pv_var 3)) (pv_s (dv_call (da_cons (dv_of (pv_var 1)) da_nil))))))
        (sx_sq (sx_fl T.C_House T.n_House_written (pv_var 0) (fv_n (nv_dcp (pv_fld T.C_House T.n_House_known (pv_var 0)))))
        (sx_sq (sx_fl T.C_House T.n_House_laid_out (pv_var 0) (fv_n (nv_lst Fx.pa_nil)))
        (sx_fl T.C_House T.n_House_new_rows (pv_var 0) (fv_n (nv_lst Fx.pa_nil)))))))⟩
theorem ok_House_owes (T : Txt K mg A)  : ∀ t, FnOk P w K mg base (L2N.CX P w) 1 A.f_House_owes A.d_House_owes ["self"] (PSf K ⟨A.cl, t⟩ S_House_owes) := fun t => by
    refine def_ok (k := 0) T.F_House_owes sc_House_owes (by decide) fun cdv Ar outer s H E hcode hr => ?_
    have hu := hr.units
    have hu1 := hu_of hr
    have hu65 := hu65_of hr
    have tk : L2N.Takes (cxOf (L2N.CX P w) P w K mg base ["self", "key", "facts"] "House.owes" (defScope s_House_owes) A.f_House_owes cdv Ar outer s H E) (fun c d _ H => E c d H) := L2N.takes_of rfl rfl rfl rfl
    exact ⟨_, (pss_one (ps_ret (pe_lock (pe_lc (own := [("key", 1), ("facts", 2)]) rfl sc_House_owes.nd (pi_items (pe_fld (L2.pv 0) rfl)) (blkOk_by (N := ["self", "key", "facts"]) (sc := defScope s_House_owes) (by decide +kernel)) (fun _ _ _ _ _ => (pg_tup (by rfl) (pgs_cons (pg_name (i := 1) sc_House_owes.nd rfl (Or.inl rfl)) (pgs_cons (pg_name (i := 2) sc_House_owes.nd rfl (Or.inl rfl)) pgs_nil)))) (fun _ _ _ _ _ => pts_one (pt_cmpR (cmp_ K _ hu) (pe_ix ix_seq (L2.pv 2) pe_int (fun _ _ => rfl)) (pe_glob (v := .str "owed") rfl T.g_OWED.choose_spec ⟨_, rfl⟩) (nomark _))) (fun _ _ _ _ _ => (L2.pv 1)))))),
    (sx_rt (fv_n (nv_lock (nv_lc (iv_it (pv_fld T.C_House T.n_House_known (pv_var 0))) (tw_2 (by decide)) (Fx.pt_cmp isEq (dv_of (pv_idx (pv_var 2) (dv_py (pv_int _)))) (dv_py (pv_str _))) (pv_var 1)))))⟩
theorem ok_House_do_wish (T : Txt K mg A) (TB : LamX.TabB base mg A.lc A.lP) (G_done : ∀ t, FnOk P w K mg base (L2N.CX P w) 1 A.f_done A.d_done ["amount", "wish"] (PSf K ⟨A.cl, t⟩ S_done)) (G_with_mark : FnOk P w K mg base (L2N.CX P w) 1 A.f_with_mark A.d_with_mark ["marks", "new"] (PSf K ⟨A.cl, A.tabs⟩ S_with_mark))  : FnOk P w K mg base (L2N.CX P w) 2 A.f_House_do_wish A.d_House_do_wish ["self", "caller", "number", "key", "wish"] (PSf K ⟨A.cl, A.tabs⟩ S_House_do_wish) := by
    refine def_ok (k := 1) T.F_House_do_wish sc_House_do_wish (by decide) fun cdv Ar outer s H E hcode hr => ?_
    have hu := hr.units
    have hu1 := hu_of hr
    have hu65 := hu65_of hr
    have tk : L2N.Takes (cxOf (L2N.CX P w) P w K mg base ["self", "caller", "number", "key", "wish", "state", "turn", "old", "marks", "amount", "told"] "House.do_wish" (defScope s_House_do_wish) A.f_House_do_wish cdv Ar outer s H E) (fun c d _ H => E c d H) := L2N.takes_of rfl rfl rfl rfl
    exact ⟨_, (pss_cons (ps_asg (pe_dget hu1 (pe_fld (L2.pv 0) rfl) (L2.pv 3) (fun _ _ => rfl)) (pg_tup (by rfl) (pgs_cons (pg_name (i := 5) sc_House_do_wish.nd rfl (Or.inl rfl)) (pgs_cons (pg_name (i := 6) sc_House_do_wish.nd rfl (Or.inl rfl)) (pgs_cons (pg_name (i := 7) sc_House_do_wish.nd rfl (Or.inl rfl)) (pgs_cons (pg_name (i := 8) sc_House_do_wish.nd rfl (Or.inl rfl)) pgs_nil))))))
        (pss_cons (ps_asg (pe_callSD (CX := L2N.CX P w) (E := WE (fun c d _ H => E c d H)) (G_done []) (hr.mono (by decide)) (by rfl) T.m_done T.F_done.kp T.B_done .nil (fun σ => L2N.passAt tk σ) (L2.pa_cons (L2.pv 7) (L2.pa_cons (L2.pv 4) L2.pa_nil))) (pg_tup (by rfl) (pgs_cons (pg_name (i := 9) sc_House_do_wish.nd rfl (Or.inl rfl)) (pgs_cons (pg_name (i := 10) sc_House_do_wish.nd rfl (Or.inl rfl)) pgs_nil))))
        (pss_cons (ps_dput hu1 (pe_fld (L2.pv 0) rfl) (L2.pv 3) (pe_tup (L2.pa_cons (L2.pv 5) (L2.pa_cons (L2.pv 6) (L2.pa_cons (L2.pv 9) (L2.pa_cons (pe_callSD (CX := L2N.CX P w) (E := WE (fun c d _ H => E c d H)) G_with_mark (hr.mono (by decide)) (by rfl) T.m_with_mark T.F_with_mark.kp T.B_with_mark .nil (fun σ => L2N.passAt tk σ) (pa_cons (L2.pv 8) (pa_cons (pe_tup (L2.pa_cons (L2.pv 1) (L2.pa_cons (L2.pv 2) (L2.pa_cons (L2.pv 10) L2.pa_nil)))) L2.pa_nil))) L2.pa_nil))))) rfl)
        (pss_cons (ps_expr (pe_bm PySem.F.plainAttrs_list PySem.F.slot_list_append PySem.F.type_list_append mt_append (pe_fld (L2.pv 0) rfl) (pa_cons (pe_tup (L2.pa_cons (L2.pv 1) (L2.pa_cons (L2.pv 2) (L2.pa_cons (L2.pv 3) (L2.pa_cons (L2.pv 4) (L2.pa_cons (L2.pv 10) L2.pa_nil)))))) L2.pa_nil)))
        (pss_one (ps_ret (L2.pv 10))))))),
    (sx_sq (sx_at (fv_p (pv_get (pv_fld T.C_House T.n_House_known (pv_var 0)) (dv_of (pv_var 3)))) (tg_tu (tgs_c (tg_n 5) (tgs_c (tg_n 6) (tgs_c (tg_n 7) (tgs_c (tg_n 8) tgs_0))))))
        (sx_sq (sx_at (fv_p (pv_s (dv_call (da_cons (dv_of (pv_var 7)) (da_cons (dv_of (pv_var 4)) da_nil))))) (tg_tu (tgs_c (tg_n 9) (tgs_c (tg_n 10) tgs_0))))
        (sx_sq (sx_pu (pv_fld T.C_House T.n_House_known (pv_var 0)) (dv_of (pv_var 3)) (fv_tup (fa_co (fv_p (pv_var 5)) (fa_co (fv_p (pv_var 6)) (fa_co (fv_p (pv_var 9)) (fa_co (fv_z (fv_call (fa_co (fv_p (pv_var 8)) (fa_co (fv_p (pv_tup (Fx.pa_cons (pv_var 1) (Fx.pa_cons (pv_var 2) (Fx.pa_cons (pv_var 10) Fx.pa_nil))))) fa_no)))) fa_no))))))
        (sx_sq (sx_ap (pv_fld T.C_House T.n_House_new_rows (pv_var 0)) (fv_p (pv_tup (Fx.pa_cons (pv_var 1) (Fx.pa_cons (pv_var 2) (Fx.pa_cons (pv_var 3) (Fx.pa_cons (pv_var 4) (Fx.pa_cons (pv_var 10) Fx.pa_nil))))))))
        (sx_rt (fv_p (pv_var 10)))))))⟩
theorem ok_House_call_came (T : Txt K mg A) (TB : LamX.TabB base mg A.lc A.lP) (G_House_do_wish : FnOk P w K mg base (L2N.CX P w) 2 A.f_House_do_wish A.d_House_do_wish ["self", "caller", "number", "key", "wish"] (PSf K ⟨A.cl, A.tabs⟩ S_House_do_wish)) (G_House_has : ∀ t, FnOk P w K mg base (L2N.CX P w) 1 A.f_House_has A.d_House_has ["self", "key"] (PSr K ⟨A.cl, t⟩ S_House_has)) (G_House_lay_out : ∀ t, FnOk P w K mg base (L2N.CX P w) 1 A.f_House_lay_out A.d_House_lay_out ["self", "letter"] (PSf K ⟨A.cl, t⟩ S_House_lay_out)) (G_mark_of : ∀ t, FnOk P w K mg base (L2N.CX P w) 1 A.f_mark_of A.d_mark_of ["marks", "caller"] (PSf K ⟨A.cl, t⟩ S_mark_of))  : FnOk P w K mg base (L2N.CX P w) 3 A.f_House_call_came A.d_House_call_came ["self", "letter"] (PSf K ⟨A.cl, A.tabs⟩ S_House_call_came) := by
    refine def_ok (k := 2) T.F_House_call_came sc_House_call_came (by decide) fun cdv Ar outer s H E hcode hr => ?_
    have hu := hr.units
    have hu1 := hu_of hr
    have hu65 := hu65_of hr
    have tk : L2N.Takes (cxOf (L2N.CX P w) P w K mg base ["self", "letter", "caller", "number", "key", "wish", "mark"] "House.call_came" (defScope s_House_call_came) A.f_House_call_came cdv Ar outer s H E) (fun c d _ H => E c d H) := L2N.takes_of rfl rfl rfl rfl
    exact ⟨_, (pss_cons (ps_asg (pe_slice (slc_ K) (L2.pv 1) (po_some pe_int) po_none) (pg_tup (by rfl) (pgs_cons (pg_name (i := 2) sc_House_call_came.nd rfl (Or.inl rfl)) (pgs_cons (pg_name (i := 3) sc_House_call_came.nd rfl (Or.inl rfl)) (pgs_cons (pg_name (i := 4) sc_House_call_came.nd rfl (Or.inl rfl)) (pgs_cons (pg_name (i := 5) sc_House_call_came.nd rfl (Or.inl rfl)) pgs_nil))))))
        (pss_cons (ps_if (L2.pt_not (L2.pt_val (pe_methSD (CX := L2N.CX P w) (E := WE (fun c d _ H => E c d H)) (L2.pv 0) T.C_House T.M_House_has (G_House_has A.tabs) (hr.mono (by decide)) T.B_House_has .nil (fun σ => L2N.passAt tk σ) (L2.pa_cons (L2.pv 4) L2.pa_nil)))) (pss_one ps_retN) pss_nil)
        (pss_cons (ps_set (i := 6) sc_House_call_came.nd rfl (Or.inl rfl) (pe_callSD (CX := L2N.CX P w) (E := WE (fun c d _ H => E c d H)) (G_mark_of []) (hr.mono (by decide)) (by rfl) T.m_mark_of T.F_mark_of.kp T.B_mark_of .nil (fun σ => L2N.passAt tk σ) (L2.pa_cons (pe_ix ix_seq (pe_dget hu1 (pe_fld (L2.pv 0) rfl) (L2.pv 4) (fun _ _ => rfl)) pe_int (fun _ _ => rfl)) (L2.pa_cons (L2.pv 2) L2.pa_nil))))
        (pss_cons (ps_if (PW.pt (pw_and (pt_cmpR (cmp_ K _ hu) (L2.pv 6) pe_non (nomark _)) (pw_and1 (pt_cmpR (cmp_ K _ hu) (pe_ix ix_seq (L2.pv 6) pe_int (fun _ _ => rfl)) (L2.pv 3) (nomark _))))) (pss_one ps_retN) pss_nil)
        (pss_cons (ps_if (PW.pt (pw_or (pt_cmpR (cmp_ K _ hu) (L2.pv 6) pe_non (nomark _)) (pw_or1 (pt_cmpR (cmp_ K _ hu) (pe_ix ix_seq (L2.pv 6) pe_int (fun _ _ => rfl)) (L2.pv 3) (nomark _))))) (pss_one (ps_set (i := 6) sc_House_call_came.nd rfl (Or.inl rfl) (pe_tup (L2.pa_cons (L2.pv 2) (L2.pa_cons (L2.pv 3) (L2.pa_cons (pe_methSD (CX := L2N.CX P w) (E := WE (fun c d _ H => E c d H)) (L2.pv 0) T.C_House T.M_House_do_wish G_House_do_wish (hr.mono (by decide)) T.B_House_do_wish .nil (fun σ => L2N.passAt tk σ) (pa_cons (L2.pv 2) (pa_cons (L2.pv 3) (pa_cons (L2.pv 4) (pa_cons (L2.pv 5) L2.pa_nil))))) L2.pa_nil)))))) pss_nil)
        (pss_one (ps_expr (pe_methSD (CX := L2N.CX P w) (E := WE (fun c d _ H => E c d H)) (L2.pv 0) T.C_House T.M_House_lay_out (G_House_lay_out A.tabs) (hr.mono (by decide)) T.B_House_lay_out .nil (fun σ => L2N.passAt tk σ) (pa_cons (pe_tup (L2.pa_cons pe_str (L2.pa_cons (L2.pv 2) (L2.pa_cons (L2.pv 3) (L2.pa_cons (pe_ix ix_seq (L2.pv 6) pe_int (fun _ _ => rfl)) L2.pa_nil))))) L2.pa_nil))))))))),
    (sx_sq (sx_at (fv_p (pv_slc (pv_var 1) (po_i (dv_py (pv_int _))) po_no)) (tg_tu (tgs_c (tg_n 2) (tgs_c (tg_n 3) (tgs_c (tg_n 4) (tgs_c (tg_n 5) tgs_0))))))
        (sx_sq (sx_if (ft_b (Fx.pt_not (Fx.pt_val (pv_methR (pv_var 0) (ps_co (pv_var 4) ps_no))))) sx_rn sx_nx)
        (sx_sq (sx_as 6 (fv_p (pv_s (dv_call (da_cons (dv_of (pv_idx (pv_get (pv_fld T.C_House T.n_House_known (pv_var 0)) (dv_of (pv_var 4))) (dv_py (pv_int _)))) (da_cons (dv_of (pv_var 2)) da_nil))))))
        (sx_sq (sx_if (ft_b (Fx.pt_and (Fx.pt_cmp isIsnt (dv_of (pv_var 6)) (dv_py pv_non)) (Fx.pt_cmp isGt (dv_of (pv_idx (pv_var 6) (dv_py (pv_int _)))) (dv_of (pv_var 3))))) sx_rn sx_nx)
        (sx_sq (sx_if (ft_b (Fx.pt_or (Fx.pt_cmp isIs (dv_of (pv_var 6)) (dv_py pv_non)) (Fx.pt_cmp isLt (dv_of (pv_idx (pv_var 6) (dv_py (pv_int _)))) (dv_of (pv_var 3))))) (sx_as 6 (fv_z (fv_tup (fa_co (fv_p (pv_var 2)) (fa_co (fv_p (pv_var 3)) (fa_co (fv_z (fv_meth (pv_var 0) (fa_co (fv_p (pv_var 2)) (fa_co (fv_p (pv_var 3)) (fa_co (fv_p (pv_var 4)) (fa_co (fv_p (pv_var 5)) fa_no)))))) fa_no)))))) sx_nx)
        (sx_dr (fv_meth (pv_var 0) (fa_co (fv_p (pv_tup (Fx.pa_cons (pv_str _) (Fx.pa_cons (pv_var 2) (Fx.pa_cons (pv_var 3) (Fx.pa_cons (pv_idx (pv_var 6) (dv_py (pv_int _))) Fx.pa_nil)))))) fa_no))))))))⟩
theorem ok_House_parcel_came (T : Txt K mg A) (G_House_lay_out : ∀ t, FnOk P w K mg base (L2N.CX P w) 1 A.f_House_lay_out A.d_House_lay_out ["self", "letter"] (PSf K ⟨A.cl, t⟩ S_House_lay_out))  : ∀ t, FnOk P w K mg base (L2N.CX P w) 2 A.f_House_parcel_came A.d_House_parcel_came ["self", "letter"] (PSf K ⟨A.cl, t⟩ S_House_parcel_came) := fun t => by
    refine def_ok (k := 1) T.F_House_parcel_came sc_House_parcel_came (by decide) fun cdv Ar outer s H E hcode hr => ?_
    have hu := hr.units
    have hu1 := hu_of hr
    have hu65 := hu65_of hr
    have tk : L2N.Takes (cxOf (L2N.CX P w) P w K mg base ["self", "letter", "key", "turn", "amount", "marks"] "House.parcel_came" (defScope s_House_parcel_came) A.f_House_parcel_came cdv Ar outer s H E) (fun c d _ H => E c d H) := L2N.takes_of rfl rfl rfl rfl
    exact ⟨_, (pss_cons (ps_asg (pe_slice (slc_ K) (L2.pv 1) (po_some pe_int) po_none) (pg_tup (by rfl) (pgs_cons (pg_name (i := 2) sc_House_parcel_came.nd rfl (Or.inl rfl)) (pgs_cons (pg_name (i := 3) sc_House_parcel_came.nd rfl (Or.inl rfl)) (pgs_cons (pg_name (i := 4) sc_House_parcel_came.nd rfl (Or.inl rfl)) (pgs_cons (pg_name (i := 5) sc_House_parcel_came.nd rfl (Or.inl rfl)) pgs_nil))))))
        (pss_cons (ps_if (pt_cmpR (cmp_ K _ hu) (L2.pv 3) (pe_ix ix_seq (pe_dget hu1 (pe_fld (L2.pv 0) rfl) (L2.pv 2) (fun _ _ => rfl)) pe_int (fun _ _ => rfl)) (nomark _)) (pss_one (ps_dput hu1 (pe_fld (L2.pv 0) rfl) (L2.pv 2) (pe_tup (L2.pa_cons (pe_glob (v := .str "here") rfl T.g_HERE.choose_spec ⟨_, rfl⟩) (L2.pa_cons (L2.pv 3) (L2.pa_cons (L2.pv 4) (L2.pa_cons (L2.pv 5) L2.pa_nil))))) rfl)) pss_nil)
        (pss_one (ps_expr (pe_methSD (CX := L2N.CX P w) (E := WE (fun c d _ H => E c d H)) (L2.pv 0) T.C_House T.M_House_lay_out (G_House_lay_out t) (hr.mono (by decide)) T.B_House_lay_out .nil (fun σ => L2N.passAt tk σ) (pa_cons (pe_tup (L2.pa_cons pe_str (L2.pa_cons (pe_op (bin_ K _) pe_int (pe_fld (L2.pv 0) rfl)) (L2.pa_cons (L2.pv 2) (L2.pa_cons (L2.pv 3) L2.pa_nil))))) L2.pa_nil)))))),
    (sx_sq (sx_at (fv_p (pv_slc (pv_var 1) (po_i (dv_py (pv_int _))) po_no)) (tg_tu (tgs_c (tg_n 2) (tgs_c (tg_n 3) (tgs_c (tg_n 4) (tgs_c (tg_n 5) tgs_0))))))
        (sx_sq (sx_if (ft_b (Fx.pt_cmp isGt (dv_of (pv_var 3)) (dv_of (pv_idx (pv_get (pv_fld T.C_House T.n_House_known (pv_var 0)) (dv_of (pv_var 2))) (dv_py (pv_int _)))))) (sx_pu (pv_fld T.C_House T.n_House_known (pv_var 0)) (dv_of (pv_var 2)) (fv_p (pv_tup (Fx.pa_cons (pv_str _) (Fx.pa_cons (pv_var 3) (Fx.pa_cons (pv_var 4) (Fx.pa_cons (pv_var 5) Fx.pa_nil))))))) sx_nx)
        (sx_dr (fv_meth (pv_var 0) (fa_co (fv_p (pv_tup (Fx.pa_cons (pv_str _) (Fx.pa_cons (pv_s (dv_bin isSub (dv_py (pv_int _)) (dv_of (pv_fld T.C_House T.n_House_number (pv_var 0))))) (Fx.pa_cons (pv_var 2) (Fx.pa_cons (pv_var 3) Fx.pa_nil)))))) fa_no)))))⟩
theorem ok_House_taken_came (T : Txt K mg A)  : ∀ t, FnOk P w K mg base (L2N.CX P w) 1 A.f_House_taken_came A.d_House_taken_came ["self", "letter"] (PSf K ⟨A.cl, t⟩ S_House_taken_came) := fun t => by
    refine def_ok (k := 0) T.F_House_taken_came sc_House_taken_came (by decide) fun cdv Ar outer s H E hcode hr => ?_
    have hu := hr.units
    have hu1 := hu_of hr
    have hu65 := hu65_of hr
    have tk : L2N.Takes (cxOf (L2N.CX P w) P w K mg base ["self", "letter", "key", "turn", "state", "known_turn"] "House.taken_came" (defScope s_House_taken_came) A.f_House_taken_came cdv Ar outer s H E) (fun c d _ H => E c d H) := L2N.takes_of rfl rfl rfl rfl
    exact ⟨_, (pss_cons (ps_asg (pe_slice (slc_ K) (L2.pv 1) (po_some pe_int) po_none) (pg_tup (by rfl) (pgs_cons (pg_name (i := 2) sc_House_taken_came.nd rfl (Or.inl rfl)) (pgs_cons (pg_name (i := 3) sc_House_taken_came.nd rfl (Or.inl rfl)) pgs_nil))))
        (pss_cons (ps_asg (pe_slice (slc_ K) (pe_dget hu1 (pe_fld (L2.pv 0) rfl) (L2.pv 2) (fun _ _ => rfl)) po_none (po_some pe_int)) (pg_tup (by rfl) (pgs_cons (pg_name (i := 4) sc_House_taken_came.nd rfl (Or.inl rfl)) (pgs_cons (pg_name (i := 5) sc_House_taken_came.nd rfl (Or.inl rfl)) pgs_nil))))
        (pss_one (ps_if (PW.pt (pw_and (pt_cmpR (cmp_ K _ hu) (L2.pv 4) (pe_glob (v := .str "owed") rfl T.g_OWED.choose_spec ⟨_, rfl⟩) (nomark _)) (pw_and1 (pt_cmpR (cmp_ K _ hu) (L2.pv 3) (pe_op (bin_ K _) (L2.pv 5) pe_int) (nomark _))))) (pss_one (ps_dput hu1 (pe_fld (L2.pv 0) rfl) (L2.pv 2) (pe_tup (L2.pa_cons (pe_glob (v := .str "gone") rfl T.g_GONE.choose_spec ⟨_, rfl⟩) (L2.pa_cons (L2.pv 5) (L2.pa_cons pe_int (L2.pa_cons (pe_tup L2.pa_nil) L2.pa_nil))))) rfl)) pss_nil)))),
    (sx_sq (sx_at (fv_p (pv_slc (pv_var 1) (po_i (dv_py (pv_int _))) po_no)) (tg_tu (tgs_c (tg_n 2) (tgs_c (tg_n 3) tgs_0))))
        (sx_sq (sx_at (fv_p (pv_slc (pv_get (pv_fld T.C_House T.n_House_known (pv_var 0)) (dv_of (pv_var 2))) po_no (po_i (dv_py (pv_int _))))) (tg_tu (tgs_c (tg_n 4) (tgs_c (tg_n 5) tgs_0))))
        (sx_if (ft_b (Fx.pt_and (Fx.pt_cmp isEq (dv_of (pv_var 4)) (dv_py (pv_str _))) (Fx.pt_cmp isEq (dv_of (pv_var 3)) (dv_bin isAdd (dv_of (pv_var 5)) (dv_py (pv_int _)))))) (sx_pu (pv_fld T.C_House T.n_House_known (pv_var 0)) (dv_of (pv_var 2)) (fv_p (pv_tup (Fx.pa_cons (pv_str _) (Fx.pa_cons (pv_var 5) (Fx.pa_cons (pv_int _) (Fx.pa_cons (pv_tup Fx.pa_nil) Fx.pa_nil))))))) sx_nx)))⟩
theorem ok_House_came (T : Txt K mg A) (TB : LamX.TabB base mg A.lc A.lP) (G_House_call_came : FnOk P w K mg base (L2N.CX P w) 3 A.f_House_call_came A.d_House_call_came ["self", "letter"] (PSf K ⟨A.cl, A.tabs⟩ S_House_call_came)) (G_House_parcel_came : ∀ t, FnOk P w K mg base (L2N.CX P w) 2 A.f_House_parcel_came A.d_House_parcel_came ["self", "letter"] (PSf K ⟨A.cl, t⟩ S_House_parcel_came)) (G_House_taken_came : ∀ t, FnOk P w K mg base (L2N.CX P w) 1 A.f_House_taken_came A.d_House_taken_came ["self", "letter"] (PSf K ⟨A.cl, t⟩ S_House_taken_came))  : FnOk P w K mg base (L2N.CX P w) 4 A.f_House_came A.d_House_came ["self", "letter"] (PSf K ⟨A.cl, A.tabs⟩ S_House_came) := by
    refine def_ok (k := 3) T.F_House_came sc_House_came (by decide) fun cdv Ar outer s H E hcode hr => ?_
    have hu := hr.units
    have hu1 := hu_of hr
    have hu65 := hu65_of hr
    have tk : L2N.Takes (cxOf (L2N.CX P w) P w K mg base ["self", "letter"] "House.came" (defScope s_House_came) A.f_House_came cdv Ar outer s H E) (fun c d _ H => E c d H) := L2N.takes_of rfl rfl rfl rfl
    exact ⟨_, (pss_one (ps_if (pt_cmpR (cmp_ K _ hu) (pe_ix ix_seq (L2.pv 1) pe_int (fun _ _ => rfl)) pe_str (nomark _)) (pss_one (ps_expr (pe_methSD (CX := L2N.CX P w) (E := WE (fun c d _ H => E c d H)) (L2.pv 0) T.C_House T.M_House_call_came G_House_call_came (hr.mono (by decide)) T.B_House_call_came .nil (fun σ => L2N.passAt tk σ) (pa_cons (L2.pv 1) L2.pa_nil)))) (pss_one (ps_if (pt_cmpR (cmp_ K _ hu) (pe_ix ix_seq (L2.pv 1) pe_int (fun _ _ => rfl)) pe_str (nomark _)) (pss_one (ps_expr (pe_methSD (CX := L2N.CX P w) (E := WE (fun c d _ H => E c d H)) (L2.pv 0) T.C_House T.M_House_parcel_came (G_House_parcel_came A.tabs) (hr.mono (by decide)) T.B_House_parcel_came .nil (fun σ => L2N.passAt tk σ) (pa_cons (L2.pv 1) L2.pa_nil)))) (pss_one (ps_if (pt_cmpR (cmp_ K _ hu) (pe_ix ix_seq (L2.pv 1) pe_int (fun _ _ => rfl)) pe_str (nomark _)) (pss_one (ps_expr (pe_methSD (CX := L2N.CX P w) (E := WE (fun c d _ H => E c d H)) (L2.pv 0) T.C_House T.M_House_taken_came (G_House_taken_came A.tabs) (hr.mono (by decide)) T.B_House_taken_came .nil (fun σ => L2N.passAt tk σ) (pa_cons (L2.pv 1) L2.pa_nil)))) pss_nil)))))),
    (sx_if (ft_b (Fx.pt_cmp isEq (dv_of (pv_idx (pv_var 1) (dv_py (pv_int _)))) (dv_py (pv_str _)))) (sx_dr (fv_meth (pv_var 0) (fa_co (fv_p (pv_var 1)) fa_no))) (sx_if (ft_b (Fx.pt_cmp isEq (dv_of (pv_idx (pv_var 1) (dv_py (pv_int _)))) (dv_py (pv_str _)))) (sx_dr (fv_meth (pv_var 0) (fa_co (fv_p (pv_var 1)) fa_no))) (sx_if (ft_b (Fx.pt_cmp isEq (dv_of (pv_idx (pv_var 1) (dv_py (pv_int _)))) (dv_py (pv_str _)))) (sx_dr (fv_meth (pv_var 0) (fa_co (fv_p (pv_var 1)) fa_no))) sx_nx)))⟩
theorem ok_House_write (T : Txt K mg A)  : ∀ t, FnOk P w K mg base (L2N.CX P w) 1 A.f_House_write A.d_House_write ["self"] (PSf K ⟨A.cl, t⟩ S_House_write) := fun t => by
    refine def_ok (k := 0) T.F_House_write sc_House_write (by decide) fun cdv Ar outer s H E hcode hr => ?_
    have hu := hr.units
    have hu1 := hu_of hr
    have hu65 := hu65_of hr
    have tk : L2N.Takes (cxOf (L2N.CX P w) P w K mg base ["self", "posted", "rows"] "House.write" (defScope s_House_write) A.f_House_write cdv Ar outer s H E) (fun c d _ H => E c d H) := L2N.takes_of rfl rfl rfl rfl
    exact ⟨_, (pss_cons (ps_set (i := 1) sc_House_write.nd rfl (Or.inl rfl) (pe_fld (L2.pv 0) rfl))
        (pss_cons (ps_set (i := 2) sc_House_write.nd rfl (Or.inl rfl) (pe_fld (L2.pv 0) rfl))
        (pss_cons (ps_fld (L2.pv 0) (pe_callTy call_dictD (by rfl) T.b_dict (by decide +kernel) (pa_cons (pe_fld (L2.pv 0) rfl) L2.pa_nil)) rfl)
        (pss_cons (ps_fld (L2.pv 0) (pe_lst L2.pa_nil) rfl)
        (pss_cons (ps_fld (L2.pv 0) (pe_lst L2.pa_nil) rfl)
        (pss_one (ps_ret (pe_tup (L2.pa_cons (L2.pv 1) (L2.pa_cons (L2.pv 2) L2.pa_nil)))))))))),
    (sx_sq (sx_as 1 (fv_mv (pv_fld T.C_House T.n_House_laid_out (pv_var 0))))
        (sx_sq (sx_as 2 (fv_mv (pv_fld T.C_House T.n_House_new_rows (pv_var 0))))
        (sx_sq (sx_fl T.C_House T.n_House_written (pv_var 0) (fv_n (nv_dcp (pv_fld T.C_House T.n_House_known (pv_var 0)))))
        (sx_sq (sx_fl T.C_House T.n_House_laid_out (pv_var 0) (fv_n (nv_lst Fx.pa_nil)))
        (sx_sq (sx_fl T.C_House T.n_House_new_rows (pv_var 0) (fv_n (nv_lst Fx.pa_nil)))
        (sx_rt (fv_tup (fa_co (fv_mv (pv_var 1)) (fa_co (fv_mv (pv_var 2)) fa_no)))))))))⟩
theorem ok_House_nudge (T : Txt K mg A) (G_House_parcel : ∀ t, FnOk P w K mg base (L2N.CX P w) 1 A.f_House_parcel A.d_House_parcel ["self", "key", "facts"] (PSr K ⟨A.cl, t⟩ S_House_parcel))  : ∀ t, FnOk P w K mg base (L2N.CX P w) 2 A.f_House_nudge A.d_House_nudge ["self"] (PSf K ⟨A.cl, t⟩ S_House_nudge) := fun t => by
    refine def_ok (k := 1) T.F_House_nudge sc_House_nudge (by decide) fun cdv Ar outer s H E hcode hr => ?_
    have hu := hr.units
    have hu1 := hu_of hr
    have hu65 := hu65_of hr
    have tk : L2N.Takes (cxOf (L2N.CX P w) P w K mg base ["self", "key", "facts"] "House.nudge" (defScope s_House_nudge) A.f_House_nudge cdv Ar outer s H E) (fun c d _ H => E c d H) := L2N.takes_of rfl rfl rfl rfl
    exact ⟨_, (pss_one (ps_ret (pe_lock (pe_lc (own := [("key", 1), ("facts", 2)]) rfl sc_House_nudge.nd (pi_items (pe_fld (L2.pv 0) rfl)) (blkOk_by (N := ["self", "key", "facts"]) (sc := defScope s_House_nudge) (by decide +kernel)) (fun _ _ _ _ _ => (pg_tup (by rfl) (pgs_cons (pg_name (i := 1) sc_House_nudge.nd rfl (Or.inl rfl)) (pgs_cons (pg_name (i := 2) sc_House_nudge.nd rfl (Or.inl rfl)) pgs_nil)))) (fun _ _ _ _ _ => pts_one (pt_cmpR (cmp_ K _ hu) (pe_ix ix_seq (L2.pv 2) pe_int (fun _ _ => rfl)) (pe_glob (v := .str "owed") rfl T.g_OWED.choose_spec ⟨_, rfl⟩) (nomark _))) (fun _ _ _ _ _ => (pe_methSD (CX := L2N.CX P w) (E := WE wN) (L2.pv 0) T.C_House T.M_House_parcel (G_House_parcel t) (hr.mono (by decide)) T.B_House_parcel .nil (fun σ => passN σ) (L2.pa_cons (L2.pv 1) (L2.pa_cons (L2.pv 2) L2.pa_nil)))))))),
    (sx_rt (fv_n (nv_lock (nv_lc (iv_it (pv_fld T.C_House T.n_House_written (pv_var 0))) (tw_2 (by decide)) (Fx.pt_cmp isEq (dv_of (pv_idx (pv_var 2) (dv_py (pv_int _)))) (dv_py (pv_str _))) (pv_methR (pv_var 0) (ps_co (pv_var 1) (ps_co (pv_var 2) ps_no)))))))⟩
theorem ok__law_cell_at (T : Txt K mg A)  : ∀ t, FnOk P w K mg base (L2N.CX P w) 1 A.f__law_cell_at A.d__law_cell_at ["_law_script", "_law_k"] (PSf K ⟨A.cl, t⟩ S__law_cell_at) := fun t => by
    refine def_ok (k := 0) T.F__law_cell_at sc__law_cell_at (by decide) fun cdv Ar outer s H E hcode hr => ?_
    have hu := hr.units
    have hu1 := hu_of hr
    have hu65 := hu65_of hr
    have tk : L2N.Takes (cxOf (L2N.CX P w) P w K mg base ["_law_script", "_law_k"] "_law_cell_at" (defScope s__law_cell_at) A.f__law_cell_at cdv Ar outer s H E) (fun c d _ H => E c d H) := L2N.takes_of rfl rfl rfl rfl
    exact ⟨_, (pss_cons (ps_if (pt_cmpR (cmp_ K _ hu) (L2.pv 1) (pe_callB (lenN_ K) (by rfl) T.b_len (by decide +kernel) (pa_cons (L2.pv 0) L2.pa_nil)) (nomark _)) (pss_one (ps_ret (pe_ix ix_seq (L2.pv 0) (L2.pv 1) (fun _ _ => rfl)))) pss_nil)
        (pss_one (ps_ret pe_int))),
    (sx_sq (sx_if (ft_b (Fx.pt_cmp isLt (dv_of (pv_var 1)) (dv_of (pv_len (pv_var 0))))) (sx_rt (fv_p (pv_idx (pv_var 0) (dv_of (pv_var 1))))) sx_nx)
        (sx_rt (fv_p (pv_int _))))⟩
theorem okL__law_alike (T : Txt K mg A) : ∀ n t, FnOk P w K mg base (L2N.CX P w) n A.f__law_alike A.d__law_alike ["_law_found", "_law_due"] (PSf K ⟨A.cl, t⟩ (SL__law_alike n))
  | 0 => fun t => fnok_none
  | n + 1 => fun t => by
    have G__law_alike := okL__law_alike T n
    refine def_ok T.F__law_alike sc__law_alike (by decide) fun cdv Ar outer s H E hcode hr => ?_
    have hu := hr.units
    have hu1 := hu_of hr
    have hu65 := hu65_of hr
    have tk : L2N.Takes (cxOf (L2N.CX P w) P w K mg base ["_law_found", "_law_due", "_law_k"] "_law_alike" (defScope s__law_alike) A.f__law_alike cdv Ar outer s H E) (fun c d _ H => E c d H) := L2N.takes_of rfl rfl rfl rfl
    exact ⟨_, (pss_cons (ps_if (L2.pt_val (pe_callB (isiN2_ K) (by rfl) T.b_isinstance (by decide +kernel) (pa_cons (L2.pv 1) (pa_cons (pe_tup (pa_cons (pe_bltn (v := .ty "list") (by rfl) T.b_list (by decide +kernel) rfl) (pa_cons (pe_bltn (v := .ty "tuple") (by rfl) T.b_tuple (by decide +kernel) rfl) L2.pa_nil))) L2.pa_nil)))) (pss_cons (ps_if (PW.pt (pw_or (pt_cmpR (cmp_ K _ hu) (pe_callB (isiN_ K) (by rfl) T.b_isinstance (by decide +kernel) (pa_cons (L2.pv 1) (pa_cons (pe_bltn (v := .ty "list") (by rfl) T.b_list (by decide +kernel) rfl) L2.pa_nil))) (pe_callB (isiN_ K) (by rfl) T.b_isinstance (by decide +kernel) (pa_cons (L2.pv 0) (pa_cons (pe_bltn (v := .ty "list") (by rfl) T.b_list (by decide +kernel) rfl) L2.pa_nil))) (nomark _)) (pw_or1 (pt_cmpR (cmp_ K _ hu) (pe_callB (isiN_ K) (by rfl) T.b_isinstance (by decide +kernel) (pa_cons (L2.pv 1) (pa_cons (pe_bltn (v := .ty "tuple") (by rfl) T.b_tuple (by decide +kernel) rfl) L2.pa_nil))) (pe_callB (isiN_ K) (by rfl) T.b_isinstance (by decide +kernel) (pa_cons (L2.pv 0) (pa_cons (pe_bltn (v := .ty "tuple") (by rfl) T.b_tuple (by decide +kernel) rfl) L2.pa_nil))) (nomark _))))) (pss_one (ps_ret pe_bl)) pss_nil)
        (pss_cons (ps_if (pt_cmpR (cmp_ K _ hu) (pe_callB (lenN_ K) (by rfl) T.b_len (by decide +kernel) (pa_cons (L2.pv 0) L2.pa_nil)) (pe_callB (lenN_ K) (by rfl) T.b_len (by decide +kernel) (pa_cons (L2.pv 1) L2.pa_nil)) (nomark _)) (pss_one (ps_ret pe_bl)) pss_nil)
        (pss_one (ps_ret (pe_callB (cr_all rfl) (by rfl) T.b_all (by decide +kernel) (pa_cons (pe_lc (own := [("_law_k", 2)]) (g := gName 2) (tt := tYes) rfl sc__law_alike.nd (pi_range1 (by rfl) T.b_range (L2.pa_cons (pe_callB (lenN_ K) (by rfl) T.b_len (by decide +kernel) (pa_cons (L2.pv 1) L2.pa_nil)) L2.pa_nil)) (blkOk_by (N := ["_law_found", "_law_due", "_law_k"]) (sc := defScope s__law_alike) (by decide +kernel)) (fun _ _ _ _ _ => (pg_name (i := 2) sc__law_alike.nd rfl (Or.inl rfl))) (fun _ _ _ _ _ => pts_nil) (fun _ _ _ _ _ => (pe_callSD (CX := L2N.CX P w) (E := WE wN) (G__law_alike []) hr (by rfl) T.m__law_alike T.F__law_alike.kp T.B__law_alike .nil (fun σ => passN σ) (L2.pa_cons (pe_ix ix_seq (L2.pv 0) (L2.pv 2) (fun _ _ => rfl)) (L2.pa_cons (pe_ix ix_seq (L2.pv 1) (L2.pv 2) (fun _ _ => rfl)) L2.pa_nil))))) L2.pa_nil)))))) pss_nil)
        (pss_cons (ps_if (L2.pt_val (pe_callB (isiN_ K) (by rfl) T.b_isinstance (by decide +kernel) (pa_cons (L2.pv 1) (pa_cons (pe_bltn (v := .ty "str") (by rfl) T.b_str (by decide +kernel) rfl) L2.pa_nil)))) (pss_one (ps_ret (pe_and (pe_callB (isiN_ K) (by rfl) T.b_isinstance (by decide +kernel) (pa_cons (L2.pv 0) (pa_cons (pe_bltn (v := .ty "str") (by rfl) T.b_str (by decide +kernel) rfl) L2.pa_nil))) (pe_one (pe_cmpR (cmp_ K _ hu) (L2.pv 0) (L2.pv 1) (nomark _)))))) pss_nil)
        (pss_one (ps_ret (pe_and (pe_callB (isiN_ K) (by rfl) T.b_isinstance (by decide +kernel) (pa_cons (L2.pv 0) (pa_cons (pe_bltn (v := .ty "int") (by rfl) T.b_int (by decide +kernel) rfl) L2.pa_nil))) (pe_and (pe_not (pe_callB (isiN_ K) (by rfl) T.b_isinstance (by decide +kernel) (pa_cons (L2.pv 0) (pa_cons (pe_bltn (v := .ty "bool") (by rfl) T.b_bool (by decide +kernel) rfl) L2.pa_nil)))) (pe_one (pe_cmpR (cmp_ K _ hu) (L2.pv 0) (L2.pv 1) (nomark _))))))))),
    (sx_sq (sx_if (ft_b (Fx.pt_val (pv_isi2 (by simp) (by simp) (pv_var 1) (pv_at _) (pv_at _)))) (sx_sq (sx_if (ft_b (Fx.pt_or (Fx.pt_cmp isNe (dv_of (pv_isi (by simp) (pv_var 1) (pv_at _))) (dv_of (pv_isi (by simp) (pv_var 0) (pv_at _)))) (Fx.pt_cmp isNe (dv_of (pv_isi (by simp) (pv_var 1) (pv_at _))) (dv_of (pv_isi (by simp) (pv_var 0) (pv_at _)))))) (sx_rt (fv_p (pv_bl _))) sx_nx)
        (sx_sq (sx_if (ft_b (Fx.pt_cmp isNe (dv_of (pv_len (pv_var 0))) (dv_of (pv_len (pv_var 1))))) (sx_rt (fv_p (pv_bl _))) sx_nx)
        (sx_rt (fv_p (pv_s (dv_all (dv_of (pv_fz (nv_lc (Iv.of (iv_r (da_cons (dv_of (pv_len (pv_var 1))) da_nil))) (tw_n 2) pt_yes (pv_s (dv_call (da_cons (dv_of (pv_idx (pv_var 0) (dv_of (pv_var 2)))) (da_cons (dv_of (pv_idx (pv_var 1) (dv_of (pv_var 2)))) da_nil))))))))))))) sx_nx)
        (sx_sq (sx_if (ft_b (Fx.pt_val (pv_isi (by simp) (pv_var 1) (pv_at _)))) (sx_rt (fv_p (pv_and (pv_isi (by simp) (pv_var 0) (pv_at _)) (pv_cmp isEq (dv_of (pv_var 0)) (dv_of (pv_var 1)))))) sx_nx)
        (sx_rt (fv_p (pv_and (pv_isi (by simp) (pv_var 0) (pv_at _)) (pv_and (pv_not (pv_isi (by simp) (pv_var 0) (pv_at _))) (pv_cmp isEq (dv_of (pv_var 0)) (dv_of (pv_var 1)))))))))⟩
theorem ok__law_alike (T : Txt K mg A)  : ∀ t, FnOk P w K mg base (L2N.CX P w) 6 A.f__law_alike A.d__law_alike ["_law_found", "_law_due"] (PSf K ⟨A.cl, t⟩ S__law_alike) := fun t => okL__law_alike T 6 t
theorem ok__law_wish (T : Txt K mg A)  : ∀ t, FnOk P w K mg base (L2N.CX P w) 1 A.f__law_wish A.d__law_wish ["_law_cell"] (PSf K ⟨A.cl, t⟩ S__law_wish) := fun t => by
    refine def_ok (k := 0) T.F__law_wish sc__law_wish (by decide) fun cdv Ar outer s H E hcode hr => ?_
    have hu := hr.units
    have hu1 := hu_of hr
    have hu65 := hu65_of hr
    have tk : L2N.Takes (cxOf (L2N.CX P w) P w K mg base ["_law_cell", "_law_number"] "_law_wish" (defScope s__law_wish) A.f__law_wish cdv Ar outer s H E) (fun c d _ H => E c d H) := L2N.takes_of rfl rfl rfl rfl
    exact ⟨_, (pss_cons (ps_set (i := 1) sc__law_wish.nd rfl (Or.inl rfl) (pe_op (bin_ K _) (pe_op (bin_ K _) (pe_op (bin_ K _) (L2.pv 0) pe_int) pe_int) pe_int))
        (pss_cons (ps_if (pt_cmpR (cmp_ K _ hu) (pe_op (bin_ K _) (pe_op (bin_ K _) (L2.pv 0) pe_int) pe_int) pe_int (nomark _)) (pss_one (ps_set (i := 1) sc__law_wish.nd rfl (Or.inl rfl) (pe_op (bin_ K _) (pe_op (bin_ K _) (pe_op (bin_ K _) (L2.pv 0) pe_int) (pe_op (bin_ K _) (pe_op (bin_ K _) pe_int (pe_op (bin_ K _) pe_int pe_int)) pe_int)) (pe_op (bin_ K _) pe_int pe_int)))) pss_nil)
        (pss_one (ps_ret (pe_ix ix_seq (pe_lst (L2.pa_cons (pe_tup (L2.pa_cons pe_str L2.pa_nil)) (L2.pa_cons (pe_tup (L2.pa_cons pe_str (L2.pa_cons (L2.pv 1) L2.pa_nil))) (L2.pa_cons (pe_tup (L2.pa_cons pe_str (L2.pa_cons (L2.pv 1) L2.pa_nil))) L2.pa_nil)))) (pe_op (bin_ K _) (L2.pv 0) pe_int) (fun _ _ => rfl)))))),
    (sx_sq (sx_as 1 (fv_p (pv_s (dv_bin isSub (dv_bin isMod (dv_bin isFdiv (dv_of (pv_var 0)) (dv_py (pv_int _))) (dv_py (pv_int _))) (dv_py (pv_int _))))))
        (sx_sq (sx_if (ft_b (Fx.pt_cmp isEq (dv_bin isMod (dv_bin isFdiv (dv_of (pv_var 0)) (dv_py (pv_int _))) (dv_py (pv_int _))) (dv_py (pv_int _)))) (sx_as 1 (fv_p (pv_s (dv_bin isSub (dv_bin isMod (dv_bin isFdiv (dv_of (pv_var 0)) (dv_py (pv_int _))) (dv_bin isAdd (dv_bin isMul (dv_py (pv_int _)) (dv_bin isPow (dv_py (pv_int _)) (dv_py (pv_int _)))) (dv_py (pv_int _)))) (dv_bin isPow (dv_py (pv_int _)) (dv_py (pv_int _))))))) sx_nx)
        (sx_rt (fv_p (pv_idx (pv_fz (nv_lst (Fx.pa_cons (pv_tup (Fx.pa_cons (pv_str _) Fx.pa_nil)) (Fx.pa_cons (pv_tup (Fx.pa_cons (pv_str _) (Fx.pa_cons (pv_var 1) Fx.pa_nil))) (Fx.pa_cons (pv_tup (Fx.pa_cons (pv_str _) (Fx.pa_cons (pv_var 1) Fx.pa_nil))) Fx.pa_nil))))) (dv_bin isMod (dv_of (pv_var 0)) (dv_py (pv_int _))))))))⟩
theorem ok__law_keys (T : Txt K mg A)  : ∀ t, FnOk P w K mg base (L2N.CX P w) 1 A.f__law_keys A.d__law_keys ["_law_cell"] (PSf K ⟨A.cl, t⟩ S__law_keys) := fun t => by
    refine def_ok (k := 0) T.F__law_keys sc__law_keys (by decide) fun cdv Ar outer s H E hcode hr => ?_
    have hu := hr.units
    have hu1 := hu_of hr
    have hu65 := hu65_of hr
    have tk : L2N.Takes (cxOf (L2N.CX P w) P w K mg base ["_law_cell", "_law_letters", "_law_many", "_law_size", "_law_at", "_law_turn", "_law_rest", "_law_k"] "_law_keys" (defScope s__law_keys) A.f__law_keys cdv Ar outer s H E) (fun c d _ H => E c d H) := L2N.takes_of rfl rfl rfl rfl
    exact ⟨_, (pss_cons (ps_set (i := 1) sc__law_keys.nd rfl (Or.inr rfl) pe_str)
        (pss_cons (ps_set (i := 2) sc__law_keys.nd rfl (Or.inl rfl) (pe_op (bin_ K _) pe_int (pe_op (bin_ K _) (L2.pv 0) pe_int)))
        (pss_cons (ps_set (i := 3) sc__law_keys.nd rfl (Or.inl rfl) (pe_op (bin_ K _) (pe_op (bin_ K _) (L2.pv 0) pe_int) pe_int))
        (pss_cons (ps_set (i := 4) sc__law_keys.nd rfl (Or.inr rfl) (pe_op (bin_ K _) (pe_op (bin_ K _) (L2.pv 0) pe_int) (pe_op (bin_ K _) (L2.pv 3) pe_int)))
        (pss_cons (ps_set (i := 5) sc__law_keys.nd rfl (Or.inr rfl) (pe_op (bin_ K _) (L2.pv 0) pe_int))
        (pss_cons (ps_set (i := 6) sc__law_keys.nd rfl (Or.inr rfl) (pe_join pe_str (pe_lc (own := [("_law_k", 7)]) (g := gName 7) (tt := tYes) rfl sc__law_keys.nd (pi_range1 (by rfl) T.b_range (L2.pa_cons (L2.pv 3) L2.pa_nil)) (blkOk_by (N := ["_law_cell", "_law_letters", "_law_many", "_law_size", "_law_at", "_law_turn", "_law_rest", "_law_k"]) (sc := defScope s__law_keys) (by decide +kernel)) (fun _ _ _ _ _ => (pg_name (i := 7) sc__law_keys.nd rfl (Or.inl rfl))) (fun _ _ _ _ _ => pts_nil) (fun _ _ _ _ _ => (pe_ix ix_seq (L2.pv 1) (pe_op (bin_ K _) (pe_op (bin_ K _) (pe_op (bin_ K _) (L2.pv 5) pe_int) (pe_op (bin_ K _) pe_int (L2.pv 7))) pe_int) (fun _ _ => rfl))))))
        (pss_cons (ps_if (pt_cmpR (cmp_ K _ hu) (pe_op (bin_ K _) (L2.pv 5) pe_int) pe_int (nomark _)) (pss_one (ps_ret (pe_lc (own := [("_law_k", 7)]) (g := gName 7) (tt := tYes) rfl sc__law_keys.nd (pi_range1 (by rfl) T.b_range (L2.pa_cons (L2.pv 2) L2.pa_nil)) (blkOk_by (N := ["_law_cell", "_law_letters", "_law_many", "_law_size", "_law_at", "_law_turn", "_law_rest", "_law_k"]) (sc := defScope s__law_keys) (by decide +kernel)) (fun _ _ _ _ _ => (pg_name (i := 7) sc__law_keys.nd rfl (Or.inl rfl))) (fun _ _ _ _ _ => pts_nil) (fun _ _ _ _ _ => (pe_slice (slc_ K) (pe_op (bin_ K _) (L2.pv 6) pe_str) po_none (po_some (pe_op (bin_ K _) (L2.pv 7) pe_int))))))) pss_nil)
        (pss_one (ps_ret (pe_lc (own := [("_law_k", 7)]) (g := gName 7) (tt := tYes) rfl sc__law_keys.nd (pi_range1 (by rfl) T.b_range (L2.pa_cons (L2.pv 2) L2.pa_nil)) (blkOk_by (N := ["_law_cell", "_law_letters", "_law_many", "_law_size", "_law_at", "_law_turn", "_law_rest", "_law_k"]) (sc := defScope s__law_keys) (by decide +kernel)) (fun _ _ _ _ _ => (pg_name (i := 7) sc__law_keys.nd rfl (Or.inl rfl))) (fun _ _ _ _ _ => pts_nil) (fun _ _ _ _ _ => (pe_op (bin_ K _) (pe_op (bin_ K _) (pe_slice (slc_ K) (L2.pv 6) po_none (po_some (L2.pv 4))) (pe_ix ix_seq (L2.pv 1) (pe_op (bin_ K _) (pe_op (bin_ K _) (L2.pv 5) (L2.pv 7)) pe_int) (fun _ _ => rfl))) (pe_slice (slc_ K) (L2.pv 6) (po_some (L2.pv 4)) po_none))))))))))))),
    (sx_sq (sx_as 1 (fv_p (pv_str _)))
        (sx_sq (sx_as 2 (fv_p (pv_s (dv_bin isAdd (dv_py (pv_int _)) (dv_bin isMod (dv_of (pv_var 0)) (dv_py (pv_int _)))))))
        (sx_sq (sx_as 3 (fv_p (pv_s (dv_bin isMod (dv_bin isFdiv (dv_of (pv_var 0)) (dv_py (pv_int _))) (dv_py (pv_int _))))))
        (sx_sq (sx_as 4 (fv_p (pv_s (dv_bin isMod (dv_bin isFdiv (dv_of (pv_var 0)) (dv_py (pv_int _))) (dv_bin isAdd (dv_of (pv_var 3)) (dv_py (pv_int _)))))))
        (sx_sq (sx_as 5 (fv_p (pv_s (dv_bin isFdiv (dv_of (pv_var 0)) (dv_py (pv_int _))))))
        (sx_sq (sx_as 6 (fv_p (pv_s (dv_join (dv_py (pv_str _)) (dv_of (pv_fz (nv_lc (Iv.of (iv_r (da_cons (dv_of (pv_var 3)) da_nil))) (tw_n 7) pt_yes (pv_idx (pv_var 1) (dv_bin isMod (dv_bin isAdd (dv_bin isFdiv (dv_of (pv_var 5)) (dv_py (pv_int _))) (dv_bin isMul (dv_py (pv_int _)) (dv_of (pv_var 7)))) (dv_py (pv_int _)))))))))))
        (sx_sq (sx_if (ft_b (Fx.pt_cmp isEq (dv_bin isMod (dv_of (pv_var 5)) (dv_py (pv_int _))) (dv_py (pv_int _)))) (sx_rt (fv_n (nv_lc (Iv.of (iv_r (da_cons (dv_of (pv_var 2)) da_nil))) (tw_n 7) pt_yes (pv_slc (pv_s (dv_bin isAdd (dv_of (pv_var 6)) (dv_py (pv_str _)))) po_no (po_i (dv_bin isAdd (dv_of (pv_var 7)) (dv_py (pv_int _)))))))) sx_nx)
        (sx_rt (fv_n (nv_lc (Iv.of (iv_r (da_cons (dv_of (pv_var 2)) da_nil))) (tw_n 7) pt_yes (pv_s (dv_bin isAdd (dv_bin isAdd (dv_of (pv_slc (pv_var 6) po_no (po_i (dv_of (pv_var 4))))) (dv_of (pv_idx (pv_var 1) (dv_bin isMod (dv_bin isAdd (dv_of (pv_var 5)) (dv_of (pv_var 7))) (dv_py (pv_int _)))))) (dv_of (pv_slc (pv_var 6) (po_i (dv_of (pv_var 4))) po_no))))))))))))))⟩
theorem ok__law_done (T : Txt K mg A)  : ∀ t, FnOk P w K mg base (L2N.CX P w) 1 A.f__law_done A.d__law_done ["_law_amount", "_law_wish_here"] (PSf K ⟨A.cl, t⟩ S__law_done) := fun t => by
    refine def_ok (k := 0) T.F__law_done sc__law_done (by decide) fun cdv Ar outer s H E hcode hr => ?_
    have hu := hr.units
    have hu1 := hu_of hr
    have hu65 := hu65_of hr
    have tk : L2N.Takes (cxOf (L2N.CX P w) P w K mg base ["_law_amount", "_law_wish_here"] "_law_done" (defScope s__law_done) A.f__law_done cdv Ar outer s H E) (fun c d _ H => E c d H) := L2N.takes_of rfl rfl rfl rfl
    exact ⟨_, (pss_cons (ps_if (pt_cmpR (cmp_ K _ hu) (pe_ix ix_seq (L2.pv 1) pe_int (fun _ _ => rfl)) pe_str (nomark _)) (pss_one (ps_ret (pe_tup (L2.pa_cons (L2.pv 0) (L2.pa_cons (L2.pv 0) L2.pa_nil))))) pss_nil)
        (pss_cons (ps_if (pt_cmpR (cmp_ K _ hu) (pe_ix ix_seq (L2.pv 1) pe_int (fun _ _ => rfl)) pe_str (nomark _)) (pss_one (ps_ret (pe_tup (L2.pa_cons (pe_ix ix_seq (L2.pv 1) pe_int (fun _ _ => rfl)) (L2.pa_cons (L2.pv 0) L2.pa_nil))))) pss_nil)
        (pss_one (ps_ret (pe_tup (L2.pa_cons (pe_op (bin_ K _) (L2.pv 0) (pe_ix ix_seq (L2.pv 1) pe_int (fun _ _ => rfl))) (L2.pa_cons (pe_op (bin_ K _) (L2.pv 0) (pe_ix ix_seq (L2.pv 1) pe_int (fun _ _ => rfl))) L2.pa_nil))))))),
    (sx_sq (sx_if (ft_b (Fx.pt_cmp isEq (dv_of (pv_idx (pv_var 1) (dv_py (pv_int _)))) (dv_py (pv_str _)))) (sx_rt (fv_p (pv_tup (Fx.pa_cons (pv_var 0) (Fx.pa_cons (pv_var 0) Fx.pa_nil))))) sx_nx)
        (sx_sq (sx_if (ft_b (Fx.pt_cmp isEq (dv_of (pv_idx (pv_var 1) (dv_py (pv_int _)))) (dv_py (pv_str _)))) (sx_rt (fv_p (pv_tup (Fx.pa_cons (pv_idx (pv_var 1) (dv_py (pv_int _))) (Fx.pa_cons (pv_var 0) Fx.pa_nil))))) sx_nx)
        (sx_rt (fv_p (pv_tup (Fx.pa_cons (pv_s (dv_bin isAdd (dv_of (pv_var 0)) (dv_of (pv_idx (pv_var 1) (dv_py (pv_int _)))))) (Fx.pa_cons (pv_s (dv_bin isAdd (dv_of (pv_var 0)) (dv_of (pv_idx (pv_var 1) (dv_py (pv_int _)))))) Fx.pa_nil)))))))⟩
theorem ok__law_came (T : Txt K mg A) (G__law_done : ∀ t, FnOk P w K mg base (L2N.CX P w) 1 A.f__law_done A.d__law_done ["_law_amount", "_law_wish_here"] (PSf K ⟨A.cl, t⟩ S__law_done))  : ∀ t, FnOk P w K mg base (L2N.CX P w) 2 A.f__law_came A.d__law_came ["_law_own", "_law_caller", "_law_number", "_law_key", "_law_wish_here"] (PSf K ⟨A.cl, t⟩ S__law_came) := fun t => by
    refine def_ok (k := 1) T.F__law_came sc__law_came (by decide) fun cdv Ar outer s H E hcode hr => ?_
    have hu := hr.units
    have hu1 := hu_of hr
    have hu65 := hu65_of hr
    have tk : L2N.Takes (cxOf (L2N.CX P w) P w K mg base ["_law_own", "_law_caller", "_law_number", "_law_key", "_law_wish_here", "_law_last", "_law_told", "_law_amount"] "_law_came" (defScope s__law_came) A.f__law_came cdv Ar outer s H E) (fun c d _ H => E c d H) := L2N.takes_of rfl rfl rfl rfl
    exact ⟨_, (pss_cons (ps_asg (pe_dget2 hu1 (pe_dget hu1 (L2.pv 0) pe_str (fun _ _ => rfl)) (pe_tup (L2.pa_cons (L2.pv 1) (L2.pa_cons (L2.pv 3) L2.pa_nil))) (pe_tup (L2.pa_cons pe_int (L2.pa_cons pe_int L2.pa_nil))) ⟨rfl, rfl, rfl, rfl⟩) (pg_tup (by rfl) (pgs_cons (pg_name (i := 5) sc__law_came.nd rfl (Or.inl rfl)) (pgs_cons (pg_name (i := 6) sc__law_came.nd rfl (Or.inl rfl)) pgs_nil))))
        (pss_cons (ps_if (pt_cmpR (cmp_ K _ hu) (L2.pv 5) (L2.pv 2) (nomark _)) (pss_one ps_retN) pss_nil)
        (pss_cons (ps_if (pt_cmpR (cmp_ K _ hu) (L2.pv 5) (L2.pv 2) (nomark _)) (pss_cons (ps_asg (pe_callSD (CX := L2N.CX P w) (E := WE (fun c d _ H => E c d H)) (G__law_done []) (hr.mono (by decide)) (by rfl) T.m__law_done T.F__law_done.kp T.B__law_done .nil (fun σ => L2N.passAt tk σ) (L2.pa_cons (pe_dget2 hu1 (pe_dget hu1 (L2.pv 0) pe_str (fun _ _ => rfl)) (L2.pv 3) pe_int ⟨rfl, rfl, rfl, rfl⟩) (L2.pa_cons (L2.pv 4) L2.pa_nil))) (pg_tup (by rfl) (pgs_cons (pg_name (i := 7) sc__law_came.nd rfl (Or.inl rfl)) (pgs_cons (pg_name (i := 6) sc__law_came.nd rfl (Or.inl rfl)) pgs_nil))))
        (pss_cons (ps_dput hu1 (pe_dget hu1 (L2.pv 0) pe_str (fun _ _ => rfl)) (L2.pv 3) (L2.pv 7) rfl)
        (pss_cons (ps_dput hu1 (pe_dget hu1 (L2.pv 0) pe_str (fun _ _ => rfl)) (pe_tup (L2.pa_cons (L2.pv 1) (L2.pa_cons (L2.pv 3) L2.pa_nil))) (pe_tup (L2.pa_cons (L2.pv 2) (L2.pa_cons (L2.pv 6) L2.pa_nil))) rfl)
        (pss_one (ps_expr (pe_bm PySem.F.plainAttrs_list PySem.F.slot_list_append PySem.F.type_list_append mt_append (pe_dget hu1 (L2.pv 0) pe_str (fun _ _ => rfl)) (pa_cons (pe_tup (L2.pa_cons (L2.pv 1) (L2.pa_cons (L2.pv 2) (L2.pa_cons (L2.pv 3) (L2.pa_cons (L2.pv 4) (L2.pa_cons (L2.pv 6) L2.pa_nil)))))) L2.pa_nil))))))) pss_nil)
        (pss_one (ps_expr (pe_bm PySem.F.plainAttrs_list PySem.F.slot_list_append PySem.F.type_list_append mt_append (pe_dget hu1 (L2.pv 0) pe_str (fun _ _ => rfl)) (pa_cons (pe_tup (L2.pa_cons pe_str (L2.pa_cons (L2.pv 1) (L2.pa_cons (L2.pv 2) (L2.pa_cons (L2.pv 6) L2.pa_nil))))) L2.pa_nil))))))),
    (sx_sq (sx_at (fv_p (pv_getT2 (pv_get (pv_var 0) (dv_py (pv_str _))) (kt_tup (da_cons (dv_of (pv_var 1)) (da_cons (dv_of (pv_var 3)) da_nil))) (pv_tup (Fx.pa_cons (pv_int _) (Fx.pa_cons (pv_int _) Fx.pa_nil))))) (tg_tu (tgs_c (tg_n 5) (tgs_c (tg_n 6) tgs_0))))
        (sx_sq (sx_if (ft_b (Fx.pt_cmp isGt (dv_of (pv_var 5)) (dv_of (pv_var 2)))) sx_rn sx_nx)
        (sx_sq (sx_if (ft_b (Fx.pt_cmp isLt (dv_of (pv_var 5)) (dv_of (pv_var 2)))) (sx_sq (sx_at (fv_p (pv_s (dv_call (da_cons (dv_of (pv_get2 (pv_get (pv_var 0) (dv_py (pv_str _))) (dv_of (pv_var 3)) (pv_int _))) (da_cons (dv_of (pv_var 4)) da_nil))))) (tg_tu (tgs_c (tg_n 7) (tgs_c (tg_n 6) tgs_0))))
        (sx_sq (sx_pu (pv_get (pv_var 0) (dv_py (pv_str _))) (dv_of (pv_var 3)) (fv_p (pv_var 7)))
        (sx_sq (sx_puT (pv_get (pv_var 0) (dv_py (pv_str _))) (kt_tup (da_cons (dv_of (pv_var 1)) (da_cons (dv_of (pv_var 3)) da_nil))) (fv_p (pv_tup (Fx.pa_cons (pv_var 2) (Fx.pa_cons (pv_var 6) Fx.pa_nil)))))
        (sx_ap (pv_get (pv_var 0) (dv_py (pv_str _))) (fv_p (pv_tup (Fx.pa_cons (pv_var 1) (Fx.pa_cons (pv_var 2) (Fx.pa_cons (pv_var 3) (Fx.pa_cons (pv_var 4) (Fx.pa_cons (pv_var 6) Fx.pa_nil))))))))))) sx_nx)
        (sx_ap (pv_get (pv_var 0) (dv_py (pv_str _))) (fv_p (pv_tup (Fx.pa_cons (pv_str _) (Fx.pa_cons (pv_var 1) (Fx.pa_cons (pv_var 2) (Fx.pa_cons (pv_var 6) Fx.pa_nil))))))))))⟩
theorem ok_law (T : Txt K mg A) (TB : LamX.TabB base mg A.lc A.lP) (G_House___init__ : ∀ t, FnOk P w K mg base (L2N.CX P w) 2 A.f_House___init__ A.d_House___init__ ["self", "number", "keys"] (PSf K ⟨A.cl, t⟩ S_House___init__)) (G_House_came : FnOk P w K mg base (L2N.CX P w) 4 A.f_House_came A.d_House_came ["self", "letter"] (PSf K ⟨A.cl, A.tabs⟩ S_House_came)) (G_House_has : ∀ t, FnOk P w K mg base (L2N.CX P w) 1 A.f_House_has A.d_House_has ["self", "key"] (PSr K ⟨A.cl, t⟩ S_House_has)) (G_House_nudge : ∀ t, FnOk P w K mg base (L2N.CX P w) 2 A.f_House_nudge A.d_House_nudge ["self"] (PSf K ⟨A.cl, t⟩ S_House_nudge)) (G_House_owes : ∀ t, FnOk P w K mg base (L2N.CX P w) 1 A.f_House_owes A.d_House_owes ["self"] (PSf K ⟨A.cl, t⟩ S_House_owes)) (G_House_write : ∀ t, FnOk P w K mg base (L2N.CX P w) 1 A.f_House_write A.d_House_write ["self"] (PSf K ⟨A.cl, t⟩ S_House_write)) (G__law_alike : ∀ t, FnOk P w K mg base (L2N.CX P w) 6 A.f__law_alike A.d__law_alike ["_law_found", "_law_due"] (PSf K ⟨A.cl, t⟩ S__law_alike)) (G__law_came : ∀ t, FnOk P w K mg base (L2N.CX P w) 2 A.f__law_came A.d__law_came ["_law_own", "_law_caller", "_law_number", "_law_key", "_law_wish_here"] (PSf K ⟨A.cl, t⟩ S__law_came)) (G__law_cell_at : ∀ t, FnOk P w K mg base (L2N.CX P w) 1 A.f__law_cell_at A.d__law_cell_at ["_law_script", "_law_k"] (PSf K ⟨A.cl, t⟩ S__law_cell_at)) (G__law_keys : ∀ t, FnOk P w K mg base (L2N.CX P w) 1 A.f__law_keys A.d__law_keys ["_law_cell"] (PSf K ⟨A.cl, t⟩ S__law_keys)) (G__law_wish : ∀ t, FnOk P w K mg base (L2N.CX P w) 1 A.f__law_wish A.d__law_wish ["_law_cell"] (PSf K ⟨A.cl, t⟩ S__law_wish))  : FnOk P w K mg base (L2N.CX P w) 7 A.f_law A.d_law ["_law_script"] (PSf K ⟨A.cl, A.tabs⟩ S_law) := by
    refine def_ok (k := 6) T.F_law sc_law (by decide) fun cdv Ar outer s H E hcode hr => ?_
    have hu := hr.units
    have hu1 := hu_of hr
    have hu65 := hu65_of hr
    have tk : L2N.Takes (cxOf (L2N.CX P w) P w K mg base ["_law_script", "_law_number", "_law_keys_here", "_law_house", "_law_own", "_law_last", "_law_cell", "_law_caller", "_law_more", "_law_count", "_law_key", "_law_wish_here", "_law_found"] "law" (defScope s_law) A.f_law cdv Ar outer s H E) (fun c d _ H => E c d H) := L2N.takes_of rfl rfl rfl rfl
    exact ⟨_, (pss_cons (ps_set (i := 1) sc_law.nd rfl (Or.inl rfl) (pe_callTy call_int1 (by rfl) T.b_int (by decide +kernel) (pa_cons (pe_cmpR (cmp_ K _ hu) (pe_op (bin_ K _) (pe_callSD (CX := L2N.CX P w) (E := WE (fun c d _ H => E c d H)) (G__law_cell_at []) (hr.mono (by decide)) (by rfl) T.m__law_cell_at T.F__law_cell_at.kp T.B__law_cell_at .nil (fun σ => L2N.passAt tk σ) (L2.pa_cons (L2.pv 0) (L2.pa_cons pe_int L2.pa_nil))) pe_int) pe_int (nomark _)) L2.pa_nil)))
        (pss_cons (ps_set (i := 2) sc_law.nd rfl (Or.inl rfl) (pe_callSD (CX := L2N.CX P w) (E := WE (fun c d _ H => E c d H)) (G__law_keys []) (hr.mono (by decide)) (by rfl) T.m__law_keys T.F__law_keys.kp T.B__law_keys .nil (fun σ => L2N.passAt tk σ) (L2.pa_cons (pe_callSD (CX := L2N.CX P w) (E := WE (fun c d _ H => E c d H)) (G__law_cell_at []) (hr.mono (by decide)) (by rfl) T.m__law_cell_at T.F__law_cell_at.kp T.B__law_cell_at .nil (fun σ => L2N.passAt tk σ) (L2.pa_cons (L2.pv 0) (L2.pa_cons pe_int L2.pa_nil))) L2.pa_nil)))
        (pss_cons (ps_set (i := 3) sc_law.nd rfl (Or.inl rfl) (pe_makeSD (CX := L2N.CX P w) (E := WE (fun c d _ H => E c d H)) T.K_House (G_House___init__ A.tabs) (hr.mono (by decide)) (by rfl) T.c_House T.B_House___init__ .nil (fun σ => L2N.passAt tk σ) (pa_cons (L2.pv 1) (pa_cons (pe_callTy call_list_of (by rfl) T.b_list (by decide +kernel) (pa_cons (L2.pv 2) L2.pa_nil)) L2.pa_nil))))
        (pss_cons (ps_set (i := 4) sc_law.nd rfl (Or.inl rfl) (pe_disp (pps_cons pe_str pe_dnewK (pps_cons pe_str pe_dnewT (pps_cons pe_str (pe_lst L2.pa_nil) (pps_cons pe_str (pe_lst L2.pa_nil) pps_nil)))) rfl rfl (by simp) (by decide)))
        (pss_cons (ps_set (i := 5) sc_law.nd rfl (Or.inl rfl) (pe_lst (L2.pa_cons pe_int (L2.pa_cons pe_int (L2.pa_cons pe_int (L2.pa_cons pe_int (L2.pa_cons pe_int (L2.pa_cons pe_int L2.pa_nil))))))))
        (pss_cons (ps_for PassesOwn.leaving rfl (pi_list (pe_slice (slc_ K) (L2.pv 0) (po_some pe_int) po_none)) (pg_name (i := 6) sc_law.nd rfl (Or.inl rfl)) (pss_cons (ps_set (i := 7) sc_law.nd rfl (Or.inl rfl) (pe_op (bin_ K _) (L2.pv 6) pe_int))
        (pss_cons (ps_set (i := 8) sc_law.nd rfl (Or.inl rfl) (pe_op (bin_ K _) (L2.pv 6) pe_int))
        (pss_cons (ps_set (i := 9) sc_law.nd rfl (Or.inl rfl) (pe_callB (call_max2 rfl) (by rfl) T.b_max (by decide +kernel) (pa_cons pe_int (pa_cons (pe_op (bin_ K _) (pe_ix ix_seq (L2.pv 5) (L2.pv 7) (fun _ _ => rfl)) (pe_ix ix_seq (pe_lst (L2.pa_cons pe_int (L2.pa_cons pe_int (L2.pa_cons pe_int (L2.pa_cons pe_int (L2.pa_cons pe_int (L2.pa_cons (pe_un un_neg pe_int) (L2.pa_cons (pe_op (bin_ K _) pe_int (pe_op (bin_ K _) (pe_op (bin_ K _) (L2.pv 8) pe_int) pe_int)) (L2.pa_cons pe_int L2.pa_nil))))))))) (pe_op (bin_ K _) (L2.pv 8) pe_int) (fun _ _ => rfl))) L2.pa_nil))))
        (pss_cons (ps_asg (pe_callB (call_max2 rfl) (by rfl) T.b_max (by decide +kernel) (pa_cons (pe_ix ix_seq (L2.pv 5) (L2.pv 7) (fun _ _ => rfl)) (pa_cons (L2.pv 9) L2.pa_nil))) (pg_sub (L2.pv 5) (L2.pv 7) set_list))
        (pss_cons (ps_set (i := 10) sc_law.nd rfl (Or.inl rfl) (pe_ix ix_seq (L2.pv 2) (pe_op (bin_ K _) (pe_op (bin_ K _) (L2.pv 8) pe_int) (pe_callB (lenN_ K) (by rfl) T.b_len (by decide +kernel) (pa_cons (L2.pv 2) L2.pa_nil))) (fun _ _ => rfl)))
        (pss_cons (ps_set (i := 11) sc_law.nd rfl (Or.inl rfl) (pe_callSD (CX := L2N.CX P w) (E := WE (fun c d _ H => E c d H)) (G__law_wish []) (hr.mono (by decide)) (by rfl) T.m__law_wish T.F__law_wish.kp T.B__law_wish .nil (fun σ => L2N.passAt tk σ) (L2.pa_cons (pe_op (bin_ K _) (pe_op (bin_ K _) (pe_op (bin_ K _) (L2.pv 6) pe_int) pe_int) pe_int) L2.pa_nil)))
        (pss_cons (ps_if (pt_cmpR (cmp_ K _ hu) (pe_methSD (CX := L2N.CX P w) (E := WE (fun c d _ H => E c d H)) (L2.pv 3) T.C_House T.M_House_came G_House_came (hr.mono (by decide)) T.B_House_came .nil (fun σ => L2N.passAt tk σ) (pa_cons (pe_tup (L2.pa_cons pe_str (L2.pa_cons (L2.pv 1) (L2.pa_cons (L2.pv 7) (L2.pa_cons (L2.pv 9) (L2.pa_cons (L2.pv 10) (L2.pa_cons (L2.pv 11) L2.pa_nil))))))) L2.pa_nil)) pe_non (nomark _)) (pss_one (ps_ret pe_bl)) pss_nil)
        (pss_one (ps_if (pt_cmpR (cmp_ K _ hu) (L2.pv 1) pe_int (nomark _)) (pss_one (ps_expr (pe_callSD (CX := L2N.CX P w) (E := WE (fun c d _ H => E c d H)) (G__law_came A.tabs) (hr.mono (by decide)) (by rfl) T.m__law_came T.F__law_came.kp T.B__law_came .nil (fun σ => L2N.passAt tk σ) (pa_cons (L2.pv 4) (pa_cons (L2.pv 7) (pa_cons (L2.pv 9) (pa_cons (L2.pv 10) (pa_cons (L2.pv 11) L2.pa_nil)))))))) pss_nil))))))))))
        (pss_cons (ps_for PassesOwn.leaving rfl (pi_list (L2.pv 2)) (pg_name (i := 10) sc_law.nd rfl (Or.inl rfl)) (pss_cons (ps_set (i := 12) sc_law.nd rfl (Or.inl rfl) (pe_methSD (CX := L2N.CX P w) (E := WE (fun c d _ H => E c d H)) (L2.pv 3) T.C_House T.M_House_has (G_House_has A.tabs) (hr.mono (by decide)) T.B_House_has .nil (fun σ => L2N.passAt tk σ) (L2.pa_cons (L2.pv 10) L2.pa_nil)))
        (pss_one (ps_if (PW.pt (pw_or (L2.pt_not (L2.pt_val (pe_callB (isiN_ K) (by rfl) T.b_isinstance (by decide +kernel) (pa_cons (L2.pv 12) (pa_cons (pe_bltn (v := .ty "bool") (by rfl) T.b_bool (by decide +kernel) rfl) L2.pa_nil))))) (pw_or1 (pt_cmpR (cmp_ K _ hu) (L2.pv 12) (pe_cmpR (cmp_ K _ hu) (L2.pv 1) pe_int (nomark _)) (nomark _))))) (pss_one (ps_ret pe_bl)) pss_nil))))
        (pss_cons (ps_set (i := 12) sc_law.nd rfl (Or.inl rfl) (pe_meth0SD (CX := L2N.CX P w) (E := WE (fun c d _ H => E c d H)) (L2.pv 3) T.C_House T.M_House_write (G_House_write A.tabs) (hr.mono (by decide)) T.B_House_write .nil (fun σ => L2N.passAt tk σ)))
        (pss_cons (ps_if (PW.pt (pw_or (L2.pt_not (L2.pt_val (pe_callSD (CX := L2N.CX P w) (E := WE (fun c d _ H => E c d H)) (G__law_alike []) (hr.mono (by decide)) (by rfl) T.m__law_alike T.F__law_alike.kp T.B__law_alike .nil (fun σ => L2N.passAt tk σ) (L2.pa_cons (L2.pv 12) (L2.pa_cons (pe_tup (L2.pa_cons (pe_dget hu1 (L2.pv 4) pe_str (fun _ _ => rfl)) (L2.pa_cons (pe_dget hu1 (L2.pv 4) pe_str (fun _ _ => rfl)) L2.pa_nil))) L2.pa_nil))))) (pw_or1 (pt_cmpR (cmp_ K _ hu) (pe_meth0SD (CX := L2N.CX P w) (E := WE (fun c d _ H => E c d H)) (L2.pv 3) T.C_House T.M_House_owes (G_House_owes A.tabs) (hr.mono (by decide)) T.B_House_owes .nil (fun σ => L2N.passAt tk σ)) (pe_lst L2.pa_nil) (nomark _))))) (pss_one (ps_ret pe_bl)) pss_nil)
        (pss_cons (ps_expr (pe_bm PySem.F.plainAttrs_list PySem.F.slot_list_append PySem.F.type_list_append mt_append (pe_ix ix_seq (L2.pv 12) pe_int (fun _ _ => rfl)) (pa_cons pe_str L2.pa_nil)))
        (pss_cons (ps_expr (pe_bm PySem.F.plainAttrs_list PySem.F.slot_list_append PySem.F.type_list_append mt_append (pe_ix ix_seq (L2.pv 12) pe_int (fun _ _ => rfl)) (pa_cons pe_str L2.pa_nil)))
        (pss_one (ps_ret (pe_and (pe_callSD (CX := L2N.CX P w) (E := WE (fun c d _ H => E c d H)) (G__law_alike A.tabs) (hr.mono (by decide)) (by rfl) T.m__law_alike T.F__law_alike.kp T.B__law_alike .nil (fun σ => L2N.passAt tk σ) (pa_cons (pe_meth0SD (CX := L2N.CX P w) (E := WE (fun c d _ H => E c d H)) (L2.pv 3) T.C_House T.M_House_write (G_House_write A.tabs) (hr.mono (by decide)) T.B_House_write .nil (fun σ => L2N.passAt tk σ)) (pa_cons (pe_tup (L2.pa_cons (pe_lst L2.pa_nil) (L2.pa_cons (pe_lst L2.pa_nil) L2.pa_nil))) L2.pa_nil))) (pe_one (pe_cmpR (cmp_ K _ hu) (pe_meth0SD (CX := L2N.CX P w) (E := WE (fun c d _ H => E c d H)) (L2.pv 3) T.C_House T.M_House_nudge (G_House_nudge A.tabs) (hr.mono (by decide)) T.B_House_nudge .nil (fun σ => L2N.passAt tk σ)) (pe_lst L2.pa_nil) (nomark _))))))))))))))))),
    (sx_sq (sx_as 1 (fv_p (pv_s (dv_int (dv_of (pv_cmp isEq (dv_bin isMod (dv_call (da_cons (dv_of (pv_var 0)) (da_cons (dv_py (pv_int _)) da_nil))) (dv_py (pv_int _))) (dv_py (pv_int _))))))))
        (sx_sq (sx_as 2 (fv_p (pv_fz (nv_call (da_cons (dv_call (da_cons (dv_of (pv_var 0)) (da_cons (dv_py (pv_int _)) da_nil))) da_nil)))))
        (sx_sq (sx_as 3 (fv_makeSD (fa_co (fv_p (pv_var 1)) (fa_co (fv_p (pv_fz (nv_copy (dv_of (pv_var 2))))) fa_no))))
        (sx_sq (sx_as 4 (fv_dct (fp_co (k := (.inr "amounts")) (fv_n nv_dct0) (fp_co (k := (.inr "marks")) (fv_n nv_ddt0) (fp_co (k := (.inr "rows")) (fv_n (nv_lst Fx.pa_nil)) (fp_co (k := (.inr "letters")) (fv_n (nv_lst Fx.pa_nil)) fp_no))))))
        (sx_sq (sx_as 5 (fv_n (nv_lst (Fx.pa_cons (pv_int _) (Fx.pa_cons (pv_int _) (Fx.pa_cons (pv_int _) (Fx.pa_cons (pv_int _) (Fx.pa_cons (pv_int _) (Fx.pa_cons (pv_int _) Fx.pa_nil)))))))))
        (sx_sq (sx_fo (fv_p (pv_fz (nv_slc (pv_var 0) (po_i (dv_py (pv_int _))) po_no))) (tg_n 6) (sx_sq (sx_as 7 (fv_p (pv_s (dv_bin isMod (dv_of (pv_var 6)) (dv_py (pv_int _))))))
        (sx_sq (sx_as 8 (fv_p (pv_s (dv_bin isFdiv (dv_of (pv_var 6)) (dv_py (pv_int _))))))
        (sx_sq (sx_as 9 (fv_p (pv_s (dv_max (dv_py (pv_int _)) (dv_bin isAdd (dv_of (pv_idx (pv_var 5) (dv_of (pv_var 7)))) (dv_of (pv_idx (pv_fz (nv_lst (Fx.pa_cons (pv_int _) (Fx.pa_cons (pv_int _) (Fx.pa_cons (pv_int _) (Fx.pa_cons (pv_int _) (Fx.pa_cons (pv_int _) (Fx.pa_cons (pv_s (dv_neg (dv_py (pv_int _)))) (Fx.pa_cons (pv_s (dv_bin isAdd (dv_py (pv_int _)) (dv_bin isMod (dv_bin isFdiv (dv_of (pv_var 8)) (dv_py (pv_int _))) (dv_py (pv_int _))))) (Fx.pa_cons (pv_int _) Fx.pa_nil)))))))))) (dv_bin isMod (dv_of (pv_var 8)) (dv_py (pv_int _))))))))))
        (sx_sq (sx_sl (pv_var 5) (dv_of (pv_var 7)) (fv_p (pv_s (dv_max (dv_of (pv_idx (pv_var 5) (dv_of (pv_var 7)))) (dv_of (pv_var 9))))))
        (sx_sq (sx_as 10 (fv_p (pv_idx (pv_var 2) (dv_bin isMod (dv_bin isFdiv (dv_of (pv_var 8)) (dv_py (pv_int _))) (dv_of (pv_len (pv_var 2)))))))
        (sx_sq (sx_as 11 (fv_p (pv_s (dv_call (da_cons (dv_bin isFdiv (dv_bin isMul (dv_bin isAdd (dv_of (pv_var 6)) (dv_py (pv_int _))) (dv_py (pv_int _))) (dv_py (pv_int _))) da_nil)))))
        (sx_sq (sx_if (ft_test (fv_cmp2 isIsnt (fv_z (fv_meth (pv_var 3) (fa_co (fv_p (pv_tup (Fx.pa_cons (pv_str _) (Fx.pa_cons (pv_var 1) (Fx.pa_cons (pv_var 7) (Fx.pa_cons (pv_var 9) (Fx.pa_cons (pv_var 10) (Fx.pa_cons (pv_var 11) Fx.pa_nil)))))))) fa_no))) (fv_p pv_non))) (sx_rt (fv_p (pv_bl _))) sx_nx)
        (sx_if (ft_b (Fx.pt_cmp isEq (dv_of (pv_var 1)) (dv_py (pv_int _)))) (sx_dr (fv_call (fa_co (fv_p (pv_var 4)) (fa_co (fv_p (pv_var 7)) (fa_co (fv_p (pv_var 9)) (fa_co (fv_p (pv_var 10)) (fa_co (fv_p (pv_var 11)) fa_no))))))) sx_nx)))))))))
        (sx_sq (sx_fo (fv_p (pv_var 2)) (tg_n 10) (sx_sq (sx_as 12 (fv_p (pv_methR (pv_var 3) (ps_co (pv_var 10) ps_no))))
        (sx_if (ft_b (Fx.pt_or (Fx.pt_not (Fx.pt_val (pv_isi (by simp) (pv_var 12) (pv_at _)))) (Fx.pt_cmp isNe (dv_of (pv_var 12)) (dv_of (pv_cmp isEq (dv_of (pv_var 1)) (dv_py (pv_int _))))))) (sx_rt (fv_p (pv_bl _))) sx_nx)))
        (sx_sq (sx_as 12 (fv_meth (pv_var 3) fa_no))
        (sx_sq (sx_if (ft_or (ft_b (Fx.pt_not (Fx.pt_val (pv_s (dv_call (da_cons (dv_of (pv_var 12)) (da_cons (dv_tup (da_cons (dv_of (pv_get (pv_var 4) (dv_py (pv_str _)))) (da_cons (dv_of (pv_get (pv_var 4) (dv_py (pv_str _)))) da_nil))) da_nil))))))) (ft_test (fv_cmp2 isNe (fv_z (fv_meth (pv_var 3) fa_no)) (fv_p (pv_fz (nv_lst Fx.pa_nil)))))) (sx_rt (fv_p (pv_bl _))) sx_nx)
        (sx_sq (sx_ap (pv_idx (pv_var 12) (dv_py (pv_int _))) (fv_p (pv_str _)))
        (sx_sq (sx_ap (pv_idx (pv_var 12) (dv_py (pv_int _))) (fv_p (pv_str _)))
        (sx_rt (fv_and (fv_call (fa_co (fv_z (fv_meth (pv_var 3) fa_no)) (fa_co (fv_p (pv_tup (Fx.pa_cons (pv_fz (nv_lst Fx.pa_nil)) (Fx.pa_cons (pv_fz (nv_lst Fx.pa_nil)) Fx.pa_nil)))) fa_no))) (fv_cmp2 isEq (fv_z (fv_meth (pv_var 3) fa_no)) (fv_p (pv_fz (nv_lst Fx.pa_nil)))))))))))))))))⟩
theorem ok_all (T : Txt K mg A) (TB : LamX.TabB base mg A.lc A.lP) : FnOk P w K mg base (L2N.CX P w) 7 A.f_law A.d_law ["_law_script"] (PSf K ⟨A.cl, A.tabs⟩ S_law) := by
  have G_done := ok_done (P := P) (w := w) (base := base) T 
  have G_known_at_first := ok_known_at_first (P := P) (w := w) (base := base) T 
  have G_mark_of := ok_mark_of (P := P) (w := w) (base := base) T 
  have G_with_mark := ok_with_mark (P := P) (w := w) (base := base) T TB 
  have G_House_has := ok_House_has (P := P) (w := w) (base := base) T 
  have G_House_parcel := ok_House_parcel (P := P) (w := w) (base := base) T 
  have G_House_lay_out := ok_House_lay_out (P := P) (w := w) (base := base) T 
  have G_House___init__ := ok_House___init__ (P := P) (w := w) (base := base) T G_known_at_first
  have G_House_owes := ok_House_owes (P := P) (w := w) (base := base) T 
  have G_House_do_wish := ok_House_do_wish (P := P) (w := w) (base := base) T TB G_done G_with_mark
  have G_House_call_came := ok_House_call_came (P := P) (w := w) (base := base) T TB G_House_do_wish G_House_has G_House_lay_out G_mark_of
  have G_House_parcel_came := ok_House_parcel_came (P := P) (w := w) (base := base) T G_House_lay_out
  have G_House_taken_came := ok_House_taken_came (P := P) (w := w) (base := base) T 
  have G_House_came := ok_House_came (P := P) (w := w) (base := base) T TB G_House_call_came G_House_parcel_came G_House_taken_came
  have G_House_write := ok_House_write (P := P) (w := w) (base := base) T 
  have G_House_nudge := ok_House_nudge (P := P) (w := w) (base := base) T G_House_parcel
  have G__law_cell_at := ok__law_cell_at (P := P) (w := w) (base := base) T 
  have G__law_alike := ok__law_alike (P := P) (w := w) (base := base) T 
  have G__law_wish := ok__law_wish (P := P) (w := w) (base := base) T 
  have G__law_keys := ok__law_keys (P := P) (w := w) (base := base) T 
  have G__law_done := ok__law_done (P := P) (w := w) (base := base) T 
  have G__law_came := ok__law_came (P := P) (w := w) (base := base) T G__law_done
  have G_law := ok_law (P := P) (w := w) (base := base) T TB G_House___init__ G_House_came G_House_has G_House_nudge G_House_owes G_House_write G__law_alike G__law_came G__law_cell_at G__law_keys G__law_wish
  exact G_law
end
end L

/-! Movehouse: the document's world as plain functions, and what holds of one key. Core Lean alone. -/
namespace Mv

inductive Wish where
  | get | set (n : Int) | add (n : Int)
  deriving DecidableEq
/-- the amount behind the wish, and what it tells -/
def Wish.done : Wish → Int → Int × Int
  | .get, a => (a, a)
  | .set n, a => (n, a)
  | .add n, a => (a + n, a + n)

abbrev Mark := Int × Int × Int
/-- a caller's last number in the marks, and what it told -/
def last : List Mark → Int → Int × Int
  | [], _ => (0, 0)
  | m :: r, d => if m.1 = d then m.2 else last r d
/-- the mark of a caller set, rising by caller -/
def marked : List Mark → Int → Int → Int → List Mark
  | [], c, n, t => [(c, n, t)]
  | m :: r, c, n, t => if m.1 = c then (c, n, t) :: r else if c < m.1 then (c, n, t) :: m :: r else m :: marked r c n t
theorem last_marked : ∀ (ms : List Mark) (c n t d : Int), last (marked ms c n t) d = if c = d then (n, t) else last ms d
  | [], c, n, t, d => by simp [marked, last]
  | m :: r, c, n, t, d => by
    have ih := last_marked r c n t d
    unfold marked
    split
    · rename_i h
      by_cases e : c = d
      · simp [last, e]
      · simp [last, e, h]
    · rename_i h
      split
      · by_cases e : c = d
        · simp [last, e]
        · simp [last, e]
      · by_cases e : c = d
        · subst e; simp [last, h, ih]
        · simp only [last, ih, e, if_false]
theorem last_marked_same (ms : List Mark) (c n t : Int) : last (marked ms c n t) c = (n, t) := by rw [last_marked, if_pos rfl]
theorem last_marked_ne (ms : List Mark) {c d : Int} (n t : Int) (h : c ≠ d) : last (marked ms c n t) d = last ms d := by rw [last_marked, if_neg h]

/-- marks rise by caller -/
def Rising (ms : List Mark) : Prop := ms.Pairwise fun a b => a.1 < b.1
theorem mem_marked : ∀ {ms : List Mark} {c n t : Int} {x : Mark}, x ∈ marked ms c n t → x = (c, n, t) ∨ x ∈ ms
  | [], c, n, t, x, h => by simp [marked] at h; exact .inl h
  | m :: r, c, n, t, x, h => by
    unfold marked at h
    split at h
    · rcases List.mem_cons.mp h with h | h
      · exact .inl h
      · exact .inr (List.mem_cons_of_mem _ h)
    · split at h
      · rcases List.mem_cons.mp h with h | h
        · exact .inl h
        · exact .inr h
      · rcases List.mem_cons.mp h with h | h
        · exact .inr (h ▸ List.mem_cons_self)
        · rcases mem_marked h with h | h
          · exact .inl h
          · exact .inr (List.mem_cons_of_mem _ h)
theorem Rising.marked : ∀ {ms : List Mark} {c n t : Int}, Rising ms → Rising (Mv.marked ms c n t)
  | [], c, n, t, _ => by simp [Mv.marked, Rising]
  | m :: r, c, n, t, h => by
    obtain ⟨h1, h2⟩ := List.pairwise_cons.mp h
    unfold Mv.marked
    split
    · rename_i e
      exact List.pairwise_cons.mpr ⟨fun a ha => by have := h1 a ha; simp only; omega, h2⟩
    · split
      · rename_i e1 e2
        refine List.pairwise_cons.mpr ⟨fun a ha => ?_, h⟩
        rcases List.mem_cons.mp ha with rfl | ha
        · exact e2
        · have := h1 a ha; simp only; omega
      · rename_i e1 e2
        refine List.pairwise_cons.mpr ⟨fun a ha => ?_, Rising.marked h2⟩
        rcases mem_marked ha with rfl | ha
        · simp only; omega
        · exact h1 a ha

theorem snocRec {α : Type} {motive : List α → Prop} (nil : motive []) (append_singleton : ∀ l a, motive l → motive (l ++ [a])) (l : List α) : motive l := by
  have h : ∀ m : List α, motive m.reverse := by
    intro m
    induction m with
    | nil => exact nil
    | cons a m ih => rw [List.reverse_cons]; exact append_singleton _ _ ih
  have := h l.reverse
  rwa [List.reverse_reverse] at this
theorem eqNot {g X : Bool} (h : g ≠ X) : g = !X := by cases g <;> cases X <;> first | rfl | exact absurd rfl h

inductive St where
  | here | owed | gone
  deriving DecidableEq
structure Row where
  turn : Int
  st : St
  amount : Int
  marks : List Mark
  deriving DecidableEq
abbrev Row.held (r : Row) : Int × List Mark := (r.amount, r.marks)
/-- a row of the ledger -/
structure LRow (K : Type) where
  c : Int
  n : Int
  k : K
  w : Wish
  told : Int
  deriving DecidableEq
inductive Letter (K : Type) where
  | call (h : Bool) (c n : Int) (k : K) (w : Wish)
  | answer (c n told : Int)
  | parcel (h : Bool) (k : K) (turn amount : Int) (marks : List Mark)
  | taken (h : Bool) (k : K) (turn : Int)
  deriving DecidableEq

variable {K : Type}

/-! ## the line of one key -/
def stepL (s : Int × List Mark) (r : LRow K) : Int × List Mark := ((r.w.done s.1).1, marked s.2 r.c r.n r.told)
/-- what a key holds behind these wishes -/
def replay (L : List (LRow K)) : Int × List Mark := L.foldl stepL (0, [])
theorem replay_snoc (L : List (LRow K)) (r : LRow K) : replay (L ++ [r]) = stepL (replay L) r := by simp [replay, List.foldl_append]
/-- each row's number is beyond its caller's last one, and it tells what the desk tells -/
def Chain (L : List (LRow K)) : Prop := ∀ L1 r L2, L = L1 ++ r :: L2 → (last (replay L1).2 r.c).1 < r.n ∧ r.told = (r.w.done (replay L1).1).2
theorem chain_nil : Chain ([] : List (LRow K)) := fun L1 r L2 h => by simp at h
theorem Chain.snoc {L : List (LRow K)} {r : LRow K} (h : Chain L) (h1 : (last (replay L).2 r.c).1 < r.n) (h2 : r.told = (r.w.done (replay L).1).2) : Chain (L ++ [r]) := fun L1 x L2 e => by
  rcases List.eq_nil_or_concat L2 with z | ⟨M, y, z⟩
  · subst z
    have e' : L ++ [r] = L1 ++ [x] := e
    obtain ⟨rfl, e3⟩ := List.append_inj' e' rfl
    cases e3
    exact ⟨h1, h2⟩
  · subst z
    have e' : L ++ [r] = (L1 ++ x :: M) ++ [y] := by simpa using e
    obtain ⟨rfl, _⟩ := List.append_inj' e' rfl
    exact h L1 x M rfl
theorem Chain.left {L M : List (LRow K)} (h : Chain (L ++ M)) : Chain L := fun L1 r L2 e => h L1 r (L2 ++ M) (by rw [e]; simp)
/-- what the marks say is a row -/
theorem last_row : ∀ (L : List (LRow K)) (c : Int), (last (replay L).2 c).1 ≠ 0 → ∃ r ∈ L, r.c = c ∧ r.n = (last (replay L).2 c).1 ∧ r.told = (last (replay L).2 c).2 := by
  intro L
  induction L using snocRec with
  | nil => intro c h; simp [replay, last] at h
  | append_singleton L r ih =>
    intro c h
    rw [replay_snoc] at h ⊢
    by_cases e : r.c = c
    · subst e
      refine ⟨r, by simp, rfl, ?_, ?_⟩ <;> simp [stepL, last_marked_same]
    · simp only [stepL, last_marked_ne _ _ _ e] at h ⊢
      obtain ⟨x, hx, z⟩ := ih c h
      exact ⟨x, List.mem_append_left _ hx, z⟩
theorem Chain.le {L : List (LRow K)} : Chain L → ∀ r ∈ L, r.n ≤ (last (replay L).2 r.c).1 := by
  induction L using snocRec with
  | nil => intro _ r h; simp at h
  | append_singleton L x ih =>
    intro h r hr
    have hx := h L x [] rfl
    rw [replay_snoc]
    rcases List.mem_append.mp hr with hr | hr
    · have := ih h.left r hr
      by_cases e : x.c = r.c
      · simp only [stepL, e, last_marked_same]
        rw [e] at hx
        omega
      · simp only [stepL, last_marked_ne _ _ _ e]
        exact this
    · have := List.mem_singleton.mp hr
      subst this
      simp [stepL, last_marked_same]
/-- no call stands there twice -/
theorem Chain.once {L : List (LRow K)} : Chain L → L.Pairwise fun a b => ¬ (a.c = b.c ∧ a.n = b.n) := by
  induction L using snocRec with
  | nil => intro _; exact .nil
  | append_singleton L x ih =>
    intro h
    refine List.pairwise_append.mpr ⟨ih h.left, by simp, fun a ha b hb => ?_⟩
    have := List.mem_singleton.mp hb
    subst this
    have h1 := h.left.le a ha
    have h2 := (h L b [] rfl).1
    rintro ⟨e1, e2⟩
    rw [e1] at h1
    omega

/-- WHAT HOLDS OF ONE KEY: what stands in the ledger of it; what each house wrote down, knows, and has done since. X keeps it by what is written. -/
structure KInvAt (L : List (LRow K)) (wr kn : Bool → Row) (fr : Bool → List (LRow K)) (X : Bool) : Prop where
  turn : (wr (!X)).turn = (wr X).turn - 1
  off : (wr (!X)).st ≠ .here
  on : (wr X).st ≠ .gone
  ch : Chain L
  held : (wr X).held = replay L
  rest : ((wr X).st = .owed ∧ kn X = wr X ∧ fr X = [] ∧
      (((kn !X).turn = (wr X).turn - 1 ∧ (kn !X).st ≠ .here ∧ fr (!X) = []) ∨
       ((kn !X).turn = (wr X).turn + 1 ∧ (kn !X).st ≠ .gone ∧ Chain (L ++ fr !X) ∧ (kn !X).held = replay (L ++ fr !X)))) ∨
    ((wr X).st = .here ∧ (kn X).turn = (wr X).turn ∧ (kn X).st ≠ .gone ∧ Chain (L ++ fr X) ∧ (kn X).held = replay (L ++ fr X) ∧
      (kn !X).turn = (wr X).turn - 1 ∧ (kn !X).st ≠ .here ∧ fr (!X) = [])
def KInv (L : List (LRow K)) (wr kn : Bool → Row) (fr : Bool → List (LRow K)) : Prop := ∃ X, KInvAt L wr kn fr X

def setB {α : Type} (f : Bool → α) (g : Bool) (x : α) : Bool → α := fun b => if b = g then x else f b
@[simp] theorem setB_same {α : Type} (f : Bool → α) (g : Bool) (x : α) : setB f g x g = x := by simp [setB]
@[simp] theorem setB_not {α : Type} (f : Bool → α) (g : Bool) (x : α) : setB f g x (!g) = f (!g) := by simp [setB]
@[simp] theorem setB_not' {α : Type} (f : Bool → α) (g : Bool) (x : α) : setB f (!g) x g = f g := by cases g <;> simp [setB]
theorem setB_self {α : Type} (f : Bool → α) (g : Bool) : setB f g (f g) = f := by funext b; unfold setB; split <;> simp_all

section
variable {L : List (LRow K)} {wr kn : Bool → Row} {fr : Bool → List (LRow K)} {g : Bool}

/-- where the key is here in a house: what it holds, in this very order -/
theorem KInv.here (I : KInv L wr kn fr) (h : (kn g).st = .here) : Chain (L ++ fr g) ∧ (kn g).held = replay (L ++ fr g) ∧ (kn !g).st ≠ .here ∧ fr (!g) = [] ∧ (kn !g).turn < (kn g).turn := by
  obtain ⟨X, T⟩ := I
  rcases T.rest with ⟨o, k, f, r⟩ | ⟨o, t, n, c, e, t', n', f'⟩
  · by_cases z : g = X
    · subst z; rw [k, o] at h; cases h
    · have z : g = !X := eqNot z
      subst z
      rcases r with ⟨_, q, _⟩ | ⟨q1, q2, q3, q4⟩
      · exact absurd h q
      · simp only [Bool.not_not]
        refine ⟨q3, q4, by rw [k, o]; decide, f, by rw [k, q1]; omega⟩
  · by_cases z : g = X
    · subst z
      exact ⟨c, e, n', f', by omega⟩
    · have z : g = !X := eqNot z
      subst z
      exact absurd h n'
/-- a wish is done where the key is here -/
theorem KInv.doneAt (I : KInv L wr kn fr) (h : (kn g).st = .here) {r : LRow K} (hn : (last (kn g).marks r.c).1 < r.n) (ht : r.told = (r.w.done (kn g).amount).2) :
    KInv L wr (setB kn g { kn g with amount := (r.w.done (kn g).amount).1, marks := marked (kn g).marks r.c r.n r.told }) (setB fr g (fr g ++ [r])) := by
  obtain ⟨c, e, n', f', t'⟩ := I.here h
  have em : (kn g).marks = (replay (L ++ fr g)).2 := congrArg Prod.snd e
  have ea : (kn g).amount = (replay (L ++ fr g)).1 := congrArg Prod.fst e
  have c' : Chain (L ++ (fr g ++ [r])) := by
    rw [← List.append_assoc]
    exact c.snoc (by rw [← em]; exact hn) (by rw [← ea]; exact ht)
  have e' : (((r.w.done (kn g).amount).1, marked (kn g).marks r.c r.n r.told) : Int × List Mark) = replay (L ++ (fr g ++ [r])) := by
    rw [← List.append_assoc, replay_snoc, ← e]
    rfl
  obtain ⟨X, T⟩ := I
  refine ⟨X, T.turn, T.off, T.on, T.ch, T.held, ?_⟩
  rcases T.rest with ⟨o, k, f, s⟩ | ⟨o, t, n, c1, e1, t1, n1, f1⟩
  · by_cases z : g = X
    · subst z; rw [k, o] at h; cases h
    · have z : g = !X := eqNot z
      subst z
      rcases s with ⟨_, q, _⟩ | ⟨q1, q2, q3, q4⟩
      · exact absurd h q
      · refine .inl ⟨o, by simpa using k, by simpa using f, .inr ⟨?_, ?_, ?_, ?_⟩⟩
        · simpa using q1
        · simpa using q2
        · simpa using c'
        · simpa [Row.held] using e'
  · by_cases z : g = X
    · subst z
      refine .inr ⟨o, ?_, ?_, ?_, ?_, ?_, ?_, ?_⟩
      · simpa using t
      · simpa using n
      · simpa using c'
      · simpa [Row.held] using e'
      · simpa using t1
      · simpa using n1
      · simpa using f1
    · have z : g = !X := eqNot z
      subst z
      exact absurd h n1
/-- a key that is here is moved -/
theorem KInv.moved (I : KInv L wr kn fr) (h : (kn g).st = .here) : KInv L wr (setB kn g { kn g with st := .owed }) fr := by
  obtain ⟨X, T⟩ := I
  refine ⟨X, T.turn, T.off, T.on, T.ch, T.held, ?_⟩
  rcases T.rest with ⟨o, k, f, s⟩ | ⟨o, t, n, c1, e1, t1, n1, f1⟩
  · by_cases z : g = X
    · subst z; rw [k, o] at h; cases h
    · have z : g = !X := eqNot z
      subst z
      rcases s with ⟨_, q, _⟩ | ⟨q1, q2, q3, q4⟩
      · exact absurd h q
      · refine .inl ⟨o, by simpa using k, f, .inr ⟨?_, ?_, q3, ?_⟩⟩
        · simpa using q1
        · simp
        · simpa [Row.held] using q4
  · by_cases z : g = X
    · subst z
      refine .inr ⟨o, ?_, ?_, c1, ?_, ?_, ?_, f1⟩
      · simpa using t
      · simp
      · simpa [Row.held] using e1
      · simpa using t1
      · simpa using n1
    · have z : g = !X := eqNot z
      subst z
      exact absurd h n1
/-- a house writes -/
theorem KInv.wrote (I : KInv L wr kn fr) (g : Bool) : KInv (L ++ fr g) (setB wr g (kn g)) kn (setB fr g []) := by
  obtain ⟨X, T⟩ := I
  rcases T.rest with ⟨o, k, f, s⟩ | ⟨o, t, n, c1, e1, t1, n1, f1⟩
  · by_cases z : g = X
    · subst z
      have ew : setB wr g (kn g) = wr := by rw [k]; exact setB_self _ _
      have ef : setB fr g [] = fr := by rw [← f]; exact setB_self _ _
      rw [ew, ef, f, List.append_nil]
      exact ⟨g, T⟩
    · have z : g = !X := eqNot z
      subst z
      rcases s with ⟨q1, q2, q3⟩ | ⟨q1, q2, q3, q4⟩
      · have ef : setB fr (!X) [] = fr := by rw [← q3]; exact setB_self _ _
        rw [ef, q3, List.append_nil]
        refine ⟨X, by simpa using q1, by simpa using q2, by simpa using T.on, T.ch, by simpa using T.held, .inl ⟨by simpa using o, by simpa using k, f, .inl ⟨by simpa using q1, q2, q3⟩⟩⟩
      · refine ⟨!X, by simp; omega, by simp [o], by simpa using q2, q3, by simpa using q4, ?_⟩
        cases hs : (kn !X).st with
        | gone => exact absurd hs q2
        | owed =>
          refine .inl ⟨by simpa using hs, by simp, by simp, .inl ⟨?_, ?_, ?_⟩⟩
          · simp [k]; omega
          · simp [k, o]
          · simp [f]
        | here =>
          refine .inr ⟨by simpa using hs, by simp, by simp [hs], by simpa using q3, by simpa using q4, ?_, ?_, ?_⟩
          · simp [k]; omega
          · simp [k, o]
          · simp [f]
  · by_cases z : g = X
    · subst z
      refine ⟨g, by simp; rw [T.turn, t], by simpa using T.off, by simpa using n, c1, by simpa using e1, ?_⟩
      cases hs : (kn g).st with
      | gone => exact absurd hs n
      | owed => exact .inl ⟨by simpa using hs, by simp, by simp, .inl ⟨by simp; omega, n1, by simpa using f1⟩⟩
      | here => exact .inr ⟨by simpa using hs, by simp, by simp [hs], by simpa using c1, by simpa using e1, by simp; omega, n1, by simpa using f1⟩
    · have z : g = !X := eqNot z
      subst z
      have ef : setB fr (!X) [] = fr := by rw [← f1]; exact setB_self _ _
      rw [ef, f1, List.append_nil]
      exact ⟨X, by simpa using t1, by simpa using n1, by simpa using T.on, T.ch, by simpa using T.held, .inr ⟨by simpa using o, by simpa using t, n, c1, e1, by simpa using t1, n1, f1⟩⟩
/-- a house falls asleep -/
theorem KInv.slept (I : KInv L wr kn fr) (g : Bool) : KInv L wr (setB kn g (wr g)) (setB fr g []) := by
  obtain ⟨X, T⟩ := I
  refine ⟨X, T.turn, T.off, T.on, T.ch, T.held, ?_⟩
  rcases T.rest with ⟨o, k, f, s⟩ | ⟨o, t, n, c1, e1, t1, n1, f1⟩
  · by_cases z : g = X
    · subst z
      have e1 : setB kn g (wr g) = kn := by rw [← k]; exact setB_self _ _
      have e2 : setB fr g [] = fr := by rw [← f]; exact setB_self _ _
      rw [e1, e2]
      exact .inl ⟨o, k, f, s⟩
    · have z : g = !X := eqNot z
      subst z
      exact .inl ⟨o, by simpa using k, by simpa using f, .inl ⟨by simpa using T.turn, by simpa using T.off, by simp⟩⟩
  · by_cases z : g = X
    · subst z
      exact .inr ⟨o, by simp, by simpa using T.on, by simpa using T.ch, by simpa using T.held, by simpa using t1, by simpa using n1, by simpa using f1⟩
    · have z : g = !X := eqNot z
      subst z
      exact .inr ⟨o, by simpa using t, by simpa using n, by simpa using c1, by simpa using e1, by simpa using T.turn, by simpa using T.off, by simp⟩
/-- a parcel under way: old, or the one that the written holder owes -/
def ParcelOk (wr : Bool → Row) (h : Bool) (t a : Int) (ms : List Mark) : Prop :=
  t ≤ (wr h).turn ∨ ((wr !h).st = .owed ∧ t = (wr !h).turn + 1 ∧ (wr h).turn = (wr !h).turn - 1 ∧ (wr !h).held = (a, ms))
/-- a taken letter under way -/
def TakenOk (wr : Bool → Row) (h : Bool) (t : Int) : Prop := t ≤ (wr !h).turn
theorem KInv.kn_ge (I : KInv L wr kn fr) (g : Bool) : (wr g).turn ≤ (kn g).turn := by
  obtain ⟨X, T⟩ := I
  have := T.turn
  rcases T.rest with ⟨o, k, f, s⟩ | ⟨o, t, n, c1, e1, t1, n1, f1⟩
  · by_cases z : g = X
    · subst z; rw [k]; omega
    · have z : g = !X := eqNot z
      subst z
      rcases s with ⟨q1, _⟩ | ⟨q1, _⟩ <;> omega
  · by_cases z : g = X
    · subst z; omega
    · have z : g = !X := eqNot z
      subst z; omega
/-- a parcel comes -/
theorem KInv.parcel (I : KInv L wr kn fr) {t a : Int} {ms : List Mark} (p : ParcelOk wr g t a ms) (ht : (kn g).turn < t) : KInv L wr (setB kn g ⟨t, .here, a, ms⟩) fr ∧ fr g = [] := by
  have ge := I.kn_ge g
  rcases p with p | ⟨p1, p2, p3, p4⟩
  · omega
  · obtain ⟨X, T⟩ := I
    have h1 := T.turn
    have z : g = !X := by
      by_cases z : g = X
      · subst z; omega
      · exact eqNot z
    subst z
    simp only [Bool.not_not] at p1 p2 p3 p4
    rcases T.rest with ⟨o, k, f, s⟩ | ⟨o, _⟩
    · rcases s with ⟨q1, q2, q3⟩ | ⟨q1, _⟩
      · refine ⟨⟨X, T.turn, T.off, T.on, T.ch, T.held, .inl ⟨o, by simpa using k, f, .inr ⟨by simp; omega, by simp, by simp [q3]; exact T.ch, ?_⟩⟩⟩, q3⟩
        simp only [setB_same, q3, List.append_nil]
        rw [← T.held, p4]
      · omega
    · rw [p1] at o; cases o
/-- a taken letter comes -/
theorem KInv.taken (I : KInv L wr kn fr) {t : Int} (p : TakenOk wr g t) (hs : (kn g).st = .owed) (ht : t = (kn g).turn + 1) : KInv L wr (setB kn g ⟨(kn g).turn, .gone, 0, []⟩) fr := by
  obtain ⟨X, T⟩ := I
  have h1 := T.turn
  unfold TakenOk at p
  refine ⟨X, T.turn, T.off, T.on, T.ch, T.held, ?_⟩
  rcases T.rest with ⟨o, k, f, s⟩ | ⟨o, t0, n, c1, e1, t1, n1, f1⟩
  · by_cases z : g = X
    · subst z; rw [k] at ht; omega
    · have z : g = !X := eqNot z
      subst z
      simp only [Bool.not_not] at p
      rcases s with ⟨q1, q2, q3⟩ | ⟨q1, _⟩
      · exact .inl ⟨o, by simpa using k, f, .inl ⟨by simpa using q1, by simp, q3⟩⟩
      · omega
  · by_cases z : g = X
    · subst z; omega
    · have z : g = !X := eqNot z
      subst z
      exact .inr ⟨o, by simpa using t0, by simpa using n, c1, by simpa using e1, by simpa using t1, by simp, f1⟩
end
end Mv

/-! The world: houses, callers, post, ledger; the deeds; what always holds. Core Lean alone. -/
namespace Mv
variable {K : Type} [DecidableEq K]

structure House (K : Type) where
  known : K → Row
  written : K → Row
  laid : List (Letter K)
  fresh : List (LRow K)
structure Caller (K : Type) where
  made : Int
  asked : Option (Int × K × Wish)
  closed : List (Int × Int)
structure World (K : Type) where
  houses : Bool → House K
  post : List (Letter K)
  ledger : List (LRow K)
  callers : Int → Caller K

def setK {α : Type} (f : K → α) (k : K) (v : α) : K → α := fun j => if j = k then v else f j
@[simp] theorem setK_same {α : Type} (f : K → α) (k : K) (v : α) : setK f k v k = v := by simp [setK]
theorem setK_ne {α : Type} (f : K → α) {k j : K} (v : α) (h : j ≠ k) : setK f k v j = f j := by simp [setK, h]
def rowsOf (k : K) (L : List (LRow K)) : List (LRow K) := L.filter fun r => decide (r.k = k)
theorem rowsOf_append (k : K) (L M : List (LRow K)) : rowsOf k (L ++ M) = rowsOf k L ++ rowsOf k M := List.filter_append ..
@[simp] theorem rowsOf_nil (k : K) : rowsOf k ([] : List (LRow K)) = [] := rfl
theorem rowsOf_one (k : K) (r : LRow K) : rowsOf k [r] = if r.k = k then [r] else [] := by
  unfold rowsOf
  by_cases h : r.k = k <;> simp [h]
theorem mem_rowsOf {k : K} {L : List (LRow K)} {r : LRow K} : r ∈ rowsOf k L ↔ r ∈ L ∧ r.k = k := by simp [rowsOf]

/-- what house 0 and house 1 know at first -/
def House.new (g : Bool) : House K := { known := fun _ => if g then ⟨-1, .gone, 0, []⟩ else ⟨0, .here, 0, []⟩, written := fun _ => if g then ⟨-1, .gone, 0, []⟩ else ⟨0, .here, 0, []⟩, laid := [], fresh := [] }
/-- the parcel that a house owes -/
def parcelOf (g : Bool) (k : K) (r : Row) : Letter K := .parcel (!g) k (r.turn + 1) r.amount r.marks
def House.called (H : House K) (c n : Int) (k : K) (w : Wish) : House K :=
  if (H.known k).st = .here then
    if n < (last (H.known k).marks c).1 then H
    else if (last (H.known k).marks c).1 < n then
      { H with known := setK H.known k { H.known k with amount := (w.done (H.known k).amount).1, marks := marked (H.known k).marks c n (w.done (H.known k).amount).2 },
               laid := H.laid ++ [.answer c n (w.done (H.known k).amount).2], fresh := H.fresh ++ [⟨c, n, k, w, (w.done (H.known k).amount).2⟩] }
    else { H with laid := H.laid ++ [.answer c n (last (H.known k).marks c).2] }
  else H
def House.parcelCame (g : Bool) (H : House K) (k : K) (t a : Int) (ms : List Mark) : House K :=
  { H with known := if (H.known k).turn < t then setK H.known k ⟨t, .here, a, ms⟩ else H.known, laid := H.laid ++ [.taken (!g) k t] }
def House.takenCame (H : House K) (k : K) (t : Int) : House K :=
  if (H.known k).st = .owed ∧ t = (H.known k).turn + 1 then { H with known := setK H.known k ⟨(H.known k).turn, .gone, 0, []⟩ } else H
def House.moved (g : Bool) (H : House K) (k : K) : House K :=
  { H with known := setK H.known k { H.known k with st := .owed }, laid := H.laid ++ [parcelOf g k (H.known k)] }
def House.wrote (H : House K) : House K := { known := H.known, written := H.known, laid := [], fresh := [] }
def House.slept (H : House K) : House K := { known := H.written, written := H.written, laid := [], fresh := [] }
def House.nudged (g : Bool) (H : House K) (keys : List K) : List (Letter K) := (keys.filter fun k => decide ((H.written k).st = .owed)).map fun k => parcelOf g k (H.written k)
def House.owes (H : House K) (keys : List K) : List K := keys.filter fun k => decide ((H.known k).st = .owed)

def Caller.new : Caller K := ⟨0, none, []⟩
def Caller.begun (C : Caller K) (k : K) (w : Wish) : Caller K := { C with made := C.made + 1, asked := some (C.made + 1, k, w) }
def Caller.came (C : Caller K) (n told : Int) : Caller K :=
  match C.asked with
  | some (m, _, _) => if m = n then { C with asked := none, closed := C.closed ++ [(n, told)] } else C
  | none => C

def World.new : World K := ⟨House.new, [], [], fun _ => Caller.new⟩
def setC {α : Type} (f : Int → α) (c : Int) (x : α) : Int → α := fun d => if d = c then x else f d
@[simp] theorem setC_same {α : Type} (f : Int → α) (c : Int) (x : α) : setC f c x c = x := by simp [setC]
theorem setC_ne {α : Type} (f : Int → α) {c d : Int} (x : α) (h : d ≠ c) : setC f c x d = f d := by simp [setC, h]
def World.setHouse (w : World K) (g : Bool) (H : House K) : World K := { w with houses := setB w.houses g H }
/-- a letter comes to whom it is for -/
def World.brought (w : World K) : Letter K → World K
  | .call h c n k wi => w.setHouse h ((w.houses h).called c n k wi)
  | .parcel h k t a ms => w.setHouse h ((w.houses h).parcelCame h k t a ms)
  | .taken h k t => w.setHouse h ((w.houses h).takenCame k t)
  | .answer c n told => { w with callers := setC w.callers c ((w.callers c).came n told) }
def World.posted (w : World K) (ls : List (Letter K)) : World K := { w with post := w.post ++ ls }
def World.call (w : World K) (c : Int) (h : Bool) (k : K) (wi : Wish) : World K :=
  { w with callers := setC w.callers c ((w.callers c).begun k wi), post := w.post ++ [.call h c ((w.callers c).made + 1) k wi] }
def callLetter (h : Bool) (c : Int) (a : Int × K × Wish) : Letter K := .call h c a.1 a.2.1 a.2.2
def World.again (w : World K) (c : Int) (h : Bool) : World K :=
  match (w.callers c).asked with
  | some a => w.posted [callLetter h c a]
  | none => w
def World.lose (w : World K) (i : Nat) : World K := { w with post := w.post.eraseIdx i }
def World.twice (w : World K) (i : Nat) : World K := match w.post[i]? with
  | some l => w.brought l
  | none => w
def World.hand (w : World K) (i : Nat) : World K := match w.post[i]? with
  | some l => (w.lose i).brought l
  | none => w
def World.move (w : World K) (g : Bool) (k : K) : World K := w.setHouse g ((w.houses g).moved g k)
def World.write (w : World K) (g : Bool) : World K :=
  { w with houses := setB w.houses g (w.houses g).wrote, post := w.post ++ (w.houses g).laid, ledger := w.ledger ++ (w.houses g).fresh }
def World.sleep (w : World K) (g : Bool) : World K := w.setHouse g (w.houses g).slept
def World.nudge (w : World K) (keys : List K) (g : Bool) : World K := w.posted ((w.houses g).nudged g keys)
def World.home (w : World K) (k : K) : Option Bool :=
  if ((w.houses false).known k).st = .here then some false else if ((w.houses true).known k).st = .here then some true else none

abbrev Begun (K : Type) := List (Int × Int × K × Wish)

/-- this row is in the list -/
def Told (L : List (LRow K)) (c n t : Int) : Prop := ∃ r ∈ L, r.c = c ∧ r.n = n ∧ r.told = t
omit [DecidableEq K] in
theorem Told.left {L M : List (LRow K)} {c n t : Int} : Told L c n t → Told (L ++ M) c n t := fun ⟨r, h, e⟩ => ⟨r, List.mem_append_left _ h, e⟩
def LetOk (wr : Bool → K → Row) (L : List (LRow K)) (B : Begun K) : Letter K → Prop
  | .call _ c n k wi => (c, n, k, wi) ∈ B
  | .answer c n t => Told L c n t
  | .parcel h k t a ms => ParcelOk (fun g => wr g k) h t a ms
  | .taken h k t => TakenOk (fun g => wr g k) h t
def LaidOk (L : List (LRow K)) (g : Bool) (H : House K) : Letter K → Prop
  | .call _ _ _ _ _ => False
  | .answer c n t => Told (L ++ H.fresh) c n t
  | .parcel h k t a ms => h = (!g) ∧ (H.known k).st = .owed ∧ t = (H.known k).turn + 1 ∧ (H.known k).held = (a, ms) ∧ ((H.written k).st = .here ∨ (H.written k).turn < (H.known k).turn)
  | .taken h k t => h = (!g) ∧ t ≤ (H.known k).turn

/-- the rows of a caller -/
def rowsBy (c : Int) (L : List (LRow K)) : List (LRow K) := L.filter fun r => decide (r.c = c)
def pairOf (r : LRow K) : Int × Int := (r.n, r.told)

/-- WHAT ALWAYS HOLDS; B: the calls that were begun -/
structure Inv (w : World K) (B : Begun K) : Prop where
  key : ∀ k, KInv (rowsOf k w.ledger) (fun g => (w.houses g).written k) (fun g => (w.houses g).known k) (fun g => rowsOf k (w.houses g).fresh)
  post : ∀ l ∈ w.post, LetOk (fun g => (w.houses g).written) w.ledger B l
  laid : ∀ g, ∀ l ∈ (w.houses g).laid, LaidOk w.ledger g (w.houses g) l
  rows : ∀ r ∈ w.ledger, (r.c, r.n, r.k, r.w) ∈ B
  frsh : ∀ g, ∀ r ∈ (w.houses g).fresh, (w.callers r.c).asked = some (r.n, r.k, r.w)
  once : ∀ c n k wi k' wi', (c, n, k, wi) ∈ B → (c, n, k', wi') ∈ B → k = k' ∧ wi = wi'
  num : ∀ c n k wi, (c, n, k, wi) ∈ B → 1 ≤ n ∧ n ≤ (w.callers c).made
  ask : ∀ c a, (w.callers c).asked = some a → a.1 = (w.callers c).made ∧ (c, a) ∈ B
  made : ∀ c, (w.callers c).made = ((w.callers c).closed.length : Int) + if (w.callers c).asked.isSome then 1 else 0
  cnum : ∀ c, ((w.callers c).closed.map (·.1)) = (List.range (w.callers c).closed.length).map fun (i : Nat) => (i : Int) + 1
  line : ∀ c, (rowsBy c w.ledger).map pairOf = (w.callers c).closed ∨ ∃ a t, (w.callers c).asked = some a ∧ (rowsBy c w.ledger).map pairOf = (w.callers c).closed ++ [(a.1, t)]

theorem Inv.new : Inv (World.new : World K) [] where
  key := fun k => ⟨false, by simp [World.new, House.new], by simp [World.new, House.new], by simp [World.new, House.new], by simpa [World.new] using chain_nil, by simp [World.new, House.new, rowsOf, replay],
    .inr ⟨by simp [World.new, House.new], by simp [World.new, House.new], by simp [World.new, House.new], by simpa [World.new, House.new] using chain_nil, by simp [World.new, House.new, replay], by simp [World.new, House.new], by simp [World.new, House.new], by simp [World.new, House.new]⟩⟩
  post := by simp [World.new]
  laid := by simp [World.new, House.new]
  rows := by simp [World.new]
  frsh := by simp [World.new, House.new]
  once := by simp
  num := by simp
  ask := by simp [World.new, Caller.new]
  made := by simp [World.new, Caller.new]
  cnum := by simp [World.new, Caller.new]
  line := fun c => .inl (by simp [World.new, Caller.new, rowsBy])

section
variable {w : World K} {B : Begun K}
theorem mem_closed_told {c n t : Int} (I : Inv w B) (h : (n, t) ∈ (w.callers c).closed) : Told w.ledger c n t := by
  have : (n, t) ∈ (rowsBy c w.ledger).map pairOf := by
    rcases I.line c with e | ⟨a, u, _, e⟩
    · rw [e]; exact h
    · rw [e]; exact List.mem_append_left _ h
  obtain ⟨r, hr, e⟩ := List.mem_map.mp this
  obtain ⟨h1, h2⟩ := List.mem_filter.mp hr
  have e1 : r.n = n := congrArg Prod.fst e
  have e2 : r.told = t := congrArg Prod.snd e
  exact ⟨r, h1, of_decide_eq_true h2, e1, e2⟩
/-- a call that isn't open stands in the ledger -/
theorem Inv.closed_row {c n : Int} {k : K} {wi : Wish} (I : Inv w B) (h : (c, n, k, wi) ∈ B) (ha : ∀ a, (w.callers c).asked = some a → a.1 ≠ n) : ∃ t, Told w.ledger c n t := by
  obtain ⟨h1, h2⟩ := I.num _ _ _ _ h
  have hm := I.made c
  have hl : n ≤ (w.callers c).closed.length := by
    cases e : (w.callers c).asked with
    | none => rw [e] at hm; simp at hm; omega
    | some a =>
      have := I.ask c a e
      have h3 := ha a e
      rw [e] at hm; simp at hm
      have : a.1 = (w.callers c).made := this.1
      omega
  have hmem : n ∈ (w.callers c).closed.map (·.1) := by
    rw [I.cnum c]
    exact List.mem_map.mpr ⟨(n - 1).toNat, List.mem_range.mpr (by omega), by omega⟩
  obtain ⟨p, hp, e⟩ := List.mem_map.mp hmem
  exact ⟨p.2, mem_closed_told I (by cases p; cases e; exact hp)⟩
theorem Inv.row_B {r : LRow K} (I : Inv w B) (h : r ∈ w.ledger ∨ ∃ g, r ∈ (w.houses g).fresh) : (r.c, r.n, r.k, r.w) ∈ B := by
  rcases h with h | ⟨g, h⟩
  · exact I.rows r h
  · exact (I.ask _ _ (I.frsh g r h)).2
/-- a mark's number -/
theorem Inv.last_le {g : Bool} {k : K} (I : Inv w B) (h : ((w.houses g).known k).st = .here) (c : Int) (hc : 0 ≤ (w.callers c).made) : (last ((w.houses g).known k).marks c).1 ≤ (w.callers c).made := by
  obtain ⟨c1, e, _⟩ := (I.key k).here h
  have em : ((w.houses g).known k).marks = (replay (rowsOf k w.ledger ++ rowsOf k (w.houses g).fresh)).2 := congrArg Prod.snd e
  rw [em]
  by_cases z : (last (replay (rowsOf k w.ledger ++ rowsOf k (w.houses g).fresh)).2 c).1 = 0
  · omega
  · obtain ⟨r, hr, e1, e2, e3⟩ := last_row _ c z
    have hB := I.row_B (r := r) ((List.mem_append.mp hr).elim (fun q => .inl (mem_rowsOf.mp q).1) fun q => .inr ⟨g, (mem_rowsOf.mp q).1⟩)
    have := (I.num _ _ _ _ hB).2
    rw [e1] at this
    omega
end
end Mv

/-! Each deed keeps what always holds. Core Lean alone. -/
namespace Mv
variable {K : Type} [DecidableEq K]

section
variable {L : List (LRow K)} {wr kn : Bool → Row} {fr : Bool → List (LRow K)} {g : Bool}
omit [DecidableEq K] in
/-- a parcel that was laid out since the last writing stays as it is -/
theorem KInv.pinned (I : KInv L wr kn fr) (h : (wr g).st = .here ∨ (wr g).turn < (kn g).turn) {t a : Int} {ms : List Mark} : (ParcelOk wr g t a ms → t ≤ (kn g).turn) ∧ (TakenOk wr g t → t ≠ (kn g).turn + 1) := by
  obtain ⟨X, T⟩ := I
  have ht := T.turn
  unfold ParcelOk TakenOk
  by_cases z : g = X
  · subst z
    rcases T.rest with ⟨o, k, _, _⟩ | ⟨o, t0, _⟩
    · rw [k, o] at h
      rcases h with h | h
      · cases h
      · omega
    · constructor
      · rintro (p | ⟨_, p, _⟩) <;> omega
      · intro p; omega
  · have z : g = !X := eqNot z
    subst z
    simp only [Bool.not_not]
    rcases T.rest with ⟨o, k, _, (⟨q1, q2, _⟩ | ⟨q1, _⟩)⟩ | ⟨o, t0, _, _, _, t1, _⟩
    · rcases h with h | h
      · exact absurd h T.off
      · omega
    · constructor
      · rintro (p | ⟨_, p, _⟩) <;> omega
      · intro p; omega
    · rcases h with h | h
      · exact absurd h T.off
      · omega
omit [DecidableEq K] in
theorem KInv.chainF (I : KInv L wr kn fr) (g : Bool) : Chain (L ++ fr g) := by
  obtain ⟨X, T⟩ := I
  have c := T.ch
  by_cases z : g = X
  · subst z
    rcases T.rest with ⟨o, k, f, _⟩ | ⟨o, t0, _, c1, _⟩
    · rw [f]; simpa using c
    · exact c1
  · have z : g = !X := eqNot z
    subst z
    rcases T.rest with ⟨o, k, _, (⟨q1, q2, q3⟩ | ⟨q1, _, q3, _⟩)⟩ | ⟨o, t0, _, _, _, t1, _, f⟩
    · rw [q3]; simpa using c
    · exact q3
    · rw [f]; simpa using c
omit [DecidableEq K] in
theorem KInv.hereW (I : KInv L wr kn fr) (h : (kn g).st = .here) : (wr g).st = .here ∨ (wr g).turn < (kn g).turn := by
  obtain ⟨X, T⟩ := I
  have ht := T.turn
  by_cases z : g = X
  · subst z
    rcases T.rest with ⟨o, k, f, _⟩ | ⟨o, _⟩
    · rw [k, o] at h; cases h
    · exact .inl o
  · have z : g = !X := eqNot z
    subst z
    rcases T.rest with ⟨o, k, _, (⟨q1, q2, q3⟩ | ⟨q1, _, q3, _⟩)⟩ | ⟨o, t0, _, _, _, t1, n1, f⟩
    · exact absurd h q2
    · exact .inr (by omega)
    · exact absurd h n1
omit [DecidableEq K] in
/-- what is owed by what is written down may be posted -/
theorem KInv.owedW (I : KInv L wr kn fr) (h : (wr g).st = .owed) : ParcelOk wr (!g) ((wr g).turn + 1) (wr g).amount (wr g).marks := by
  obtain ⟨X, T⟩ := I
  have ht := T.turn
  unfold ParcelOk
  by_cases z : g = X
  · subst z
    exact .inr ⟨by simpa using h, by simp, by simpa using ht, by simp [Row.held]⟩
  · have z : g = !X := eqNot z
    subst z
    simp only [Bool.not_not]
    exact .inl (by omega)
omit [DecidableEq K] in
/-- .. and what is laid out, once it is written down -/
theorem KInv.laidW (I : KInv L wr kn fr) (hs : (kn g).st = .owed) (h : (wr g).st = .here ∨ (wr g).turn < (kn g).turn) : ParcelOk (setB wr g (kn g)) (!g) ((kn g).turn + 1) (kn g).amount (kn g).marks := by
  have J := I.wrote g
  have := J.owedW (g := g) (by simpa using hs)
  simpa using this
omit [DecidableEq K] in
theorem KInv.parcelW (I : KInv L wr kn fr) (g : Bool) {h : Bool} {t a : Int} {ms : List Mark} (p : ParcelOk wr h t a ms) : ParcelOk (setB wr g (kn g)) h t a ms := by
  have ge := I.kn_ge g
  rcases p with p | ⟨p1, p2, p3, p4⟩
  · by_cases z : h = g
    · subst z; exact .inl (by simp; omega)
    · have z : h = !g := eqNot z
      subst z; exact .inl (by simpa using p)
  · obtain ⟨X, T⟩ := I
    have ht := T.turn
    have zX : h = !X := by
      by_cases z : h = X
      · subst z; omega
      · exact eqNot z
    subst zX
    simp only [Bool.not_not] at p1 p2 p3 p4
    rcases T.rest with ⟨o, k, _, s⟩ | ⟨o, _⟩
    · by_cases z : g = X
      · subst z
        exact .inr ⟨by simp [k, o], by simp [k]; exact p2, by simpa [k] using p3, by simpa [k] using p4⟩
      · have z : g = !X := eqNot z
        subst z
        rcases s with ⟨q1, _⟩ | ⟨q1, _⟩
        · exact .inr ⟨by simpa using o, by simpa using p2, by simp; omega, by simpa using p4⟩
        · exact .inl (by simp; omega)
    · rw [p1] at o; cases o
omit [DecidableEq K] in
theorem KInv.takenW (I : KInv L wr kn fr) (g : Bool) {h : Bool} {t : Int} (p : TakenOk wr h t) : TakenOk (setB wr g (kn g)) h t := by
  have ge := I.kn_ge g
  unfold TakenOk at p ⊢
  by_cases z : g = !h
  · subst z; simp; omega
  · have : (!h) ≠ g := fun e => z e.symm
    simp [setB, this]; omega
end

theorem fun_set {β : Type} (f : Bool → House K) (g : Bool) (H' : House K) (p : House K → β) : (fun b => p (setB f g H' b)) = setB (fun b => p (f b)) g (p H') := by
  funext b; unfold setB; split <;> rfl

section
variable {w : World K} {B : Begun K}

/-- one house is changed, what it wrote down stays -/
theorem Inv.house (I : Inv w B) (g : Bool) (H' : House K) (hw : H'.written = (w.houses g).written)
    (hk : ∀ k, KInv (rowsOf k w.ledger) (fun b => (w.houses b).written k) (setB (fun b => (w.houses b).known k) g (H'.known k)) (setB (fun b => rowsOf k (w.houses b).fresh) g (rowsOf k H'.fresh)))
    (hl : ∀ l ∈ H'.laid, LaidOk w.ledger g H' l) (hf : ∀ r ∈ H'.fresh, (w.callers r.c).asked = some (r.n, r.k, r.w)) : Inv (w.setHouse g H') B where
  key := fun k => by
    have e1 : (fun b => ((w.setHouse g H').houses b).written k) = (fun b => (w.houses b).written k) := by
      show (fun b => (setB w.houses g H' b).written k) = _
      rw [fun_set w.houses g H' fun H => H.written k, hw]
      exact setB_self _ _
    have e2 : (fun b => ((w.setHouse g H').houses b).known k) = setB (fun b => (w.houses b).known k) g (H'.known k) := fun_set w.houses g H' fun H => H.known k
    have e3 : (fun b => rowsOf k ((w.setHouse g H').houses b).fresh) = setB (fun b => rowsOf k (w.houses b).fresh) g (rowsOf k H'.fresh) := fun_set w.houses g H' fun H => rowsOf k H.fresh
    rw [e1, e2, e3]
    exact hk k
  post := fun l h => by
    have e1 : (fun b => ((w.setHouse g H').houses b).written) = (fun b => (w.houses b).written) := by
      show (fun b => (setB w.houses g H' b).written) = _
      rw [fun_set w.houses g H' fun H => H.written, hw]
      exact setB_self _ _
    rw [e1]
    exact I.post l h
  laid := fun b l h => by
    by_cases z : b = g
    · subst z
      simp only [World.setHouse, setB_same] at h ⊢
      exact hl l h
    · simp only [World.setHouse, setB, z, if_false] at h ⊢
      exact I.laid b l h
  rows := I.rows
  frsh := fun b r h => by
    by_cases z : b = g
    · subst z
      simp only [World.setHouse, setB_same] at h ⊢
      exact hf r h
    · simp only [World.setHouse, setB, z, if_false] at h ⊢
      exact I.frsh b r h
  once := I.once
  num := I.num
  ask := I.ask
  made := I.made
  cnum := I.cnum
  line := I.line
theorem Inv.house_self (I : Inv w B) (g : Bool) : Inv (w.setHouse g (w.houses g)) B :=
  I.house g _ rfl (fun k => by rw [setB_self, setB_self]; exact I.key k) (I.laid g) (I.frsh g)
/-- no row stands in the ledger and waits in a house -/
theorem Inv.not_both (I : Inv w B) {r s : LRow K} {g : Bool} (hr : r ∈ w.ledger) (hs : s ∈ (w.houses g).fresh) (hc : r.c = s.c) (hn : r.n = s.n) : False := by
  have b1 := I.row_B (.inl hr)
  have b2 := I.row_B (.inr ⟨g, hs⟩)
  rw [hc, hn] at b1
  obtain ⟨ek, _⟩ := I.once _ _ _ _ _ _ b1 b2
  have c := ((I.key s.k).chainF g).once
  exact (List.pairwise_append.mp c).2.2 r (mem_rowsOf.mpr ⟨hr, ek⟩) s (mem_rowsOf.mpr ⟨hs, rfl⟩) ⟨hc, hn⟩
theorem Inv.fresh_once (I : Inv w B) (g : Bool) : (w.houses g).fresh.Pairwise fun a b => ¬ (a.c = b.c ∧ a.n = b.n) := by
  refine List.pairwise_iff_forall_sublist.mpr fun {a b} hs => ?_
  rintro ⟨e1, e2⟩
  have ha := I.row_B (r := a) (.inr ⟨g, hs.subset (by simp)⟩)
  have hb := I.row_B (r := b) (.inr ⟨g, hs.subset (by simp)⟩)
  rw [e1, e2] at ha
  obtain ⟨ek, _⟩ := I.once _ _ _ _ _ _ ha hb
  have c := (List.pairwise_append.mp ((I.key b.k).chainF g).once).2.1
  have s2 : [a, b].Sublist (rowsOf b.k (w.houses g).fresh) := by
    have := hs.filter fun r => decide (r.k = b.k)
    simpa [ek, rowsOf] using this
  exact List.pairwise_iff_forall_sublist.mp c s2 ⟨e1, e2⟩

theorem setK_eq {f : K → Row} {k j : K} {v : Row} : setK f k v j = if j = k then v else f j := rfl

/-- a call letter comes -/
theorem Inv.called (I : Inv w B) (g : Bool) {c n : Int} {k : K} {wi : Wish} (hB : (c, n, k, wi) ∈ B) : Inv (w.setHouse g ((w.houses g).called c n k wi)) B := by
  unfold House.called
  by_cases hh : ((w.houses g).known k).st = .here
  · rw [if_pos hh]
    obtain ⟨ch, eh, _⟩ := (I.key k).here hh
    have em : ((w.houses g).known k).marks = (replay (rowsOf k w.ledger ++ rowsOf k (w.houses g).fresh)).2 := congrArg Prod.snd eh
    by_cases h1 : n < (last ((w.houses g).known k).marks c).1
    · rw [if_pos h1]; exact I.house_self g
    · rw [if_neg h1]
      by_cases h2 : (last ((w.houses g).known k).marks c).1 < n
      · rw [if_pos h2]
        -- it is the open call
        have hask : (w.callers c).asked = some (n, k, wi) := by
          by_cases hx : ∀ a, (w.callers c).asked = some a → a.1 ≠ n
          · obtain ⟨t, r, hr, e1, e2, e3⟩ := I.closed_row hB hx
            have b1 := I.rows r hr
            rw [e1, e2] at b1
            obtain ⟨ek, _⟩ := I.once _ _ _ _ _ _ b1 hB
            have := ch.le r (List.mem_append_left _ (mem_rowsOf.mpr ⟨hr, ek⟩))
            rw [← em, e1, e2] at this
            omega
          · have : ∃ a, (w.callers c).asked = some a ∧ a.1 = n := by
              refine Classical.byContradiction fun hne => hx fun a ha hn => hne ⟨a, ha, hn⟩
            obtain ⟨⟨a1, a2, a3⟩, ha, ea⟩ := this
            simp only at ea
            subst ea
            obtain ⟨ek, ew⟩ := I.once _ _ _ _ _ _ (I.ask c _ ha).2 hB
            rw [ha, ek, ew]
        refine I.house g _ rfl (fun j => ?_) (fun l hl => ?_) (fun r hr => ?_)
        · by_cases hj : j = k
          · subst hj
            have := (I.key j).doneAt (g := g) hh (r := ⟨c, n, j, wi, (wi.done ((w.houses g).known j).amount).2⟩) h2 rfl
            simpa [rowsOf_append, rowsOf_one] using this
          · have e1 : setK (w.houses g).known k { (w.houses g).known k with amount := (wi.done ((w.houses g).known k).amount).1, marks := marked ((w.houses g).known k).marks c n (wi.done ((w.houses g).known k).amount).2 } j = (w.houses g).known j := setK_ne _ _ hj
            have e2 : rowsOf j ((w.houses g).fresh ++ [⟨c, n, k, wi, (wi.done ((w.houses g).known k).amount).2⟩]) = rowsOf j (w.houses g).fresh := by
              rw [rowsOf_append, rowsOf_one, if_neg fun e => hj (by simpa using e.symm), List.append_nil]
            show KInv _ _ (setB _ g (setK _ k _ j)) (setB _ g (rowsOf j (_ ++ [_])))
            rw [e1, e2, setB_self, setB_self]
            exact I.key j
        · rcases List.mem_append.mp hl with hl | hl
          · have := I.laid g l hl
            cases l with
            | call => exact this
            | answer c' n' t' =>
              show Told (w.ledger ++ ((w.houses g).fresh ++ _)) _ _ _
              rw [← List.append_assoc]
              exact Told.left this
            | parcel h' k' t' a' ms' =>
              obtain ⟨p1, p2, p3, p4, p5⟩ := this
              have hk' : k' ≠ k := fun e => by rw [e, hh] at p2; cases p2
              refine ⟨p1, ?_, ?_, ?_, ?_⟩ <;> simp only [setK_ne _ _ hk'] <;> assumption
            | taken h' k' t' =>
              obtain ⟨p1, p2⟩ := this
              refine ⟨p1, ?_⟩
              by_cases hk' : k' = k
              · subst hk'; simpa using p2
              · simpa only [setK_ne _ _ hk'] using p2
          · have := List.mem_singleton.mp hl
            subst this
            exact ⟨_, List.mem_append_right _ (List.mem_append_right _ (List.mem_singleton.mpr rfl)), rfl, rfl, rfl⟩
        · rcases List.mem_append.mp hr with hr | hr
          · exact I.frsh g r hr
          · have := List.mem_singleton.mp hr
            subst this
            exact hask
      · rw [if_neg h2]
        have en : (last ((w.houses g).known k).marks c).1 = n := by omega
        have n1 := (I.num _ _ _ _ hB).1
        refine I.house g _ rfl (fun j => ?_) (fun l hl => ?_) (fun r hr => I.frsh g r hr)
        · show KInv _ _ (setB _ g ((w.houses g).known j)) (setB _ g (rowsOf j (w.houses g).fresh))
          rw [setB_self, setB_self]
          exact I.key j
        · rcases List.mem_append.mp hl with hl | hl
          · exact I.laid g l hl
          · have := List.mem_singleton.mp hl
            subst this
            have z : (last (replay (rowsOf k w.ledger ++ rowsOf k (w.houses g).fresh)).2 c).1 ≠ 0 := by rw [← em]; omega
            obtain ⟨r, hr, e1, e2, e3⟩ := last_row _ c z
            rw [← em] at e2 e3
            rw [en] at e2
            refine ⟨r, ?_, e1, e2, e3⟩
            rcases List.mem_append.mp hr with q | q
            · exact List.mem_append_left _ (mem_rowsOf.mp q).1
            · exact List.mem_append_right _ (mem_rowsOf.mp q).1
  · rw [if_neg hh]; exact I.house_self g

/-- a parcel comes -/
theorem Inv.parcelCame (I : Inv w B) (g : Bool) {k : K} {t a : Int} {ms : List Mark} (p : ParcelOk (fun b => (w.houses b).written k) g t a ms) : Inv (w.setHouse g ((w.houses g).parcelCame g k t a ms)) B := by
  unfold House.parcelCame
  by_cases ht : ((w.houses g).known k).turn < t
  · rw [if_pos ht]
    obtain ⟨kp, kf⟩ := (I.key k).parcel p ht
    refine I.house g _ rfl (fun j => ?_) (fun l hl => ?_) (fun r hr => I.frsh g r hr)
    · show KInv _ _ (setB _ g (setK _ k _ j)) (setB _ g (rowsOf j (w.houses g).fresh))
      rw [setB_self (fun b => rowsOf j (w.houses b).fresh) g]
      by_cases hj : j = k
      · subst hj; simpa using kp
      · rw [setK_ne _ _ hj, setB_self (fun b => (w.houses b).known j) g]; exact I.key j
    · rcases List.mem_append.mp hl with hl | hl
      · have := I.laid g l hl
        cases l with
        | call => exact this
        | answer c' n' t' => exact this
        | parcel h' k' t' a' ms' =>
          obtain ⟨p1, p2, p3, p4, p5⟩ := this
          have hk' : k' ≠ k := fun e => by
            subst e
            have := ((I.key k').pinned (g := g) p5 (t := t) (a := a) (ms := ms)).1 p
            omega
          refine ⟨p1, ?_, ?_, ?_, ?_⟩ <;> simp only [setK_ne _ _ hk'] <;> assumption
        | taken h' k' t' =>
          obtain ⟨p1, p2⟩ := this
          refine ⟨p1, ?_⟩
          by_cases hk' : k' = k
          · subst hk'; simp; omega
          · simpa only [setK_ne _ _ hk'] using p2
      · have := List.mem_singleton.mp hl
        subst this
        exact ⟨rfl, by simp⟩
  · rw [if_neg ht]
    refine I.house g _ rfl (fun j => ?_) (fun l hl => ?_) (fun r hr => I.frsh g r hr)
    · show KInv _ _ (setB _ g ((w.houses g).known j)) (setB _ g (rowsOf j (w.houses g).fresh))
      rw [setB_self, setB_self]
      exact I.key j
    · rcases List.mem_append.mp hl with hl | hl
      · exact I.laid g l hl
      · have := List.mem_singleton.mp hl
        subst this
        exact ⟨rfl, by simp; omega⟩

/-- a taken letter comes -/
theorem Inv.takenCame (I : Inv w B) (g : Bool) {k : K} {t : Int} (p : TakenOk (fun b => (w.houses b).written k) g t) : Inv (w.setHouse g ((w.houses g).takenCame k t)) B := by
  unfold House.takenCame
  by_cases hc : ((w.houses g).known k).st = .owed ∧ t = ((w.houses g).known k).turn + 1
  · rw [if_pos hc]
    have kp := (I.key k).taken p hc.1 hc.2
    refine I.house g _ rfl (fun j => ?_) (fun l hl => ?_) (fun r hr => I.frsh g r hr)
    · show KInv _ _ (setB _ g (setK _ k _ j)) (setB _ g (rowsOf j (w.houses g).fresh))
      rw [setB_self (fun b => rowsOf j (w.houses b).fresh) g]
      by_cases hj : j = k
      · subst hj; simpa using kp
      · rw [setK_ne _ _ hj, setB_self (fun b => (w.houses b).known j) g]; exact I.key j
    · have := I.laid g l hl
      cases l with
      | call => exact this
      | answer c' n' t' => exact this
      | parcel h' k' t' a' ms' =>
        obtain ⟨p1, p2, p3, p4, p5⟩ := this
        have hk' : k' ≠ k := fun e => by
          subst e
          exact ((I.key k').pinned (g := g) p5 (t := t) (a := 0) (ms := [])).2 p hc.2
        refine ⟨p1, ?_, ?_, ?_, ?_⟩ <;> simp only [setK_ne _ _ hk'] <;> assumption
      | taken h' k' t' =>
        obtain ⟨p1, p2⟩ := this
        refine ⟨p1, ?_⟩
        by_cases hk' : k' = k
        · subst hk'; simpa using p2
        · simpa only [setK_ne _ _ hk'] using p2
  · rw [if_neg hc]; exact I.house_self g

theorem Told.num {L : List (LRow K)} {c n t : Int} (h : Told L c n t) : (n, t) ∈ (rowsBy c L).map pairOf := by
  obtain ⟨r, hr, e1, e2, e3⟩ := h
  exact List.mem_map.mpr ⟨r, List.mem_filter.mpr ⟨hr, by simpa using e1⟩, by rw [pairOf, e2, e3]⟩

/-- an answer comes -/
theorem Inv.answered (I : Inv w B) {c n t : Int} (p : Told w.ledger c n t) : Inv { w with callers := setC w.callers c ((w.callers c).came n t) } B := by
  unfold Caller.came
  cases ha : (w.callers c).asked with
  | none =>
    have : setC w.callers c (w.callers c) = w.callers := by funext d; unfold setC; split <;> simp_all
    simp only [this]
    exact I
  | some a =>
    obtain ⟨m, k, wi⟩ := a
    by_cases hm : m = n
    · subst hm
      simp only [if_true]
      have hask := I.ask c _ ha
      have hmd := I.made c
      rw [ha] at hmd
      simp only [Option.isSome_some, if_true] at hmd
      have e1 : m = (w.callers c).made := hask.1
      have hlen : m = ((w.callers c).closed.length : Int) + 1 := by omega
      have hnot : ∀ u, (m, u) ∉ (w.callers c).closed := fun u hu => by
        have : m ∈ (w.callers c).closed.map (·.1) := List.mem_map.mpr ⟨_, hu, rfl⟩
        rw [I.cnum c] at this
        obtain ⟨i, hi, e⟩ := List.mem_map.mp this
        have := List.mem_range.mp hi
        omega
      refine ⟨I.key, I.post, I.laid, I.rows, fun g r hr => ?_, I.once, fun c' n' k' w' h => ?_, fun c' a h => ?_, fun c' => ?_, fun c' => ?_, fun c' => ?_⟩
      · by_cases hc : r.c = c
        · exfalso
          have := I.frsh g r hr
          rw [hc, ha] at this
          cases this
          obtain ⟨s, hs, s1, s2, _⟩ := p
          exact I.not_both hs hr (by rw [s1, hc]) s2
        · simp only [setC_ne _ _ hc]
          exact I.frsh g r hr
      · by_cases hc : c' = c
        · subst hc; simpa using I.num _ _ _ _ h
        · simpa only [setC_ne _ _ hc] using I.num _ _ _ _ h
      · by_cases hc : c' = c
        · subst hc; simp at h
        · simp only [setC_ne _ _ hc] at h ⊢; exact I.ask c' a h
      · by_cases hc : c' = c
        · subst hc; simp; omega
        · simpa only [setC_ne _ _ hc] using I.made c'
      · by_cases hc : c' = c
        · subst hc
          simp only [setC_same, List.map_append, List.length_append, List.length_singleton, List.range_succ, List.map_cons, List.map_nil]
          rw [I.cnum c', hlen]
        · simpa only [setC_ne _ _ hc] using I.cnum c'
      · by_cases hc : c' = c
        · subst hc
          left
          simp only [setC_same]
          have hin := p.num
          rcases I.line c' with e | ⟨a, u, e1', e2'⟩
          · rw [e] at hin
            exact absurd hin (hnot _)
          · rw [ha] at e1'
            cases e1'
            rw [e2'] at hin ⊢
            rcases List.mem_append.mp hin with q | q
            · exact absurd q (hnot _)
            · have := List.mem_singleton.mp q
              rw [this]
        · simp only [setC_ne _ _ hc]
          exact I.line c'
    · have : setC w.callers c (w.callers c) = w.callers := by funext d; unfold setC; split <;> simp_all
      simp only [hm, if_false, this]
      exact I

theorem Inv.brought (I : Inv w B) {l : Letter K} (h : LetOk (fun g => (w.houses g).written) w.ledger B l) : Inv (w.brought l) B := by
  cases l with
  | call g c n k wi => exact I.called g h
  | answer c n t => exact I.answered h
  | parcel g k t a ms => exact I.parcelCame g h
  | taken g k t => exact I.takenCame g h

theorem Inv.posted (I : Inv w B) {ls : List (Letter K)} (h : ∀ l ∈ ls, LetOk (fun g => (w.houses g).written) w.ledger B l) : Inv (w.posted ls) B :=
  ⟨I.key, fun l hl => (List.mem_append.mp hl).elim (I.post l) (h l), I.laid, I.rows, I.frsh, I.once, I.num, I.ask, I.made, I.cnum, I.line⟩
theorem Inv.postSub (I : Inv w B) {ls : List (Letter K)} (h : ∀ l ∈ ls, l ∈ w.post) : Inv { w with post := ls } B :=
  ⟨I.key, fun l hl => I.post l (h l hl), I.laid, I.rows, I.frsh, I.once, I.num, I.ask, I.made, I.cnum, I.line⟩
theorem Inv.lose (I : Inv w B) (i : Nat) : Inv (w.lose i) B := I.postSub fun _ hl => List.mem_of_mem_eraseIdx hl
theorem Inv.twice (I : Inv w B) (i : Nat) : Inv (w.twice i) B := by
  unfold World.twice
  cases e : w.post[i]? with
  | none => exact I
  | some l => exact I.brought (I.post l (List.mem_of_getElem? e))
theorem Inv.hand (I : Inv w B) (i : Nat) : Inv (w.hand i) B := by
  unfold World.hand
  cases e : w.post[i]? with
  | none => exact I
  | some l => exact (I.lose i).brought (I.post l (List.mem_of_getElem? e))

theorem Inv.move (I : Inv w B) {g : Bool} {k : K} (hh : ((w.houses g).known k).st = .here) : Inv (w.move g k) B := by
  unfold World.move House.moved
  refine I.house g _ rfl (fun j => ?_) (fun l hl => ?_) (fun r hr => I.frsh g r hr)
  · show KInv _ _ (setB _ g (setK _ k _ j)) (setB _ g (rowsOf j (w.houses g).fresh))
    rw [setB_self (fun b => rowsOf j (w.houses b).fresh) g]
    by_cases hj : j = k
    · subst hj; simpa using (I.key j).moved hh
    · rw [setK_ne _ _ hj, setB_self (fun b => (w.houses b).known j) g]; exact I.key j
  · rcases List.mem_append.mp hl with hl | hl
    · have := I.laid g l hl
      cases l with
      | call => exact this
      | answer c' n' t' => exact this
      | parcel h' k' t' a' ms' =>
        obtain ⟨p1, p2, p3, p4, p5⟩ := this
        have hk' : k' ≠ k := fun e => by rw [e, hh] at p2; cases p2
        refine ⟨p1, ?_, ?_, ?_, ?_⟩ <;> simp only [setK_ne _ _ hk'] <;> assumption
      | taken h' k' t' =>
        obtain ⟨p1, p2⟩ := this
        refine ⟨p1, ?_⟩
        by_cases hk' : k' = k
        · subst hk'; simpa using p2
        · simpa only [setK_ne _ _ hk'] using p2
    · have := List.mem_singleton.mp hl
      subst this
      exact ⟨rfl, by simp, by simp, by simp [Row.held], by simpa using (I.key k).hereW hh⟩

omit [DecidableEq K] in
theorem LetOk.moreB {wr : Bool → K → Row} {L : List (LRow K)} {B B' : Begun K} (h : ∀ x ∈ B, x ∈ B') {l : Letter K} (p : LetOk wr L B l) : LetOk wr L B' l := by
  cases l with
  | call g c n k wi => exact h _ p
  | answer c n t => exact p
  | parcel g k t a ms => exact p
  | taken g k t => exact p

theorem Inv.write (I : Inv w B) (g : Bool) : Inv (w.write g) B where
  key := fun k => by
    have e1 : (fun b => ((w.write g).houses b).written k) = setB (fun b => (w.houses b).written k) g ((w.houses g).known k) := fun_set w.houses g _ fun H => H.written k
    have e2 : (fun b => ((w.write g).houses b).known k) = fun b => (w.houses b).known k := by
      show (fun b => (setB w.houses g _ b).known k) = _
      rw [fun_set w.houses g _ fun H => H.known k]
      exact setB_self _ _
    have e3 : (fun b => rowsOf k ((w.write g).houses b).fresh) = setB (fun b => rowsOf k (w.houses b).fresh) g [] := fun_set w.houses g _ fun H => rowsOf k H.fresh
    have e4 : rowsOf k (w.write g).ledger = rowsOf k w.ledger ++ rowsOf k (w.houses g).fresh := rowsOf_append _ _ _
    rw [e1, e2, e3, e4]
    exact (I.key k).wrote g
  post := fun l hl => by
    have e1 : ∀ k, (fun b => ((w.write g).houses b).written k) = setB (fun b => (w.houses b).written k) g ((w.houses g).known k) := fun k => fun_set w.houses g _ fun H => H.written k
    have hl' : l ∈ w.post ++ (w.houses g).laid := hl
    rcases List.mem_append.mp hl' with hl | hl
    · have := I.post l hl
      cases l with
      | call h c n k wi => exact this
      | answer c n t => exact Told.left this
      | parcel h k t a ms =>
        show ParcelOk (fun b => ((w.write g).houses b).written k) h t a ms
        rw [e1]
        exact (I.key k).parcelW g this
      | taken h k t =>
        show TakenOk (fun b => ((w.write g).houses b).written k) h t
        rw [e1]
        exact (I.key k).takenW g this
    · have := I.laid g l hl
      cases l with
      | call h c n k wi => exact this.elim
      | answer c n t => exact this
      | parcel h k t a ms =>
        obtain ⟨p1, p2, p3, p4, p5⟩ := this
        show ParcelOk (fun b => ((w.write g).houses b).written k) h t a ms
        rw [e1]
        have := (I.key k).laidW (g := g) p2 p5
        have ea : ((w.houses g).known k).amount = a := congrArg Prod.fst p4
        have em : ((w.houses g).known k).marks = ms := congrArg Prod.snd p4
        rw [p1, p3, ← ea, ← em]
        exact this
      | taken h k t =>
        obtain ⟨p1, p2⟩ := this
        show TakenOk (fun b => ((w.write g).houses b).written k) h t
        rw [e1, p1]
        unfold TakenOk
        simpa using p2
  laid := fun b l hl => by
    by_cases z : b = g
    · subst z
      simp [World.write, House.wrote] at hl
    · simp only [World.write, setB, z, if_false] at hl ⊢
      have := I.laid b l hl
      cases l with
      | call h c n k wi => exact this
      | answer c n t =>
        obtain ⟨r, hr, e⟩ := this
        refine ⟨r, ?_, e⟩
        rcases List.mem_append.mp hr with q | q
        · exact List.mem_append_left _ (List.mem_append_left _ q)
        · exact List.mem_append_right _ q
      | parcel h k t a ms => exact this
      | taken h k t => exact this
  rows := fun r hr => by
    have hr' : r ∈ w.ledger ++ (w.houses g).fresh := hr
    rcases List.mem_append.mp hr' with q | q
    · exact I.rows r q
    · exact I.row_B (.inr ⟨g, q⟩)
  frsh := fun b r hr => by
    by_cases z : b = g
    · subst z
      simp [World.write, House.wrote] at hr
    · simp only [World.write, setB, z, if_false] at hr
      exact I.frsh b r hr
  once := I.once
  num := I.num
  ask := I.ask
  made := I.made
  cnum := I.cnum
  line := fun c => by
    have e : rowsBy c (w.write g).ledger = rowsBy c w.ledger ++ rowsBy c (w.houses g).fresh := List.filter_append ..
    rw [e]
    cases hf : rowsBy c (w.houses g).fresh with
    | nil => rw [List.append_nil]; exact I.line c
    | cons r rest =>
      have hsub : (r :: rest).Sublist (w.houses g).fresh := hf ▸ List.filter_sublist
      have hr : r ∈ rowsBy c (w.houses g).fresh := by rw [hf]; exact List.mem_cons_self
      have hr1 := (List.mem_filter.mp hr).1
      have hrc : r.c = c := of_decide_eq_true (List.mem_filter.mp hr).2
      have hask := I.frsh g r hr1
      rw [hrc] at hask
      have hrest : rest = [] := by
        cases rest with
        | nil => rfl
        | cons s rest =>
          exfalso
          have hs : s ∈ rowsBy c (w.houses g).fresh := by rw [hf]; simp
          have hs1 := (List.mem_filter.mp hs).1
          have hsc : s.c = c := of_decide_eq_true (List.mem_filter.mp hs).2
          have hask' := I.frsh g s hs1
          rw [hsc, hask] at hask'
          have := (I.fresh_once g).sublist hsub
          refine (List.pairwise_cons.mp this).1 s (by simp) ⟨by rw [hrc, hsc], ?_⟩
          injection hask' with q
          exact congrArg Prod.fst q
      subst hrest
      right
      refine ⟨(r.n, r.k, r.w), r.told, hask, ?_⟩
      rcases I.line c with q | ⟨a, u, q1, q2⟩
      · rw [List.map_append, q]; rfl
      · exfalso
        have hm : (a.1, u) ∈ (rowsBy c w.ledger).map pairOf := by rw [q2]; simp
        obtain ⟨s, hs, es⟩ := List.mem_map.mp hm
        obtain ⟨hs1, hs2⟩ := List.mem_filter.mp hs
        have hq : a = (r.n, r.k, r.w) := Option.some.inj (q1.symm.trans hask)
        refine I.not_both hs1 hr1 (by rw [hrc]; exact of_decide_eq_true hs2) ?_
        have : s.n = a.1 := congrArg Prod.fst es
        rw [this, hq]

theorem Inv.sleep (I : Inv w B) (g : Bool) : Inv (w.sleep g) B := by
  unfold World.sleep House.slept
  refine I.house g _ rfl (fun j => ?_) (fun l hl => by simp at hl) (fun r hr => by simp at hr)
  exact (I.key j).slept g

theorem Inv.nudge (I : Inv w B) (keys : List K) (g : Bool) : Inv (w.nudge keys g) B := by
  refine I.posted fun l hl => ?_
  unfold House.nudged at hl
  obtain ⟨k, hk, rfl⟩ := List.mem_map.mp hl
  have h1 := of_decide_eq_true (List.mem_filter.mp hk).2
  exact (I.key k).owedW (g := g) h1

theorem Inv.again (I : Inv w B) (c : Int) (h : Bool) : Inv (w.again c h) B := by
  unfold World.again
  cases ha : (w.callers c).asked with
  | none => exact I
  | some a =>
    refine I.posted fun l hl => ?_
    have := List.mem_singleton.mp hl
    subst this
    exact (I.ask c a ha).2

theorem Inv.call (I : Inv w B) {c : Int} (h : Bool) (k : K) (wi : Wish) (ha : (w.callers c).asked = none) : Inv (w.call c h k wi) (B ++ [(c, (w.callers c).made + 1, k, wi)]) where
  key := I.key
  post := fun l hl => by
    have hl' : l ∈ w.post ++ [Letter.call h c ((w.callers c).made + 1) k wi] := hl
    rcases List.mem_append.mp hl' with q | q
    · exact (I.post l q).moreB fun x hx => List.mem_append_left _ hx
    · have := List.mem_singleton.mp q
      subst this
      exact List.mem_append_right _ (List.mem_singleton.mpr rfl)
  laid := I.laid
  rows := fun r hr => List.mem_append_left _ (I.rows r hr)
  frsh := fun g r hr => by
    have := I.frsh g r hr
    have hc : r.c ≠ c := fun e => by rw [e, ha] at this; cases this
    show (setC w.callers c _ r.c).asked = _
    rw [setC_ne _ _ hc]
    exact this
  once := fun c' n' k1 w1 k2 w2 h1 h2 => by
    have new : ∀ {n' k' w'}, (c, n', k', w') ∈ B → n' ≠ (w.callers c).made + 1 := fun hb e => by
      have := (I.num _ _ _ _ hb).2
      omega
    rcases List.mem_append.mp h1 with a | a <;> rcases List.mem_append.mp h2 with b | b
    · exact I.once _ _ _ _ _ _ a b
    · have := List.mem_singleton.mp b
      cases this
      exact absurd rfl (new a)
    · have := List.mem_singleton.mp a
      cases this
      exact absurd rfl (new b)
    · have e1 := List.mem_singleton.mp a
      have e2 := List.mem_singleton.mp b
      cases e1; cases e2
      exact ⟨rfl, rfl⟩
  num := fun c' n' k' w' hb => by
    have hm := I.made c
    rcases List.mem_append.mp hb with a | a
    · have := I.num _ _ _ _ a
      show _ ∧ n' ≤ (setC w.callers c _ c').made
      by_cases hc : c' = c
      · subst hc; simp [Caller.begun]; omega
      · rw [setC_ne _ _ hc]; exact this
    · have := List.mem_singleton.mp a
      cases this
      show _ ∧ _ ≤ (setC w.callers c _ c).made
      simp [Caller.begun]
      rw [ha] at hm
      simp at hm
      omega
  ask := fun c' a h => by
    have h : (setC w.callers c _ c').asked = some a := h
    show a.1 = (setC w.callers c _ c').made ∧ _
    by_cases hc : c' = c
    · subst hc
      simp only [setC_same, Caller.begun] at h ⊢
      cases h
      exact ⟨rfl, List.mem_append_right _ (List.mem_singleton.mpr rfl)⟩
    · simp only [setC_ne _ _ hc] at h ⊢
      exact ⟨(I.ask c' a h).1, List.mem_append_left _ (I.ask c' a h).2⟩
  made := fun c' => by
    show (setC w.callers c _ c').made = ((setC w.callers c _ c').closed.length : Int) + if (setC w.callers c _ c').asked.isSome then 1 else 0
    by_cases hc : c' = c
    · subst hc
      have hm := I.made c'
      rw [ha] at hm
      simp [Caller.begun] at hm ⊢
      omega
    · simp only [setC_ne _ _ hc]; exact I.made c'
  cnum := fun c' => by
    show ((setC w.callers c _ c').closed.map (·.1)) = (List.range (setC w.callers c _ c').closed.length).map fun (i : Nat) => (i : Int) + 1
    by_cases hc : c' = c
    · subst hc; simpa [Caller.begun] using I.cnum c'
    · simp only [setC_ne _ _ hc]; exact I.cnum c'
  line := fun c' => by
    show (rowsBy c' w.ledger).map pairOf = (setC w.callers c _ c').closed ∨ ∃ a t, (setC w.callers c _ c').asked = some a ∧ (rowsBy c' w.ledger).map pairOf = (setC w.callers c _ c').closed ++ [(a.1, t)]
    by_cases hc : c' = c
    · subst hc
      left
      simp only [setC_same, Caller.begun]
      rcases I.line c' with q | ⟨a, t, q, _⟩
      · exact q
      · rw [ha] at q; cases q
    · simp only [setC_ne _ _ hc]; exact I.line c'
end
end Mv

/-! Settling: two rounds are always enough. Core Lean alone. -/
namespace Mv
variable {K : Type} [DecidableEq K]

def World.calls (w : World K) (cs : List Int) : List (Letter K) := cs.flatMap fun c =>
  match (w.callers c).asked with
  | some a => [callLetter false c a, callLetter true c a]
  | none => []
/-- one round, up to its letters: all lies in the post -/
def World.ahead (w : World K) (keys : List K) (cs : List Int) : World K :=
  let w2 := (((w.write false).write true).nudge keys false).nudge keys true
  w2.posted (w2.calls cs)
def World.handAll (w : World K) : World K := w.post.foldl World.brought { w with post := [] }
def World.round (w : World K) (keys : List K) (cs : List Int) : World K := (w.ahead keys cs).handAll
def World.owes (w : World K) (g : Bool) (keys : List K) : List K := (w.houses g).owes keys
def World.ready (w : World K) (keys : List K) (cs : List Int) : Prop := (∀ c ∈ cs, (w.callers c).asked = none) ∧ w.owes false keys = [] ∧ w.owes true keys = []
instance (w : World K) (keys : List K) (cs : List Int) : Decidable (w.ready keys cs) := by unfold World.ready; infer_instance
/-- rounds, at most so many; how many -/
def World.settles : Nat → World K → List K → List Int → World K × Nat
  | 0, w, _, _ => (w, 0)
  | f + 1, w, keys, cs => if w.ready keys cs then (w, 0) else
    let p := World.settles f (w.round keys cs) keys cs
    (p.1, p.2 + 1)

theorem fold_keep {P : World K → Prop} : ∀ {ls : List (Letter K)} {w : World K}, P w → (∀ l ∈ ls, ∀ w, P w → P (w.brought l)) → P (ls.foldl World.brought w)
  | [], _, h, _ => h
  | l :: r, w, h, hs => fold_keep (ls := r) (hs l List.mem_cons_self w h) fun x hx => hs x (List.mem_cons_of_mem _ hx)
theorem fold_once {P Q : World K → Prop} {l : Letter K} : ∀ {ls : List (Letter K)} {w : World K}, l ∈ ls → P w → (∀ x ∈ ls, ∀ w, P w → P (w.brought x)) → (∀ w, P w → Q (w.brought l)) → (∀ x ∈ ls, ∀ w, P w → Q w → Q (w.brought x)) → Q (ls.foldl World.brought w)
  | x :: r, w, hm, h, hs, hq, hk => by
    have h1 := hs x List.mem_cons_self w h
    rcases List.mem_cons.mp hm with rfl | hm
    · have : P ((l :: r).foldl World.brought w) ∧ Q ((l :: r).foldl World.brought w) :=
        fold_keep (P := fun w => P w ∧ Q w) (ls := r) ⟨h1, hq w h⟩ fun y hy w p => ⟨hs y (List.mem_cons_of_mem _ hy) w p.1, hk y (List.mem_cons_of_mem _ hy) w p.1 p.2⟩
      exact this.2
    · exact fold_once (ls := r) hm h1 (fun y hy => hs y (List.mem_cons_of_mem _ hy)) hq fun y hy => hk y (List.mem_cons_of_mem _ hy)

section
variable {w : World K}
theorem brought_house (w : World K) (l : Letter K) (g : Bool) : ((w.brought l).houses g = w.houses g) ∨
    (∃ c n k wi, (w.brought l).houses g = (w.houses g).called c n k wi ∧ l = .call g c n k wi) ∨
    (∃ k t a ms, (w.brought l).houses g = (w.houses g).parcelCame g k t a ms ∧ l = .parcel g k t a ms) ∨
    (∃ k t, (w.brought l).houses g = (w.houses g).takenCame k t ∧ l = .taken g k t) := by
  cases l with
  | answer c n t => exact .inl rfl
  | call h c n k wi =>
    by_cases e : g = h
    · subst e; exact .inr (.inl ⟨c, n, k, wi, by simp [World.brought, World.setHouse], rfl⟩)
    · exact .inl (by simp [World.brought, World.setHouse, setB, e])
  | parcel h k t a ms =>
    by_cases e : g = h
    · subst e; exact .inr (.inr (.inl ⟨k, t, a, ms, by simp [World.brought, World.setHouse], rfl⟩))
    · exact .inl (by simp [World.brought, World.setHouse, setB, e])
  | taken h k t =>
    by_cases e : g = h
    · subst e; exact .inr (.inr (.inr ⟨k, t, by simp [World.brought, World.setHouse], rfl⟩))
    · exact .inl (by simp [World.brought, World.setHouse, setB, e])

theorem called_known (H : House K) (c n : Int) (k : K) (wi : Wish) (j : K) : (H.called c n k wi).known j = H.known j ∨ ((H.known j).st = .here ∧ ((H.called c n k wi).known j).st = .here ∧ ((H.called c n k wi).known j).turn = (H.known j).turn) := by
  unfold House.called
  split
  · rename_i h
    split
    · exact .inl rfl
    · split
      · by_cases e : j = k
        · subst e; right; simp [h]
        · left; simp [setK_ne _ _ e]
      · exact .inl rfl
  · exact .inl rfl
theorem called_written (H : House K) (c n : Int) (k : K) (wi : Wish) : (H.called c n k wi).written = H.written := by
  unfold House.called; split <;> (try split) <;> (try split) <;> rfl
theorem called_laid (H : House K) (c n : Int) (k : K) (wi : Wish) {l : Letter K} (h : l ∈ H.laid) : l ∈ (H.called c n k wi).laid := by
  unfold House.called; split <;> (try split) <;> (try split) <;> first | exact h | exact List.mem_append_left _ h
theorem taken_written (H : House K) (k : K) (t : Int) : (H.takenCame k t).written = H.written := by unfold House.takenCame; split <;> rfl
theorem taken_laid (H : House K) (k : K) (t : Int) : (H.takenCame k t).laid = H.laid := by unfold House.takenCame; split <;> rfl

theorem brought_written (w : World K) (l : Letter K) (g : Bool) : ((w.brought l).houses g).written = (w.houses g).written := by
  rcases brought_house w l g with e | ⟨_, _, _, _, e, _⟩ | ⟨_, _, _, _, e, _⟩ | ⟨_, _, e, _⟩ <;> rw [e]
  · exact called_written ..
  · rfl
  · exact taken_written ..
theorem brought_ledger (w : World K) (l : Letter K) : (w.brought l).ledger = w.ledger := by cases l <;> rfl
theorem brought_post (w : World K) (l : Letter K) : (w.brought l).post = w.post := by cases l <;> rfl
theorem brought_laid {w : World K} {l x : Letter K} {g : Bool} (h : x ∈ (w.houses g).laid) : x ∈ ((w.brought l).houses g).laid := by
  rcases brought_house w l g with e | ⟨_, _, _, _, e, _⟩ | ⟨_, _, _, _, e, _⟩ | ⟨_, _, e, _⟩ <;> rw [e]
  · exact h
  · exact called_laid _ _ _ _ _ h
  · exact List.mem_append_left _ h
  · rw [taken_laid]; exact h
/-- a row is as it was, or here, or gone with the same turn where it was owed -/
theorem brought_known (w : World K) (l : Letter K) (g : Bool) (k : K) : ((w.brought l).houses g).known k = (w.houses g).known k ∨
    (((w.brought l).houses g).known k).st = .here ∧ ((w.houses g).known k).turn ≤ (((w.brought l).houses g).known k).turn ∨
    ((w.houses g).known k).st = .owed ∧ (((w.brought l).houses g).known k).st = .gone ∧ (((w.brought l).houses g).known k).turn = ((w.houses g).known k).turn := by
  rcases brought_house w l g with e | ⟨c, n, j, wi, e, _⟩ | ⟨j, t, a, ms, e, _⟩ | ⟨j, t, e, _⟩ <;> rw [e]
  · exact .inl rfl
  · rcases called_known (w.houses g) c n j wi k with q | ⟨_, q2, q3⟩
    · exact .inl q
    · exact .inr (.inl ⟨q2, by omega⟩)
  · unfold House.parcelCame
    by_cases ht : ((w.houses g).known j).turn < t
    · simp only [ht, if_true]
      by_cases ek : k = j
      · subst ek; right; left; simp; omega
      · left; exact setK_ne _ _ ek
    · left; simp only [ht, if_false]
  · unfold House.takenCame
    split
    · rename_i hc
      by_cases ek : k = j
      · subst ek; right; right; simp [hc.1]
      · left; exact setK_ne _ _ ek
    · exact .inl rfl
theorem brought_here {w : World K} {l : Letter K} {g : Bool} {k : K} (h : ((w.houses g).known k).st = .here) : (((w.brought l).houses g).known k).st = .here := by
  rcases brought_known w l g k with e | ⟨e, _⟩ | ⟨e, _⟩
  · rw [e]; exact h
  · exact e
  · rw [h] at e; cases e
theorem brought_turn (w : World K) (l : Letter K) (g : Bool) (k : K) : ((w.houses g).known k).turn ≤ (((w.brought l).houses g).known k).turn := by
  rcases brought_known w l g k with e | ⟨_, e⟩ | ⟨_, _, e⟩
  · rw [e]; exact Int.le_refl _
  · exact e
  · rw [e]; exact Int.le_refl _
theorem brought_owed {w : World K} {l : Letter K} {g : Bool} {k : K} (h : (((w.brought l).houses g).known k).st = .owed) : ((w.brought l).houses g).known k = (w.houses g).known k := by
  rcases brought_known w l g k with e | ⟨e, _⟩ | ⟨_, e, _⟩
  · exact e
  · rw [h] at e; cases e
  · rw [h] at e; cases e
theorem brought_asked (w : World K) (l : Letter K) (c : Int) : ((w.brought l).callers c).asked = (w.callers c).asked ∨ ((w.brought l).callers c).asked = none := by
  cases l with
  | call h c' n k wi => exact .inl rfl
  | parcel h k t a ms => exact .inl rfl
  | taken h k t => exact .inl rfl
  | answer c' n t =>
    by_cases e : c = c'
    · subst e
      show (setC w.callers c _ c).asked = _ ∨ (setC w.callers c _ c).asked = _
      rw [setC_same]
      unfold Caller.came
      cases ha : (w.callers c).asked with
      | none => simp [ha]
      | some a =>
        obtain ⟨m, k, wi⟩ := a
        by_cases hm : m = n
        · simp [hm]
        · simp [hm, ha]
    · left
      show (setC w.callers c' _ c).asked = _
      rw [setC_ne _ _ e]
end

section
variable {w : World K} {B : Begun K} {keys : List K} {cs : List Int}

/-- all letters of a list come: what always holds, and what stays -/
structure Fold (w₀ w : World K) (B : Begun K) : Prop where
  inv : Inv w B
  wr : ∀ g, (w.houses g).written = (w₀.houses g).written
  led : w.ledger = w₀.ledger
theorem Fold.step {w₀ : World K} {l : Letter K} (F : Fold w₀ w B) (h : LetOk (fun g => (w₀.houses g).written) w₀.ledger B l) : Fold w₀ (w.brought l) B where
  inv := F.inv.brought (by
    have e : (fun g => (w.houses g).written) = fun g => (w₀.houses g).written := funext F.wr
    rw [e, F.led]; exact h)
  wr := fun g => (brought_written w l g).trans (F.wr g)
  led := (brought_ledger w l).trans F.led

/-- ahead of the handing: all is written down -/
structure Ahead (w v : World K) (B : Begun K) (keys : List K) (cs : List Int) : Prop where
  inv : Inv v B
  kn : ∀ g, (v.houses g).known = (w.houses g).known
  wr : ∀ g, (v.houses g).written = (w.houses g).known
  laid : ∀ g, ∀ l ∈ (w.houses g).laid, l ∈ v.post
  own : ∀ g, ∀ k ∈ keys, ((w.houses g).known k).st = .owed → parcelOf g k ((w.houses g).known k) ∈ v.post
  callers : v.callers = w.callers
  split : ∃ A, v.post = A ++ w.calls cs ∧ ∀ g, ∀ k ∈ keys, ((w.houses g).known k).st = .owed → parcelOf g k ((w.houses g).known k) ∈ A
theorem write2_house (w : World K) (g : Bool) : ((w.write false).write true).houses g = (w.houses g).wrote := by
  cases g <;> simp [World.write, setB]
theorem Inv.ahead (I : Inv w B) : Ahead w (w.ahead keys cs) B keys cs := by
  have J : Inv ((((w.write false).write true).nudge keys false).nudge keys true) B := (((I.write false).write true).nudge keys false).nudge keys true
  have eh : ∀ g, ((w.ahead keys cs).houses g) = (w.houses g).wrote := write2_house w
  have own : ∀ g, ∀ k ∈ keys, ((w.houses g).known k).st = .owed → parcelOf g k ((w.houses g).known k) ∈ ((((w.write false).write true).nudge keys false).nudge keys true).post := fun g k hk ho => by
    have hm : parcelOf g k ((w.houses g).known k) ∈ (((w.write false).write true).houses g).nudged g keys := by
      rw [write2_house]
      exact List.mem_map.mpr ⟨k, List.mem_filter.mpr ⟨hk, decide_eq_true ho⟩, rfl⟩
    cases g with
    | false => exact List.mem_append_left _ (List.mem_append_right _ hm)
    | true => exact List.mem_append_right _ hm
  refine ⟨J.posted fun l hl => ?_, fun g => by rw [eh]; rfl, fun g => by rw [eh]; rfl, fun g l hl => ?_, fun g k hk ho => List.mem_append_left _ (own g k hk ho), rfl, _, rfl, own⟩
  · obtain ⟨c, _, hl⟩ := List.mem_flatMap.mp hl
    cases ha : (w.callers c).asked with
    | none =>
      have e : (match (w.callers c).asked with | some a => [callLetter false c a, callLetter true c a] | none => []) = ([] : List (Letter K)) := by rw [ha]
      have hl' : l ∈ (match (w.callers c).asked with | some a => [callLetter false c a, callLetter true c a] | none => []) := hl
      rw [e] at hl'; cases hl'
    | some a =>
      have e : (match (w.callers c).asked with | some a => [callLetter false c a, callLetter true c a] | none => []) = [callLetter false c a, callLetter true c a] := by rw [ha]
      have hl' : l ∈ (match (w.callers c).asked with | some a => [callLetter false c a, callLetter true c a] | none => []) := hl
      rw [e] at hl'
      have hb := (I.ask c a ha).2
      rcases List.mem_cons.mp hl' with q | q
      · rw [q]; exact hb
      · rw [List.mem_singleton.mp q]; exact hb
  · have h1 : l ∈ ((w.write false).write true).post := by
      cases g with
      | false =>
        have : l ∈ w.post ++ (w.houses false).laid := List.mem_append_right _ hl
        exact List.mem_append_left _ this
      | true =>
        have e : ((w.write false).houses true).laid = (w.houses true).laid := by simp [World.write, setB]
        exact List.mem_append_right _ (e ▸ hl)
    exact List.mem_append_left _ (List.mem_append_left _ (List.mem_append_left _ h1))

/-- the fold's start -/
theorem Ahead.fold {v : World K} (A : Ahead w v B keys cs) : Fold { v with post := [] } { v with post := [] } B := ⟨A.inv.postSub fun l hl => (by simp at hl), fun _ => rfl, rfl⟩
theorem Ahead.steps {v : World K} (A : Ahead w v B keys cs) : ∀ l ∈ v.post, ∀ u, Fold { v with post := [] } u B → Fold { v with post := [] } (u.brought l) B := fun l hl u F => F.step (A.inv.post l hl)
theorem Inv.round (I : Inv w B) : Inv (w.round keys cs) B := by
  have A := I.ahead (keys := keys) (cs := cs)
  exact (fold_keep (P := fun u => Fold _ u B) A.fold A.steps).inv

/-- what holds all along the handing -/
structure Along (w v u : World K) (B : Begun K) : Prop where
  f : Fold { v with post := [] } u B
  j : ∀ g k, ((u.houses g).known k).st = .here ∨ ((u.houses g).known k).turn = ((w.houses g).known k).turn
  o : ∀ g k, ((u.houses g).known k).st = .owed → (u.houses g).known k = (w.houses g).known k
theorem Ahead.along {v : World K} (A : Ahead w v B keys cs) : Along w v { v with post := [] } B :=
  ⟨A.fold, fun g k => .inr (congrArg Row.turn (congrFun (A.kn g) k)), fun g k _ => congrFun (A.kn g) k⟩
theorem Ahead.alongs {v : World K} (A : Ahead w v B keys cs) : ∀ l ∈ v.post, ∀ u, Along w v u B → Along w v (u.brought l) B := fun l hl u T =>
  ⟨A.steps l hl u T.f, fun g k => by
    rcases brought_known u l g k with e | ⟨e, _⟩ | ⟨e1, _, e2⟩
    · rw [e]; exact T.j g k
    · exact .inl e
    · rw [e2]
      rcases T.j g k with q | q
      · rw [q] at e1; cases e1
      · exact .inr q, fun g k h => by
    have e := brought_owed h
    rw [e] at h ⊢
    exact T.o g k h⟩

/-- where a letter of the post has come, each key is here in a house: behind the parcels -/
theorem Ahead.here {v : World K} (A : Ahead w v B keys cs) {C : List (Letter K)} (hsub : ∀ l ∈ C, l ∈ v.post)
    (hown : ∀ g, ∀ k ∈ keys, ((w.houses g).known k).st = .owed → parcelOf g k ((w.houses g).known k) ∈ C) {k : K} (hk : k ∈ keys) :
    ∃ g, (((C.foldl World.brought { v with post := [] }).houses g).known k).st = .here := by
  obtain ⟨X, T⟩ := A.inv.key k
  have hw : ∀ g, (v.houses g).written k = (w.houses g).known k := fun g => congrFun (A.wr g) k
  have hkn : ∀ g, (v.houses g).known k = (w.houses g).known k := fun g => congrFun (A.kn g) k
  rcases T.rest with ⟨o, _⟩ | ⟨o, _⟩
  · simp only [hw] at o
    have hm := hown X k hk o
    refine ⟨!X, ?_⟩
    have ht := T.turn
    simp only [hw] at ht
    have := fold_once (P := fun u => Along w v u B) (Q := fun u => ((w.houses X).known k).turn + 1 ≤ ((u.houses !X).known k).turn) (w := { v with post := [] }) hm A.along (fun l hl => A.alongs l (hsub l hl)) (fun u _ => ?_) (fun l _ u _ q => Int.le_trans q (brought_turn u l _ _))
    · have al := fold_keep (P := fun u => Along w v u B) (ls := C) (w := { v with post := [] }) A.along (fun l hl => A.alongs l (hsub l hl))
      rcases al.j (!X) k with q | q
      · exact q
      · omega
    · unfold parcelOf
      simp only [World.brought, World.setHouse, setB_same, House.parcelCame]
      by_cases hl : ((u.houses !X).known k).turn < ((w.houses X).known k).turn + 1
      · simp [hl]
      · simp only [hl, if_false]; omega
  · simp only [hw] at o
    exact ⟨X, fold_keep (P := fun u => ((u.houses X).known k).st = .here) (by rw [show (({ v with post := [] } : World K).houses X).known k = (v.houses X).known k from rfl, hkn]; exact o) fun l _ u h => brought_here h⟩

theorem round_here (I : Inv w B) {k : K} (hk : k ∈ keys) : ∃ g, (((w.round keys cs).houses g).known k).st = .here := by
  have A := I.ahead (keys := keys) (cs := cs)
  exact A.here (fun l h => h) (fun g k hk ho => A.own g k hk ho) hk

/-- behind a round: who still asks has an answer laid out -/
theorem round_answer (I : Inv w B) (hkeys : ∀ x ∈ B, x.2.2.1 ∈ keys) {c : Int} (hc : c ∈ cs) {a : Int × K × Wish} (ha : ((w.round keys cs).callers c).asked = some a) :
    ∃ g t, Letter.answer c a.1 t ∈ ((w.round keys cs).houses g).laid := by
  have A := I.ahead (keys := keys) (cs := cs)
  -- it asked ahead
  have back : ∀ (ls : List (Letter K)) (u : World K), ((ls.foldl World.brought u).callers c).asked = some a → (u.callers c).asked = some a := by
    intro ls
    induction ls with
    | nil => intro u h; exact h
    | cons l r ih =>
      intro u h
      have := ih _ h
      rcases brought_asked u l c with e | e
      · rw [← e]; exact this
      · rw [e] at this; cases this
  have h0 : (w.callers c).asked = some a := by
    have := back _ _ ha
    have e : ({ w.ahead keys cs with post := [] } : World K).callers = w.callers := A.callers
    rw [e] at this
    exact this
  have hB := (I.ask c a h0).2
  have hk : a.2.1 ∈ keys := hkeys _ hB
  obtain ⟨P, hP, hown⟩ := A.split
  have hPs : ∀ l ∈ P, l ∈ (w.ahead keys cs).post := fun l hl => by rw [hP]; exact List.mem_append_left _ hl
  obtain ⟨g, hg⟩ := A.here hPs hown hk
  have hC : ∀ l ∈ w.calls cs, l ∈ (w.ahead keys cs).post := fun l hl => by rw [hP]; exact List.mem_append_right _ hl
  have alP := fold_keep (P := fun u => Along w (w.ahead keys cs) u B) A.along fun l hl => A.alongs l (hPs l hl)
  have hin : callLetter g c a ∈ w.calls cs := by
    refine List.mem_flatMap.mpr ⟨c, hc, ?_⟩
    rw [h0]
    cases g <;> simp
  have e : w.round keys cs = (w.calls cs).foldl World.brought (P.foldl World.brought { w.ahead keys cs with post := [] }) := by
    unfold World.round World.handAll
    rw [hP, List.foldl_append]
  rw [e]
  refine ⟨g, ?_⟩
  refine fold_once (P := fun u => Along w (w.ahead keys cs) u B ∧ ((u.houses g).known a.2.1).st = .here ∧ (u.callers c).made = (w.callers c).made) (Q := fun u => ∃ t, Letter.answer c a.1 t ∈ (u.houses g).laid) hin ⟨alP, hg, ?_⟩ (fun l hl u p => ⟨A.alongs l (hC l hl) u p.1, brought_here p.2.1, ?_⟩) (fun u p => ?_) (fun l _ u _ ⟨t, q⟩ => ⟨t, brought_laid q⟩)
  · have : ∀ (ls : List (Letter K)) (u : World K), ((ls.foldl World.brought u).callers c).made = (u.callers c).made := by
      intro ls
      induction ls with
      | nil => intro u; rfl
      | cons l r ih =>
        intro u
        refine (ih _).trans ?_
        cases l with
        | answer c' n t =>
          show (setC u.callers c' _ c).made = _
          by_cases e : c = c'
          · subst e
            rw [setC_same]
            unfold Caller.came
            split
            · split <;> rfl
            · rfl
          · rw [setC_ne _ _ e]
        | call => rfl
        | parcel => rfl
        | taken => rfl
    rw [this]
    rw [show (({ w.ahead keys cs with post := [] } : World K).callers) = w.callers from A.callers]
  · have : ((u.brought l).callers c).made = (u.callers c).made := by
      cases l with
      | answer c' n t =>
        show (setC u.callers c' _ c).made = _
        by_cases e : c = c'
        · subst e
          rw [setC_same]
          unfold Caller.came
          split
          · split <;> rfl
          · rfl
        · rw [setC_ne _ _ e]
      | call => rfl
      | parcel => rfl
      | taken => rfl
    rw [this]; exact p.2.2
  · obtain ⟨al, hh, hm⟩ := p
    have hn : a.1 = (u.callers c).made := by rw [hm]; exact (I.ask c a h0).1
    have hn1 := (I.num _ _ _ _ hB).1
    have hle := al.f.inv.last_le hh c (by omega)
    show ∃ t, Letter.answer c a.1 t ∈ ((u.setHouse g ((u.houses g).called c a.1 a.2.1 a.2.2)).houses g).laid
    simp only [World.setHouse, setB_same]
    unfold House.called
    rw [if_pos hh, if_neg (by omega)]
    split
    · exact ⟨_, List.mem_append_right _ (List.mem_singleton.mpr rfl)⟩
    · exact ⟨_, List.mem_append_right _ (List.mem_singleton.mpr rfl)⟩

/-- behind a round: what is still owed has its taken letter laid out -/
theorem round_owed (I : Inv w B) {g : Bool} {k : K} (hk : k ∈ keys) (ho : (((w.round keys cs).houses g).known k).st = .owed) :
    Letter.taken g k ((((w.round keys cs).houses g).known k).turn + 1) ∈ ((w.round keys cs).houses !g).laid := by
  have A := I.ahead (keys := keys) (cs := cs)
  have al := fold_keep (P := fun u => Along w (w.ahead keys cs) u B) A.along A.alongs
  have e : ((w.round keys cs).houses g).known k = (w.houses g).known k := al.o g k ho
  rw [e] at ho ⊢
  refine fold_once (P := fun _ => True) (Q := fun u => Letter.taken g k (((w.houses g).known k).turn + 1) ∈ (u.houses !g).laid) (A.own g k hk ho) trivial (fun _ _ _ _ => trivial) (fun u _ => ?_) (fun l _ u _ q => brought_laid q)
  unfold parcelOf
  simp only [World.brought, World.setHouse, setB_same, House.parcelCame, Bool.not_not]
  exact List.mem_append_right _ (List.mem_singleton.mpr rfl)

/-- a second round behind a first one: nobody asks -/
theorem round_quiet (I : Inv w B) {c : Int} (h : ∀ a, (w.callers c).asked = some a → ∃ g t, Letter.answer c a.1 t ∈ (w.houses g).laid) : ((w.round keys cs).callers c).asked = none := by
  have A := I.ahead (keys := keys) (cs := cs)
  have e0 : ({ w.ahead keys cs with post := [] } : World K).callers = w.callers := A.callers
  cases ha : (w.callers c).asked with
  | none =>
    refine fold_keep (P := fun u => (u.callers c).asked = none) (by rw [e0]; exact ha) fun l _ u p => ?_
    rcases brought_asked u l c with e | e
    · rw [e]; exact p
    · exact e
  | some a =>
    obtain ⟨g, t, hl⟩ := h a ha
    refine fold_once (P := fun u => (u.callers c).asked = some a ∨ (u.callers c).asked = none) (Q := fun u => (u.callers c).asked = none) (A.laid g _ hl) (.inl (by rw [e0]; exact ha)) (fun l _ u p => ?_) (fun u p => ?_) (fun l _ u _ q => ?_)
    · rcases brought_asked u l c with e | e
      · rw [e]; exact p
      · exact .inr e
    · show (setC u.callers c _ c).asked = none
      rw [setC_same]
      unfold Caller.came
      rcases p with p | p
      · rw [p]; obtain ⟨m, k, wi⟩ := a; simp
      · rw [p]; exact p
    · rcases brought_asked u l c with e | e
      · rw [e]; exact q
      · exact e
/-- .. and nothing is owed -/
theorem round_paid (I : Inv w B) {g : Bool} {k : K} (h : ((w.houses g).known k).st = .owed → Letter.taken g k (((w.houses g).known k).turn + 1) ∈ (w.houses !g).laid) : (((w.round keys cs).houses g).known k).st ≠ .owed := by
  intro ho
  have A := I.ahead (keys := keys) (cs := cs)
  have al := fold_keep (P := fun u => Along w (w.ahead keys cs) u B) A.along A.alongs
  have e : ((w.round keys cs).houses g).known k = (w.houses g).known k := al.o g k ho
  have ho' := ho
  rw [e] at ho'
  have hl := h ho'
  have : ((w.round keys cs).houses g).known k ≠ (w.houses g).known k := by
    refine fold_once (P := fun _ => True) (Q := fun u => (u.houses g).known k ≠ (w.houses g).known k) (A.laid _ _ hl) trivial (fun _ _ _ _ => trivial) (fun u _ q => ?_) (fun l _ u _ q z => ?_)
    · simp only [World.brought, World.setHouse, setB_same, House.takenCame] at q
      split at q
      · simp only [setK_same] at q
        rw [← q] at ho'
        cases ho'
      · rename_i hc
        rw [q] at hc
        exact hc ⟨ho', rfl⟩
    · have hz : (((u.brought l).houses g).known k).st = .owed := by rw [z]; exact ho'
      rw [brought_owed hz] at z
      exact q z
  exact this e

theorem two_rounds (I : Inv w B) (hkeys : ∀ x ∈ B, x.2.2.1 ∈ keys) : ((w.round keys cs).round keys cs).ready keys cs := by
  have J : Inv (w.round keys cs) B := I.round
  have paid : ∀ g, ((w.round keys cs).round keys cs).owes g keys = [] := fun g => by
    refine List.filter_eq_nil_iff.mpr fun k hk => ?_
    have := round_paid (keys := keys) (cs := cs) J (g := g) (k := k) fun ho => round_owed I hk ho
    simpa using this
  exact ⟨fun c hc => round_quiet J fun a ha => round_answer I hkeys hc ha, paid false, paid true⟩
end
end Mv


namespace Mo
open PySem L2 Fx
open Mv (Mark Row LRow Letter)
/-! ### lists -/
theorem pyAll_py : ∀ ds : List PyData, pyAll (ds.map (TL.py : PyData → T)) = some ds
  | [] => rfl
  | d :: ds => by simp [pyAll, pyAll_py ds]
theorem atI_nat {α : Type} {ds : List α} {i : Nat} (h : i < ds.length) : atI ds (i : Int) = some ds[i] := by
  unfold atI
  rw [Evl.ixN_nat h]
  simp [h]
theorem at0 {α : Type} (a : α) (l : List α) : atI (a :: l) 0 = some a := atI_nat (ds := a :: l) (i := 0) (by simp)
theorem at1 {α : Type} (a b : α) (l : List α) : atI (a :: b :: l) 1 = some b := atI_nat (ds := a :: b :: l) (i := 1) (by simp)
theorem at2 {α : Type} (a b c : α) (l : List α) : atI (a :: b :: c :: l) 2 = some c := atI_nat (ds := a :: b :: c :: l) (i := 2) (by simp)
theorem at3 {α : Type} (a b c d : α) (l : List α) : atI (a :: b :: c :: d :: l) 3 = some d := atI_nat (ds := a :: b :: c :: d :: l) (i := 3) (by simp)
theorem at4 {α : Type} (a b c d e : α) (l : List α) : atI (a :: b :: c :: d :: e :: l) 4 = some e := atI_nat (ds := a :: b :: c :: d :: e :: l) (i := 4) (by simp)
theorem ixN_of {n : Nat} {i : Int} (h0 : 0 ≤ i) (h : i < n) : ixN n i = some i.toNat := by
  unfold ixN
  rw [if_pos h0, if_pos h]
theorem atI_of {α : Type} {ds : List α} {i : Int} (h0 : 0 ≤ i) (h : i < ds.length) : atI ds i = ds[i.toNat]? := by
  unfold atI
  rw [ixN_of h0 h]
  rfl
theorem collect_map {tg : Sv → Rh → Option Rh} {c : Rh → Option Bool} {e : Rh → Option Sv} {ρ : Rh} {f : PyData → PyData} : ∀ (ds : List PyData), (∀ d ∈ ds, ∃ ρ1, tg (.py d) ρ = some ρ1 ∧ c ρ1 = some true ∧ e ρ1 = some (.py (f d))) → collect tg c e ρ ds = some (ds.map f)
  | [], _ => rfl
  | d :: ds, h => by
    obtain ⟨ρ1, h1, h2, h3⟩ := h d (by simp)
    simp [Fx.collect, h1, h2, h3, collect_map ds fun x hx => h x (by simp [hx])]
theorem collect_filter {tg : Sv → Rh → Option Rh} {c : Rh → Option Bool} {e : Rh → Option Sv} {ρ : Rh} {p : PyData → Bool} {f : PyData → PyData} : ∀ (ds : List PyData), (∀ d ∈ ds, ∃ ρ1, tg (.py d) ρ = some ρ1 ∧ c ρ1 = some (p d) ∧ (p d = true → e ρ1 = some (.py (f d)))) → collect tg c e ρ ds = some ((ds.filter p).map f)
  | [], _ => rfl
  | d :: ds, h => by
    obtain ⟨ρ1, h1, h2, h3⟩ := h d (by simp)
    have ih := collect_filter ds fun x hx => h x (by simp [hx])
    cases hp : p d with
    | true => simp [Fx.collect, h1, h2, hp, h3 hp, ih]
    | false => simp [Fx.collect, h1, h2, hp, ih]
theorem nLc_some {vs : List Nat} {it : Rh → Option (List PyData)} {tg : Sv → Rh → Option Rh} {c : Rh → Option Bool} {e : Rh → Option Sv} {ρ : Rh} {ds xs : List PyData} (hi : it ρ = some ds) (hl : ds.length ≤ 100000) (hc : Fx.collect tg c e (wipeR ρ vs) ds = some xs) : nLc vs it tg c e ρ = some (.lst, xs) := by
  unfold nLc
  rw [hi]
  simp only [hl, if_true, hc]
theorem msk_py (bad : List Nat → Bool) (d : PyData) : msk1 bad (some (.py d)) = some (.py d) := rfl
theorem msk_no (bad : List Nat → Bool) : msk1 bad none = none := rfl
theorem msk_pt (bad : List Nat → Bool) (π : List Nat) : msk1 bad (some (.pt π)) = if bad π then none else some (.pt π) := rfl
theorem boolsF_map {α : Type} (l : List α) (b : α → Bool) : boolsF (l.map fun x => PyData.bool (b x)) = some (l.map b) := by
  induction l with
  | nil => rfl
  | cons a l ih => simp [boolsF, ih]
theorem cut2 (l : List PyData) : cutF l (some 2) none = l.drop 2 := by
  unfold cutF
  have e1 : HT.sIx l.length l.length none = l.length := rfl
  have e2 : HT.sIx l.length 0 (some 2) = min 2 l.length := by
    rw [show (2 : Int) = ((2 : Nat) : Int) from rfl, HT.sIx_nat]
  rw [e1, e2, List.take_of_length_le (by simp)]
  by_cases h : 2 ≤ l.length
  · rw [Nat.min_eq_left h]
  · rw [Nat.min_eq_right (by omega), List.drop_of_length_le (by omega), List.drop_of_length_le (by omega)]
theorem cut1 (l : List PyData) : cutF l (some 1) none = l.drop 1 := by
  unfold cutF
  have e1 : HT.sIx l.length l.length none = l.length := rfl
  have e2 : HT.sIx l.length 0 (some 1) = min 1 l.length := by
    rw [show (1 : Int) = ((1 : Nat) : Int) from rfl, HT.sIx_nat]
  rw [e1, e2, List.take_of_length_le (by simp)]
  by_cases h : 1 ≤ l.length
  · rw [Nat.min_eq_left h]
  · rw [Nat.min_eq_right (by omega), List.drop_of_length_le (by omega), List.drop_of_length_le (by omega)]
theorem cutTo2 (l : List PyData) : cutF l none (some 2) = l.take 2 := by
  unfold cutF
  have e1 : HT.sIx l.length 0 none = 0 := rfl
  have e2 : HT.sIx l.length l.length (some 2) = min 2 l.length := by
    rw [show (2 : Int) = ((2 : Nat) : Int) from rfl, HT.sIx_nat]
  rw [e1, e2, List.drop_zero, Nat.sub_zero]
  by_cases h : 2 ≤ l.length
  · rw [Nat.min_eq_left h]
  · rw [Nat.min_eq_right (by omega), List.take_of_length_le (by omega), List.take_of_length_le (by omega)]
/-! ### keys of a dict -/
theorem ix_key : ∀ {ks : List Str} {k : Str}, k ∈ ks → ∃ i, ixK (ks.map (Sum.inr : Str → Key)) (.inr k) = some i ∧ ks[i]? = some k
  | g :: r, k, h => by
    by_cases e : g = k
    · subst e; exact ⟨0, by simp [ixK], rfl⟩
    · obtain ⟨i, h1, h2⟩ := ix_key (ks := r) (k := k) (by
        rcases List.mem_cons.mp h with h | h
        · exact absurd h.symm e
        · exact h)
      refine ⟨i + 1, ?_, by simpa using h2⟩
      have : ¬ (Sum.inr g : Key) = .inr k := fun z => e (Sum.inr.inj z)
      simp [ixK, e, h1]
theorem set_key {α : Type} {f : Str → α} {x : α} : ∀ {ks : List Str} {i : Nat} {k : Str}, ks.Nodup → ks[i]? = some k → (ks.map f).set i x = ks.map fun j => if j = k then x else f j
  | [], i, k, n, h => by simp at h
  | g :: r, 0, k, n, h => by
    simp at h; subst h
    have n := List.nodup_cons.mp n
    simp only [List.map_cons, List.set_cons_zero, if_true, List.cons.injEq, true_and]
    exact List.map_congr_left fun j hj => by rw [if_neg fun z : j = g => n.1 (z ▸ hj)]
  | g :: r, i + 1, k, n, h => by
    have n := List.nodup_cons.mp n
    have h : r[i]? = some k := by simpa using h
    have hk : k ∈ r := List.mem_of_getElem? h
    simp only [List.map_cons, List.set_cons_succ, set_key n.2 h, if_neg (show ¬ g = k from fun z => n.1 (z ▸ hk))]
/-! ### the world's things as data -/
def stS : Mv.St → Str
  | .here => "here"
  | .owed => "owed"
  | .gone => "gone"
def markD (m : Mark) : PyData := .tuple [.int m.1, .int m.2.1, .int m.2.2]
def rowD (r : Row) : PyData := .tuple [.str (stS r.st), .int r.turn, .int r.amount, .tuple (r.marks.map markD)]
def hI (b : Bool) : Int := if b then 1 else 0
def wishD : Mv.Wish → PyData
  | .get => .tuple [.str "get"]
  | .set n => .tuple [.str "set", .int n]
  | .add n => .tuple [.str "add", .int n]
def letD : Letter Str → PyData
  | .call h c n k w => .tuple [.str "call", .int (hI h), .int c, .int n, .str k, wishD w]
  | .answer c n t => .tuple [.str "answer", .int c, .int n, .int t]
  | .parcel h k t a ms => .tuple [.str "parcel", .int (hI h), .str k, .int t, .int a, .tuple (ms.map markD)]
  | .taken h k t => .tuple [.str "taken", .int (hI h), .str k, .int t]
def lrD (r : LRow Str) : PyData := .tuple [.int r.c, .int r.n, .str r.k, wishD r.w, .int r.told]
def houseC (m : Int) (ks : List Str) (H : Mv.House Str) : List T :=
  [.py (.int m), .nd () (.dct (ks.map .inr)) (ks.map fun k => .py (rowD (H.known k))), .nd () (.dct (ks.map .inr)) (ks.map fun k => .py (rowD (H.written k))), .nd () .lst (H.laid.map fun l => .py (letD l)), .nd () .lst (H.fresh.map fun r => .py (lrD r))]
def houseT (m : Int) (ks : List Str) (H : Mv.House Str) : T := .nd () (.ins "House" ["number", "known", "written", "laid_out", "new_rows"]) (houseC m ks H)
theorem house_0 (m : Int) (ks : List Str) (H : Mv.House Str) : (houseC m ks H)[0]? = some (.py (.int m)) := rfl
theorem house_1 (m : Int) (ks : List Str) (H : Mv.House Str) : (houseC m ks H)[1]? = some (.nd () (.dct (ks.map .inr)) (ks.map fun k => .py (rowD (H.known k)))) := rfl
theorem house_2 (m : Int) (ks : List Str) (H : Mv.House Str) : (houseC m ks H)[2]? = some (.nd () (.dct (ks.map .inr)) (ks.map fun k => .py (rowD (H.written k)))) := rfl
theorem house_3 (m : Int) (ks : List Str) (H : Mv.House Str) : (houseC m ks H)[3]? = some (.nd () .lst (H.laid.map fun l => .py (letD l))) := rfl
theorem house_4 (m : Int) (ks : List Str) (H : Mv.House Str) : (houseC m ks H)[4]? = some (.nd () .lst (H.fresh.map fun r => .py (lrD r))) := rfl
theorem noLists_marks : ∀ ms : List Mark, noLists (ms.map markD) = true
  | [] => rfl
  | m :: ms => by simp [noLists, markD, noList, noLists_marks ms]
theorem noList_mark (m : Mark) : noList (markD m) = true := by simp [markD, noList, noLists]
theorem noList_wish (w : Mv.Wish) : noList (wishD w) = true := by cases w <;> rfl
theorem noList_row (r : Row) : noList (rowD r) = true := by simp [rowD, noList, noLists, noLists_marks]
theorem noList_let (l : Letter Str) : noList (letD l) = true := by cases l <;> simp [letD, noList, noLists, noLists_marks, noList_wish]
theorem noList_lr (r : LRow Str) : noList (lrD r) = true := by simp [lrD, noList, noLists, noList_wish]
/-! ### defs over data -/
theorem done_ok (a : Int) (w : Mv.Wish) : S_done [.py (.int a), .py (wishD w)] [] = some (.vl (.s (.py (.tuple [.int (w.done a).1, .int (w.done a).2]))) []) := by
  cases w <;> simp [S_done, b_done, runF, wishD, Mv.Wish.done, Fx.Hd.own, Fx.TL.er, Fx.erAll, Fx.TL.get, Fx.TL.put, Fx.gget, Fx.gput, Fx.TL.addrs, Fx.TL.data, Fx.dataAll, Fx.msk, Fx.mulOk, Fx.addF, Fx.subF, Fx.mulF, Fx.fdivF, Fx.modF, Fx.powF, Fx.ltF, Fx.leF, Fx.gtF, Fx.geF, Fx.eqD, Fx.eqF, Fx.neF, Fx.isF, Fx.isntF, Fx.idxF, Fx.lenF, Fx.kindF, Fx.kitF, Fx.keyF, Fx.ixS, Fx.ixK, Fx.vVar, Fx.vC, Fx.vAt, Fx.dat, Fx.vD, Fx.vS, Fx.vPy, Fx.d2, Fx.dB, Fx.vB, Fx.bV, Fx.child, Fx.kidAt, Fx.vIdx, Fx.vGet, Fx.vFld, Fx.vLen, Fx.kindS, Fx.vIsi, Fx.vIsi2, Fx.aNil, Fx.aCons, Fx.vTup, Fx.nLst, Fx.vFz, Fx.bAnd, Fx.bOr, Fx.bNot, Fx.vIf, Fx.oNo, Fx.oI, Fx.cutF, Fx.vSlc, Fx.nSlc, Fx.negF, Fx.dNeg, Fx.rLenN, Fx.rIsiN, Fx.rIsiN2, Fx.nDct0, Fx.nDdt0, Fx.lendF, Fx.backF, Fx.headLt, Fx.voidF, Fx.tidy, Fx.callF, Fx.makeF, Fx.fP, Fx.fN, Fx.fB, Fx.rootF, Fx.dropLastF, Fx.fZ, Fx.push, Fx.gNo, Fx.gCo, Fx.fCall, Fx.fMake, Fx.fMeth, Fx.fBin2, Fx.fCmp2, Fx.fAnd, Fx.fOr, Fx.fNot, Fx.fBo, Fx.fMv, Fx.fOn, Fx.sNx, Fx.sBk, Fx.sCt, Fx.sRN, Fx.sSq, Fx.sDr, Fx.sRt, Fx.sIf, Fx.gN, Fx.gT0, Fx.gTC, Fx.gTu, Fx.takeRoot, Fx.sAs, Fx.sAt, Fx.childF, Fx.kidF, Fx.belowF, Fx.putAt, Fx.sFl, Fx.sPu, Fx.sSL, Fx.topPt, Fx.popTm, Fx.pushPt, Fx.sAp, Fx.sEx, Fx.fPop, Fx.sDe, Fx.pyAll, Fx.sEt, Fx.sFo, Fx.sFu, Fx.rngF, Fx.sFr, Fx.shiftS, Fx.lentF, Fx.dCall, Fx.nCall, Fx.iL, Fx.iLn, Fx.iT, Fx.iR, Fx.wipeR, Fx.bYes, Fx.nLc, Fx.boolsF, Fx.allF, Fx.d1, Fx.maxF, Fx.intF, Fx.nCopy, Fx.strsF, Fx.joinF, Fx.sRaise, Fx.intsF, Fx.inF, Fx.sAug, Fx.nDcp, Fx.keyD, Fx.iIt, Fx.nLock, Fx.wNo, Fx.wCo, Fx.vCallR, Fx.vMethR, Fx.key1, Fx.isK1, Fx.fSort1, Fx.fTupOf, Fx.aStar, Fx.nDc, Fx.dTup, Fx.dLst, Fx.gathF, Fx.dispF, Fx.allPy, Fx.popN, Fx.fTup, Fx.fLst, Fx.fDct, Fx.vGet2, Fx.keysF, Fx.kTup, Fx.vGetT2, Fx.vGetT, Fx.sPuT, Fx.sAt2, msk_py, msk_no, msk_pt, List.isPrefixOf, List.cons_prefix_cons, List.nil_prefix, ofString_inj, at0, noList]
theorem first_ok (g : Bool) : S_known_at_first [.py (.int (hI g))] [] = some (.vl (.s (.py (rowD ((Mv.House.new g : Mv.House Str).known "")))) []) := by
  cases g <;> simp [S_known_at_first, b_known_at_first, runF, hI, Mv.House.new, rowD, stS, Fx.Hd.own, Fx.TL.er, Fx.erAll, Fx.TL.get, Fx.TL.put, Fx.gget, Fx.gput, Fx.TL.addrs, Fx.TL.data, Fx.dataAll, Fx.msk, Fx.mulOk, Fx.addF, Fx.subF, Fx.mulF, Fx.fdivF, Fx.modF, Fx.powF, Fx.ltF, Fx.leF, Fx.gtF, Fx.geF, Fx.eqD, Fx.eqF, Fx.neF, Fx.isF, Fx.isntF, Fx.idxF, Fx.lenF, Fx.kindF, Fx.kitF, Fx.keyF, Fx.ixS, Fx.ixK, Fx.vVar, Fx.vC, Fx.vAt, Fx.dat, Fx.vD, Fx.vS, Fx.vPy, Fx.d2, Fx.dB, Fx.vB, Fx.bV, Fx.child, Fx.kidAt, Fx.vIdx, Fx.vGet, Fx.vFld, Fx.vLen, Fx.kindS, Fx.vIsi, Fx.vIsi2, Fx.aNil, Fx.aCons, Fx.vTup, Fx.nLst, Fx.vFz, Fx.bAnd, Fx.bOr, Fx.bNot, Fx.vIf, Fx.oNo, Fx.oI, Fx.cutF, Fx.vSlc, Fx.nSlc, Fx.negF, Fx.dNeg, Fx.rLenN, Fx.rIsiN, Fx.rIsiN2, Fx.nDct0, Fx.nDdt0, Fx.lendF, Fx.backF, Fx.headLt, Fx.voidF, Fx.tidy, Fx.callF, Fx.makeF, Fx.fP, Fx.fN, Fx.fB, Fx.rootF, Fx.dropLastF, Fx.fZ, Fx.push, Fx.gNo, Fx.gCo, Fx.fCall, Fx.fMake, Fx.fMeth, Fx.fBin2, Fx.fCmp2, Fx.fAnd, Fx.fOr, Fx.fNot, Fx.fBo, Fx.fMv, Fx.fOn, Fx.sNx, Fx.sBk, Fx.sCt, Fx.sRN, Fx.sSq, Fx.sDr, Fx.sRt, Fx.sIf, Fx.gN, Fx.gT0, Fx.gTC, Fx.gTu, Fx.takeRoot, Fx.sAs, Fx.sAt, Fx.childF, Fx.kidF, Fx.belowF, Fx.putAt, Fx.sFl, Fx.sPu, Fx.sSL, Fx.topPt, Fx.popTm, Fx.pushPt, Fx.sAp, Fx.sEx, Fx.fPop, Fx.sDe, Fx.pyAll, Fx.sEt, Fx.sFo, Fx.sFu, Fx.rngF, Fx.sFr, Fx.shiftS, Fx.lentF, Fx.dCall, Fx.nCall, Fx.iL, Fx.iLn, Fx.iT, Fx.iR, Fx.wipeR, Fx.bYes, Fx.nLc, Fx.boolsF, Fx.allF, Fx.d1, Fx.maxF, Fx.intF, Fx.nCopy, Fx.strsF, Fx.joinF, Fx.sRaise, Fx.intsF, Fx.inF, Fx.sAug, Fx.nDcp, Fx.keyD, Fx.iIt, Fx.nLock, Fx.wNo, Fx.wCo, Fx.vCallR, Fx.vMethR, Fx.key1, Fx.isK1, Fx.fSort1, Fx.fTupOf, Fx.aStar, Fx.nDc, Fx.dTup, Fx.dLst, Fx.gathF, Fx.dispF, Fx.allPy, Fx.popN, Fx.fTup, Fx.fLst, Fx.fDct, Fx.vGet2, Fx.keysF, Fx.kTup, Fx.vGetT2, Fx.vGetT, Fx.sPuT, Fx.sAt2, msk_py, msk_no, msk_pt, List.isPrefixOf, List.cons_prefix_cons, List.nil_prefix, noList, noLists]
def markOf (ms : List Mark) (c : Int) : PyData := match ms.find? fun m => decide (m.1 = c) with
  | some m => markD m
  | none => .none
theorem mark_turn (x c : Int) (m : Mark) (all : PyData) (s2 : Option Sv) : h_mark_of_1 ⟨[some (.py all), some (.py (.int c)), some (.py (markD m))], [], [.un (), .un (), .un ()], 3⟩ = if m.1 = c then some (.rt (.s (.py (markD m))) ⟨[some (.py all), some (.py (.int c)), some (.py (markD m))], [], [.un (), .un (), .un ()], 3⟩) else some (.nx ⟨[some (.py all), some (.py (.int c)), some (.py (markD m))], [], [.un (), .un (), .un ()], 3⟩) := by
  by_cases h : m.1 = c <;> simp [h_mark_of_1, markD, Fx.Hd.own, Fx.TL.er, Fx.erAll, Fx.TL.get, Fx.TL.put, Fx.gget, Fx.gput, Fx.TL.addrs, Fx.TL.data, Fx.dataAll, Fx.msk, Fx.mulOk, Fx.addF, Fx.subF, Fx.mulF, Fx.fdivF, Fx.modF, Fx.powF, Fx.ltF, Fx.leF, Fx.gtF, Fx.geF, Fx.eqD, Fx.eqF, Fx.neF, Fx.isF, Fx.isntF, Fx.idxF, Fx.lenF, Fx.kindF, Fx.kitF, Fx.keyF, Fx.ixS, Fx.ixK, Fx.vVar, Fx.vC, Fx.vAt, Fx.dat, Fx.vD, Fx.vS, Fx.vPy, Fx.d2, Fx.dB, Fx.vB, Fx.bV, Fx.child, Fx.kidAt, Fx.vIdx, Fx.vGet, Fx.vFld, Fx.vLen, Fx.kindS, Fx.vIsi, Fx.vIsi2, Fx.aNil, Fx.aCons, Fx.vTup, Fx.nLst, Fx.vFz, Fx.bAnd, Fx.bOr, Fx.bNot, Fx.vIf, Fx.oNo, Fx.oI, Fx.cutF, Fx.vSlc, Fx.nSlc, Fx.negF, Fx.dNeg, Fx.rLenN, Fx.rIsiN, Fx.rIsiN2, Fx.nDct0, Fx.nDdt0, Fx.lendF, Fx.backF, Fx.headLt, Fx.voidF, Fx.tidy, Fx.callF, Fx.makeF, Fx.fP, Fx.fN, Fx.fB, Fx.rootF, Fx.dropLastF, Fx.fZ, Fx.push, Fx.gNo, Fx.gCo, Fx.fCall, Fx.fMake, Fx.fMeth, Fx.fBin2, Fx.fCmp2, Fx.fAnd, Fx.fOr, Fx.fNot, Fx.fBo, Fx.fMv, Fx.fOn, Fx.sNx, Fx.sBk, Fx.sCt, Fx.sRN, Fx.sSq, Fx.sDr, Fx.sRt, Fx.sIf, Fx.gN, Fx.gT0, Fx.gTC, Fx.gTu, Fx.takeRoot, Fx.sAs, Fx.sAt, Fx.childF, Fx.kidF, Fx.belowF, Fx.putAt, Fx.sFl, Fx.sPu, Fx.sSL, Fx.topPt, Fx.popTm, Fx.pushPt, Fx.sAp, Fx.sEx, Fx.fPop, Fx.sDe, Fx.pyAll, Fx.sEt, Fx.sFo, Fx.sFu, Fx.rngF, Fx.sFr, Fx.shiftS, Fx.lentF, Fx.dCall, Fx.nCall, Fx.iL, Fx.iLn, Fx.iT, Fx.iR, Fx.wipeR, Fx.bYes, Fx.nLc, Fx.boolsF, Fx.allF, Fx.d1, Fx.maxF, Fx.intF, Fx.nCopy, Fx.strsF, Fx.joinF, Fx.sRaise, Fx.intsF, Fx.inF, Fx.sAug, Fx.nDcp, Fx.keyD, Fx.iIt, Fx.nLock, Fx.wNo, Fx.wCo, Fx.vCallR, Fx.vMethR, Fx.key1, Fx.isK1, Fx.fSort1, Fx.fTupOf, Fx.aStar, Fx.nDc, Fx.dTup, Fx.dLst, Fx.gathF, Fx.dispF, Fx.allPy, Fx.popN, Fx.fTup, Fx.fLst, Fx.fDct, Fx.vGet2, Fx.keysF, Fx.kTup, Fx.vGetT2, Fx.vGetT, Fx.sPuT, Fx.sAt2, msk_py, msk_no, msk_pt, List.isPrefixOf, List.cons_prefix_cons, List.nil_prefix, at0, h]
theorem mark_loop (c : Int) (all : PyData) : ∀ (ms : List Mark) (s2 : Option Sv), ∃ ρ, loopD (gN 2) h_mark_of_1 (ms.map markD) ⟨[some (.py all), some (.py (.int c)), s2], [], [.un (), .un (), .un ()], 3⟩ = (match ms.find? fun m => decide (m.1 = c) with | some m => some (.rt (.s (.py (markD m))) ρ) | none => some (.nx ρ)) ∧ ρ.bs = 3
  | [], s2 => ⟨_, rfl, rfl⟩
  | m :: ms, s2 => by
    by_cases h : m.1 = c
    · exact ⟨⟨[some (.py all), some (.py (.int c)), some (.py (markD m))], [], [.un (), .un (), .un ()], 3⟩, by simp [loopD, gN, mark_turn 0 c m all none, h], rfl⟩
    · obtain ⟨ρ, h1, h2⟩ := mark_loop c all ms (some (.py (markD m)))
      exact ⟨ρ, by simp [loopD, gN, mark_turn 0 c m all none, h, h1], h2⟩
theorem mark_of_ok (ms : List Mark) (c : Int) : S_mark_of [.py (.tuple (ms.map markD)), .py (.int c)] [] = some (.vl (.s (.py (markOf ms c))) []) := by
  obtain ⟨ρ, h1, h2⟩ := mark_loop c (.tuple (ms.map markD)) ms none
  unfold S_mark_of b_mark_of markOf
  generalize h_mark_of_1 = body at *
  cases e : ms.find? fun m => decide (m.1 = c) with
  | none =>
    rw [e] at h1
    simp [runF, Fx.Hd.own, Fx.TL.er, Fx.erAll, Fx.TL.get, Fx.TL.put, Fx.gget, Fx.gput, Fx.TL.addrs, Fx.TL.data, Fx.dataAll, Fx.msk, Fx.mulOk, Fx.addF, Fx.subF, Fx.mulF, Fx.fdivF, Fx.modF, Fx.powF, Fx.ltF, Fx.leF, Fx.gtF, Fx.geF, Fx.eqD, Fx.eqF, Fx.neF, Fx.isF, Fx.isntF, Fx.idxF, Fx.lenF, Fx.kindF, Fx.kitF, Fx.keyF, Fx.ixS, Fx.ixK, Fx.vVar, Fx.vC, Fx.vAt, Fx.dat, Fx.vD, Fx.vS, Fx.vPy, Fx.d2, Fx.dB, Fx.vB, Fx.bV, Fx.child, Fx.kidAt, Fx.vIdx, Fx.vGet, Fx.vFld, Fx.vLen, Fx.kindS, Fx.vIsi, Fx.vIsi2, Fx.aNil, Fx.aCons, Fx.vTup, Fx.nLst, Fx.vFz, Fx.bAnd, Fx.bOr, Fx.bNot, Fx.vIf, Fx.oNo, Fx.oI, Fx.cutF, Fx.vSlc, Fx.nSlc, Fx.negF, Fx.dNeg, Fx.rLenN, Fx.rIsiN, Fx.rIsiN2, Fx.nDct0, Fx.nDdt0, Fx.lendF, Fx.backF, Fx.headLt, Fx.voidF, Fx.tidy, Fx.callF, Fx.makeF, Fx.fP, Fx.fN, Fx.fB, Fx.rootF, Fx.dropLastF, Fx.fZ, Fx.push, Fx.gNo, Fx.gCo, Fx.fCall, Fx.fMake, Fx.fMeth, Fx.fBin2, Fx.fCmp2, Fx.fAnd, Fx.fOr, Fx.fNot, Fx.fBo, Fx.fMv, Fx.fOn, Fx.sNx, Fx.sBk, Fx.sCt, Fx.sRN, Fx.sSq, Fx.sDr, Fx.sRt, Fx.sIf, Fx.gN, Fx.gT0, Fx.gTC, Fx.gTu, Fx.takeRoot, Fx.sAs, Fx.sAt, Fx.childF, Fx.kidF, Fx.belowF, Fx.putAt, Fx.sFl, Fx.sPu, Fx.sSL, Fx.topPt, Fx.popTm, Fx.pushPt, Fx.sAp, Fx.sEx, Fx.fPop, Fx.sDe, Fx.pyAll, Fx.sEt, Fx.sFo, Fx.sFu, Fx.rngF, Fx.sFr, Fx.shiftS, Fx.lentF, Fx.dCall, Fx.nCall, Fx.iL, Fx.iLn, Fx.iT, Fx.iR, Fx.wipeR, Fx.bYes, Fx.nLc, Fx.boolsF, Fx.allF, Fx.d1, Fx.maxF, Fx.intF, Fx.nCopy, Fx.strsF, Fx.joinF, Fx.sRaise, Fx.intsF, Fx.inF, Fx.sAug, Fx.nDcp, Fx.keyD, Fx.iIt, Fx.nLock, Fx.wNo, Fx.wCo, Fx.vCallR, Fx.vMethR, Fx.key1, Fx.isK1, Fx.fSort1, Fx.fTupOf, Fx.aStar, Fx.nDc, Fx.dTup, Fx.dLst, Fx.gathF, Fx.dispF, Fx.allPy, Fx.popN, Fx.fTup, Fx.fLst, Fx.fDct, Fx.vGet2, Fx.keysF, Fx.kTup, Fx.vGetT2, Fx.vGetT, Fx.sPuT, Fx.sAt2, msk_py, msk_no, msk_pt, List.isPrefixOf, List.cons_prefix_cons, List.nil_prefix, h1, h2]
  | some m =>
    rw [e] at h1
    simp [runF, Fx.Hd.own, Fx.TL.er, Fx.erAll, Fx.TL.get, Fx.TL.put, Fx.gget, Fx.gput, Fx.TL.addrs, Fx.TL.data, Fx.dataAll, Fx.msk, Fx.mulOk, Fx.addF, Fx.subF, Fx.mulF, Fx.fdivF, Fx.modF, Fx.powF, Fx.ltF, Fx.leF, Fx.gtF, Fx.geF, Fx.eqD, Fx.eqF, Fx.neF, Fx.isF, Fx.isntF, Fx.idxF, Fx.lenF, Fx.kindF, Fx.kitF, Fx.keyF, Fx.ixS, Fx.ixK, Fx.vVar, Fx.vC, Fx.vAt, Fx.dat, Fx.vD, Fx.vS, Fx.vPy, Fx.d2, Fx.dB, Fx.vB, Fx.bV, Fx.child, Fx.kidAt, Fx.vIdx, Fx.vGet, Fx.vFld, Fx.vLen, Fx.kindS, Fx.vIsi, Fx.vIsi2, Fx.aNil, Fx.aCons, Fx.vTup, Fx.nLst, Fx.vFz, Fx.bAnd, Fx.bOr, Fx.bNot, Fx.vIf, Fx.oNo, Fx.oI, Fx.cutF, Fx.vSlc, Fx.nSlc, Fx.negF, Fx.dNeg, Fx.rLenN, Fx.rIsiN, Fx.rIsiN2, Fx.nDct0, Fx.nDdt0, Fx.lendF, Fx.backF, Fx.headLt, Fx.voidF, Fx.tidy, Fx.callF, Fx.makeF, Fx.fP, Fx.fN, Fx.fB, Fx.rootF, Fx.dropLastF, Fx.fZ, Fx.push, Fx.gNo, Fx.gCo, Fx.fCall, Fx.fMake, Fx.fMeth, Fx.fBin2, Fx.fCmp2, Fx.fAnd, Fx.fOr, Fx.fNot, Fx.fBo, Fx.fMv, Fx.fOn, Fx.sNx, Fx.sBk, Fx.sCt, Fx.sRN, Fx.sSq, Fx.sDr, Fx.sRt, Fx.sIf, Fx.gN, Fx.gT0, Fx.gTC, Fx.gTu, Fx.takeRoot, Fx.sAs, Fx.sAt, Fx.childF, Fx.kidF, Fx.belowF, Fx.putAt, Fx.sFl, Fx.sPu, Fx.sSL, Fx.topPt, Fx.popTm, Fx.pushPt, Fx.sAp, Fx.sEx, Fx.fPop, Fx.sDe, Fx.pyAll, Fx.sEt, Fx.sFo, Fx.sFu, Fx.rngF, Fx.sFr, Fx.shiftS, Fx.lentF, Fx.dCall, Fx.nCall, Fx.iL, Fx.iLn, Fx.iT, Fx.iR, Fx.wipeR, Fx.bYes, Fx.nLc, Fx.boolsF, Fx.allF, Fx.d1, Fx.maxF, Fx.intF, Fx.nCopy, Fx.strsF, Fx.joinF, Fx.sRaise, Fx.intsF, Fx.inF, Fx.sAug, Fx.nDcp, Fx.keyD, Fx.iIt, Fx.nLock, Fx.wNo, Fx.wCo, Fx.vCallR, Fx.vMethR, Fx.key1, Fx.isK1, Fx.fSort1, Fx.fTupOf, Fx.aStar, Fx.nDc, Fx.dTup, Fx.dLst, Fx.gathF, Fx.dispF, Fx.allPy, Fx.popN, Fx.fTup, Fx.fLst, Fx.fDct, Fx.vGet2, Fx.keysF, Fx.kTup, Fx.vGetT2, Fx.vGetT, Fx.sPuT, Fx.sAt2, msk_py, msk_no, msk_pt, List.isPrefixOf, List.cons_prefix_cons, List.nil_prefix, h1, h2]
/-! ### a mark set -/
theorem pair_eq {ms ns : List Mark} (p : ms.Perm ns) (h1 : Mv.Rising ms) (h2 : Mv.Rising ns) : ms = ns :=
  p.eq_of_pairwise (fun a b _ _ x y => absurd x (by omega)) h1 h2
theorem marked_perm : ∀ {ms : List Mark} (c n t : Int), Mv.Rising ms → (Mv.marked ms c n t).Perm (ms.filter (fun m => decide (m.1 ≠ c)) ++ [(c, n, t)])
  | [], c, n, t, _ => by simp [Mv.marked]
  | m :: r, c, n, t, h => by
    obtain ⟨h1, h2⟩ := List.pairwise_cons.mp h
    have ih := marked_perm (ms := r) c n t h2
    have keep : ∀ (hc : ∀ a ∈ r, a.1 ≠ c), r.filter (fun m => decide (m.1 ≠ c)) = r := fun hc => List.filter_eq_self.mpr fun a ha => by simpa using hc a ha
    unfold Mv.marked
    split
    · rename_i e
      rw [List.filter_cons_of_neg (by simp [e]), keep fun a ha => by have := h1 a ha; omega]
      exact List.perm_append_comm (l₁ := [(c, n, t)])
    · rename_i e
      rw [List.filter_cons_of_pos (by simpa using e)]
      split
      · rename_i e2
        rw [keep fun a ha => by have := h1 a ha; omega]
        exact List.perm_append_comm (l₁ := [(c, n, t)]) (l₂ := m :: r)
      · exact List.Perm.cons _ ih
theorem sort_marks (ms : List Mark) (c n t : Int) (h : Mv.Rising ms) : sort1 ((ms.filter (fun m => decide (m.1 ≠ c)) ++ [(c, n, t)]).map markD) = (Mv.marked ms c n t).map markD := by
  unfold sort1
  have e := List.map_mergeSort (r := fun a b : Mark => decide (a.1 ≤ b.1)) (s := fun a b => decide (key1 a ≤ key1 b)) (f := markD) (l := ms.filter (fun m => decide (m.1 ≠ c)) ++ [(c, n, t)]) fun a _ b _ => rfl
  rw [← e]
  congr 1
  have hp := (List.mergeSort_perm (ms.filter (fun m => decide (m.1 ≠ c)) ++ [(c, n, t)]) fun a b : Mark => decide (a.1 ≤ b.1)).trans (marked_perm c n t h).symm
  have hs := List.pairwise_mergeSort (le := fun a b : Mark => decide (a.1 ≤ b.1)) (fun a b c h1 h2 => by simp at *; omega) (fun a b => by simp; omega) (ms.filter (fun m => decide (m.1 ≠ c)) ++ [(c, n, t)])
  have hr : Mv.Rising (Mv.marked ms c n t) := h.marked
  have nd : ((ms.filter (fun m => decide (m.1 ≠ c)) ++ [(c, n, t)]).mergeSort fun a b => decide (a.1 ≤ b.1)).Pairwise fun a b => a.1 ≠ b.1 := by
    refine (hp.pairwise_iff (fun h z => h z.symm)).mpr (hr.imp fun h => by omega)
  refine pair_eq hp ?_ hr
  exact (hs.and nd).imp fun h => by have := h.1; have := h.2; simp at *; omega
theorem with_loop (c n t : Int) (all : PyData) (ms : List Mark) (s : Option Sv) : Fx.collect (gN 3) (dB neF (vD (vIdx (vVar 3) (vPy (vC (.int 0))))) (vD (vIdx (vVar 1) (vPy (vC (.int 0)))))) (vVar 3) ⟨[some (.py all), some (.py (markD (c, n, t))), s, none], [], [.un (), .un (), .un (), .un ()], 4⟩ (ms.map markD) = some ((ms.filter fun m => decide (m.1 ≠ c)).map markD) := by
  induction ms with
  | nil => rfl
  | cons m ms ih =>
    simp only [List.map_cons, Fx.collect]
    rw [ih]
    by_cases h : m.1 = c
    · simp [Fx.Hd.own, Fx.TL.er, Fx.erAll, Fx.TL.get, Fx.TL.put, Fx.gget, Fx.gput, Fx.TL.addrs, Fx.TL.data, Fx.dataAll, Fx.msk, Fx.mulOk, Fx.addF, Fx.subF, Fx.mulF, Fx.fdivF, Fx.modF, Fx.powF, Fx.ltF, Fx.leF, Fx.gtF, Fx.geF, Fx.eqD, Fx.eqF, Fx.neF, Fx.isF, Fx.isntF, Fx.idxF, Fx.lenF, Fx.kindF, Fx.kitF, Fx.keyF, Fx.ixS, Fx.ixK, Fx.vVar, Fx.vC, Fx.vAt, Fx.dat, Fx.vD, Fx.vS, Fx.vPy, Fx.d2, Fx.dB, Fx.vB, Fx.bV, Fx.child, Fx.kidAt, Fx.vIdx, Fx.vGet, Fx.vFld, Fx.vLen, Fx.kindS, Fx.vIsi, Fx.vIsi2, Fx.aNil, Fx.aCons, Fx.vTup, Fx.nLst, Fx.vFz, Fx.bAnd, Fx.bOr, Fx.bNot, Fx.vIf, Fx.oNo, Fx.oI, Fx.cutF, Fx.vSlc, Fx.nSlc, Fx.negF, Fx.dNeg, Fx.rLenN, Fx.rIsiN, Fx.rIsiN2, Fx.nDct0, Fx.nDdt0, Fx.lendF, Fx.backF, Fx.headLt, Fx.voidF, Fx.tidy, Fx.callF, Fx.makeF, Fx.fP, Fx.fN, Fx.fB, Fx.rootF, Fx.dropLastF, Fx.fZ, Fx.push, Fx.gNo, Fx.gCo, Fx.fCall, Fx.fMake, Fx.fMeth, Fx.fBin2, Fx.fCmp2, Fx.fAnd, Fx.fOr, Fx.fNot, Fx.fBo, Fx.fMv, Fx.fOn, Fx.sNx, Fx.sBk, Fx.sCt, Fx.sRN, Fx.sSq, Fx.sDr, Fx.sRt, Fx.sIf, Fx.gN, Fx.gT0, Fx.gTC, Fx.gTu, Fx.takeRoot, Fx.sAs, Fx.sAt, Fx.childF, Fx.kidF, Fx.belowF, Fx.putAt, Fx.sFl, Fx.sPu, Fx.sSL, Fx.topPt, Fx.popTm, Fx.pushPt, Fx.sAp, Fx.sEx, Fx.fPop, Fx.sDe, Fx.pyAll, Fx.sEt, Fx.sFo, Fx.sFu, Fx.rngF, Fx.sFr, Fx.shiftS, Fx.lentF, Fx.dCall, Fx.nCall, Fx.iL, Fx.iLn, Fx.iT, Fx.iR, Fx.wipeR, Fx.bYes, Fx.nLc, Fx.boolsF, Fx.allF, Fx.d1, Fx.maxF, Fx.intF, Fx.nCopy, Fx.strsF, Fx.joinF, Fx.sRaise, Fx.intsF, Fx.inF, Fx.sAug, Fx.nDcp, Fx.keyD, Fx.iIt, Fx.nLock, Fx.wNo, Fx.wCo, Fx.vCallR, Fx.vMethR, Fx.key1, Fx.isK1, Fx.fSort1, Fx.fTupOf, Fx.aStar, Fx.nDc, Fx.dTup, Fx.dLst, Fx.gathF, Fx.dispF, Fx.allPy, Fx.popN, Fx.fTup, Fx.fLst, Fx.fDct, Fx.vGet2, Fx.keysF, Fx.kTup, Fx.vGetT2, Fx.vGetT, Fx.sPuT, Fx.sAt2, msk_py, msk_no, msk_pt, List.isPrefixOf, List.cons_prefix_cons, List.nil_prefix, at0, markD, h]
    · simp [Fx.Hd.own, Fx.TL.er, Fx.erAll, Fx.TL.get, Fx.TL.put, Fx.gget, Fx.gput, Fx.TL.addrs, Fx.TL.data, Fx.dataAll, Fx.msk, Fx.mulOk, Fx.addF, Fx.subF, Fx.mulF, Fx.fdivF, Fx.modF, Fx.powF, Fx.ltF, Fx.leF, Fx.gtF, Fx.geF, Fx.eqD, Fx.eqF, Fx.neF, Fx.isF, Fx.isntF, Fx.idxF, Fx.lenF, Fx.kindF, Fx.kitF, Fx.keyF, Fx.ixS, Fx.ixK, Fx.vVar, Fx.vC, Fx.vAt, Fx.dat, Fx.vD, Fx.vS, Fx.vPy, Fx.d2, Fx.dB, Fx.vB, Fx.bV, Fx.child, Fx.kidAt, Fx.vIdx, Fx.vGet, Fx.vFld, Fx.vLen, Fx.kindS, Fx.vIsi, Fx.vIsi2, Fx.aNil, Fx.aCons, Fx.vTup, Fx.nLst, Fx.vFz, Fx.bAnd, Fx.bOr, Fx.bNot, Fx.vIf, Fx.oNo, Fx.oI, Fx.cutF, Fx.vSlc, Fx.nSlc, Fx.negF, Fx.dNeg, Fx.rLenN, Fx.rIsiN, Fx.rIsiN2, Fx.nDct0, Fx.nDdt0, Fx.lendF, Fx.backF, Fx.headLt, Fx.voidF, Fx.tidy, Fx.callF, Fx.makeF, Fx.fP, Fx.fN, Fx.fB, Fx.rootF, Fx.dropLastF, Fx.fZ, Fx.push, Fx.gNo, Fx.gCo, Fx.fCall, Fx.fMake, Fx.fMeth, Fx.fBin2, Fx.fCmp2, Fx.fAnd, Fx.fOr, Fx.fNot, Fx.fBo, Fx.fMv, Fx.fOn, Fx.sNx, Fx.sBk, Fx.sCt, Fx.sRN, Fx.sSq, Fx.sDr, Fx.sRt, Fx.sIf, Fx.gN, Fx.gT0, Fx.gTC, Fx.gTu, Fx.takeRoot, Fx.sAs, Fx.sAt, Fx.childF, Fx.kidF, Fx.belowF, Fx.putAt, Fx.sFl, Fx.sPu, Fx.sSL, Fx.topPt, Fx.popTm, Fx.pushPt, Fx.sAp, Fx.sEx, Fx.fPop, Fx.sDe, Fx.pyAll, Fx.sEt, Fx.sFo, Fx.sFu, Fx.rngF, Fx.sFr, Fx.shiftS, Fx.lentF, Fx.dCall, Fx.nCall, Fx.iL, Fx.iLn, Fx.iT, Fx.iR, Fx.wipeR, Fx.bYes, Fx.nLc, Fx.boolsF, Fx.allF, Fx.d1, Fx.maxF, Fx.intF, Fx.nCopy, Fx.strsF, Fx.joinF, Fx.sRaise, Fx.intsF, Fx.inF, Fx.sAug, Fx.nDcp, Fx.keyD, Fx.iIt, Fx.nLock, Fx.wNo, Fx.wCo, Fx.vCallR, Fx.vMethR, Fx.key1, Fx.isK1, Fx.fSort1, Fx.fTupOf, Fx.aStar, Fx.nDc, Fx.dTup, Fx.dLst, Fx.gathF, Fx.dispF, Fx.allPy, Fx.popN, Fx.fTup, Fx.fLst, Fx.fDct, Fx.vGet2, Fx.keysF, Fx.kTup, Fx.vGetT2, Fx.vGetT, Fx.sPuT, Fx.sAt2, msk_py, msk_no, msk_pt, List.isPrefixOf, List.cons_prefix_cons, List.nil_prefix, at0, markD, h]
theorem with_mark_ok (ms : List Mark) (c n t : Int) (h : Mv.Rising ms) (hl : ms.length < 900) : S_with_mark [.py (.tuple (ms.map markD)), .py (markD (c, n, t))] [] = some (.vl (.s (.py (.tuple ((Mv.marked ms c n t).map markD)))) []) := by
  have e1 : h_with_mark_1 ⟨[some (.py (.tuple (ms.map markD))), some (.py (markD (c, n, t))), none, none], [], [.un (), .un (), .un (), .un ()], 4⟩ = some (.lst, (ms.filter fun m => decide (m.1 ≠ c)).map markD) := by
    unfold h_with_mark_1
    exact nLc_some (ds := ms.map markD) (by simp [Fx.Hd.own, Fx.TL.er, Fx.erAll, Fx.TL.get, Fx.TL.put, Fx.gget, Fx.gput, Fx.TL.addrs, Fx.TL.data, Fx.dataAll, Fx.msk, Fx.mulOk, Fx.addF, Fx.subF, Fx.mulF, Fx.fdivF, Fx.modF, Fx.powF, Fx.ltF, Fx.leF, Fx.gtF, Fx.geF, Fx.eqD, Fx.eqF, Fx.neF, Fx.isF, Fx.isntF, Fx.idxF, Fx.lenF, Fx.kindF, Fx.kitF, Fx.keyF, Fx.ixS, Fx.ixK, Fx.vVar, Fx.vC, Fx.vAt, Fx.dat, Fx.vD, Fx.vS, Fx.vPy, Fx.d2, Fx.dB, Fx.vB, Fx.bV, Fx.child, Fx.kidAt, Fx.vIdx, Fx.vGet, Fx.vFld, Fx.vLen, Fx.kindS, Fx.vIsi, Fx.vIsi2, Fx.aNil, Fx.aCons, Fx.vTup, Fx.nLst, Fx.vFz, Fx.bAnd, Fx.bOr, Fx.bNot, Fx.vIf, Fx.oNo, Fx.oI, Fx.cutF, Fx.vSlc, Fx.nSlc, Fx.negF, Fx.dNeg, Fx.rLenN, Fx.rIsiN, Fx.rIsiN2, Fx.nDct0, Fx.nDdt0, Fx.lendF, Fx.backF, Fx.headLt, Fx.voidF, Fx.tidy, Fx.callF, Fx.makeF, Fx.fP, Fx.fN, Fx.fB, Fx.rootF, Fx.dropLastF, Fx.fZ, Fx.push, Fx.gNo, Fx.gCo, Fx.fCall, Fx.fMake, Fx.fMeth, Fx.fBin2, Fx.fCmp2, Fx.fAnd, Fx.fOr, Fx.fNot, Fx.fBo, Fx.fMv, Fx.fOn, Fx.sNx, Fx.sBk, Fx.sCt, Fx.sRN, Fx.sSq, Fx.sDr, Fx.sRt, Fx.sIf, Fx.gN, Fx.gT0, Fx.gTC, Fx.gTu, Fx.takeRoot, Fx.sAs, Fx.sAt, Fx.childF, Fx.kidF, Fx.belowF, Fx.putAt, Fx.sFl, Fx.sPu, Fx.sSL, Fx.topPt, Fx.popTm, Fx.pushPt, Fx.sAp, Fx.sEx, Fx.fPop, Fx.sDe, Fx.pyAll, Fx.sEt, Fx.sFo, Fx.sFu, Fx.rngF, Fx.sFr, Fx.shiftS, Fx.lentF, Fx.dCall, Fx.nCall, Fx.iL, Fx.iLn, Fx.iT, Fx.iR, Fx.wipeR, Fx.bYes, Fx.nLc, Fx.boolsF, Fx.allF, Fx.d1, Fx.maxF, Fx.intF, Fx.nCopy, Fx.strsF, Fx.joinF, Fx.sRaise, Fx.intsF, Fx.inF, Fx.sAug, Fx.nDcp, Fx.keyD, Fx.iIt, Fx.nLock, Fx.wNo, Fx.wCo, Fx.vCallR, Fx.vMethR, Fx.key1, Fx.isK1, Fx.fSort1, Fx.fTupOf, Fx.aStar, Fx.nDc, Fx.dTup, Fx.dLst, Fx.gathF, Fx.dispF, Fx.allPy, Fx.popN, Fx.fTup, Fx.fLst, Fx.fDct, Fx.vGet2, Fx.keysF, Fx.kTup, Fx.vGetT2, Fx.vGetT, Fx.sPuT, Fx.sAt2, msk_py, msk_no, msk_pt, List.isPrefixOf, List.cons_prefix_cons, List.nil_prefix]) (by simp; omega) (with_loop c n t _ ms none)
  have e2 := sort_marks ms c n t h
  rw [List.map_append, List.map_cons, List.map_nil] at e2
  have e3 : ∀ x ∈ ((ms.filter fun m => decide (m.1 ≠ c)).map markD), isK1 x = true := by
    intro x hx
    obtain ⟨m, _, rfl⟩ := List.mem_map.mp hx
    rfl
  have e4 : (ms.filter fun m => decide (m.1 ≠ c)).length ≤ ms.length := List.length_filter_le _ _
  have e5 : ((ms.filter fun m => decide (m.1 ≠ c)).map markD).length ≤ 999 := by rw [List.length_map]; omega
  have e6 : isK1 (markD (c, n, t)) = true := rfl
  unfold S_with_mark b_with_mark
  generalize h_with_mark_1 = body at *
  generalize (ms.filter fun m => decide (m.1 ≠ c)).map markD = os at *
  generalize markD (c, n, t) = mk at *
  have e7 : os.length + 1 ≤ 100000 := by omega
  have e8 : ∀ x, x ∈ os ∨ x = mk → isK1 x = true := fun x hx => hx.elim (e3 x) fun z => z ▸ e6
  rw [← e2]
  generalize hy : sort1 (os ++ [mk]) = ys at *
  simp [runF, Fx.Hd.own, Fx.TL.er, Fx.erAll, Fx.TL.get, Fx.TL.put, Fx.gget, Fx.gput, Fx.TL.addrs, Fx.TL.data, Fx.dataAll, Fx.msk, Fx.mulOk, Fx.addF, Fx.subF, Fx.mulF, Fx.fdivF, Fx.modF, Fx.powF, Fx.ltF, Fx.leF, Fx.gtF, Fx.geF, Fx.eqD, Fx.eqF, Fx.neF, Fx.isF, Fx.isntF, Fx.idxF, Fx.lenF, Fx.kindF, Fx.kitF, Fx.keyF, Fx.ixS, Fx.ixK, Fx.vVar, Fx.vC, Fx.vAt, Fx.dat, Fx.vD, Fx.vS, Fx.vPy, Fx.d2, Fx.dB, Fx.vB, Fx.bV, Fx.child, Fx.kidAt, Fx.vIdx, Fx.vGet, Fx.vFld, Fx.vLen, Fx.kindS, Fx.vIsi, Fx.vIsi2, Fx.aNil, Fx.aCons, Fx.vTup, Fx.nLst, Fx.vFz, Fx.bAnd, Fx.bOr, Fx.bNot, Fx.vIf, Fx.oNo, Fx.oI, Fx.cutF, Fx.vSlc, Fx.nSlc, Fx.negF, Fx.dNeg, Fx.rLenN, Fx.rIsiN, Fx.rIsiN2, Fx.nDct0, Fx.nDdt0, Fx.lendF, Fx.backF, Fx.headLt, Fx.voidF, Fx.tidy, Fx.callF, Fx.makeF, Fx.fP, Fx.fN, Fx.fB, Fx.rootF, Fx.dropLastF, Fx.fZ, Fx.push, Fx.gNo, Fx.gCo, Fx.fCall, Fx.fMake, Fx.fMeth, Fx.fBin2, Fx.fCmp2, Fx.fAnd, Fx.fOr, Fx.fNot, Fx.fBo, Fx.fMv, Fx.fOn, Fx.sNx, Fx.sBk, Fx.sCt, Fx.sRN, Fx.sSq, Fx.sDr, Fx.sRt, Fx.sIf, Fx.gN, Fx.gT0, Fx.gTC, Fx.gTu, Fx.takeRoot, Fx.sAs, Fx.sAt, Fx.childF, Fx.kidF, Fx.belowF, Fx.putAt, Fx.sFl, Fx.sPu, Fx.sSL, Fx.topPt, Fx.popTm, Fx.pushPt, Fx.sAp, Fx.sEx, Fx.fPop, Fx.sDe, Fx.pyAll, Fx.sEt, Fx.sFo, Fx.sFu, Fx.rngF, Fx.sFr, Fx.shiftS, Fx.lentF, Fx.dCall, Fx.nCall, Fx.iL, Fx.iLn, Fx.iT, Fx.iR, Fx.wipeR, Fx.bYes, Fx.nLc, Fx.boolsF, Fx.allF, Fx.d1, Fx.maxF, Fx.intF, Fx.nCopy, Fx.strsF, Fx.joinF, Fx.sRaise, Fx.intsF, Fx.inF, Fx.sAug, Fx.nDcp, Fx.keyD, Fx.iIt, Fx.nLock, Fx.wNo, Fx.wCo, Fx.vCallR, Fx.vMethR, Fx.key1, Fx.fSort1, Fx.fTupOf, Fx.aStar, Fx.nDc, Fx.dTup, Fx.dLst, Fx.gathF, Fx.dispF, Fx.allPy, Fx.popN, Fx.fTup, Fx.fLst, Fx.fDct, Fx.vGet2, Fx.keysF, Fx.kTup, Fx.vGetT2, Fx.vGetT, Fx.sPuT, Fx.sAt2, msk_py, msk_no, msk_pt, List.isPrefixOf, List.cons_prefix_cons, List.nil_prefix, e1, e5, e6, e7, pyAll_py, hy]
  rw [if_pos e3]
  simp [pyAll_py]
/-! ### the house -/
theorem gget_one (t : T) (r : List Nat) : gget [t] (0 :: r) = t.get r := rfl
theorem house_body (g : Bool) (ks : List Str) (hn : ks.Nodup) (hl : ks.length ≤ 100000) (s2 : Option Sv) (tr : T) (more : List T) (bs : Nat) (hs : vD (vVar 2) ⟨[some (.pt [4]), some (.py (.int (hI g))), s2, none], [], .un () :: .un () :: .un () :: .un () :: tr :: more, bs⟩ = some (.list (ks.map .str))) : h_House___init___1 ⟨[some (.pt [4]), some (.py (.int (hI g))), s2, none], [], .un () :: .un () :: .un () :: .un () :: tr :: more, bs⟩ = some (.dct (ks.map .inr), ks.map fun _ => rowD ((Mv.House.new g : Mv.House Str).known "")) := by
  have e0 := first_ok g
  have ec : ∀ (rest : List Str) (ak : List Str), (ak ++ rest).Nodup → collectD (gN 3) (vD (vVar 3)) (vS (dCall S_known_at_first (aCons (vD (vVar 1)) aNil))) ⟨[some (.pt [4]), some (.py (.int (hI g))), s2, none], [], .un () :: .un () :: .un () :: .un () :: tr :: more, bs⟩ (rest.map .str) (ak.map .inr) (ak.map fun _ => rowD ((Mv.House.new g : Mv.House Str).known "")) = some ((ak ++ rest).map .inr, (ak ++ rest).map fun _ => rowD ((Mv.House.new g : Mv.House Str).known "")) := by
    intro rest
    induction rest with
    | nil => intro ak _; simp [collectD]
    | cons k rest ih =>
      intro ak n
      have nk : ixK (ak.map (Sum.inr : Str → Key)) (.inr k) = none := by
        cases e : ixK (ak.map (Sum.inr : Str → Key)) (.inr k) with
        | none => rfl
        | some i =>
          have := ixK_mem e
          rw [List.getElem?_map] at this
          cases e2 : ak[i]? with
          | none => rw [e2] at this; cases this
          | some j =>
            rw [e2] at this
            have : j = k := by simpa using this
            subst this
            exact absurd rfl ((List.nodup_append.mp n).2.2 j (List.mem_of_getElem? e2) j (by simp))
      have ih := ih (ak ++ [k]) (by simpa using n)
      simp only [List.map_cons, collectD]
      simp only [List.map_append, List.map_cons, List.map_nil] at ih
      simp [Fx.Hd.own, Fx.TL.er, Fx.erAll, Fx.TL.get, Fx.TL.put, Fx.gget, Fx.gput, Fx.TL.addrs, Fx.TL.data, Fx.dataAll, Fx.msk, Fx.mulOk, Fx.addF, Fx.subF, Fx.mulF, Fx.fdivF, Fx.modF, Fx.powF, Fx.ltF, Fx.leF, Fx.gtF, Fx.geF, Fx.eqD, Fx.eqF, Fx.neF, Fx.isF, Fx.isntF, Fx.idxF, Fx.lenF, Fx.kindF, Fx.kitF, Fx.keyF, Fx.ixS, Fx.ixK, Fx.vVar, Fx.vC, Fx.vAt, Fx.dat, Fx.vD, Fx.vS, Fx.vPy, Fx.d2, Fx.dB, Fx.vB, Fx.bV, Fx.child, Fx.kidAt, Fx.vIdx, Fx.vGet, Fx.vFld, Fx.vLen, Fx.kindS, Fx.vIsi, Fx.vIsi2, Fx.aNil, Fx.aCons, Fx.vTup, Fx.nLst, Fx.vFz, Fx.bAnd, Fx.bOr, Fx.bNot, Fx.vIf, Fx.oNo, Fx.oI, Fx.cutF, Fx.vSlc, Fx.nSlc, Fx.negF, Fx.dNeg, Fx.rLenN, Fx.rIsiN, Fx.rIsiN2, Fx.nDct0, Fx.nDdt0, Fx.lendF, Fx.backF, Fx.headLt, Fx.voidF, Fx.tidy, Fx.callF, Fx.makeF, Fx.fP, Fx.fN, Fx.fB, Fx.rootF, Fx.dropLastF, Fx.fZ, Fx.push, Fx.gNo, Fx.gCo, Fx.fCall, Fx.fMake, Fx.fMeth, Fx.fBin2, Fx.fCmp2, Fx.fAnd, Fx.fOr, Fx.fNot, Fx.fBo, Fx.fMv, Fx.fOn, Fx.sNx, Fx.sBk, Fx.sCt, Fx.sRN, Fx.sSq, Fx.sDr, Fx.sRt, Fx.sIf, Fx.gN, Fx.gT0, Fx.gTC, Fx.gTu, Fx.takeRoot, Fx.sAs, Fx.sAt, Fx.childF, Fx.kidF, Fx.belowF, Fx.putAt, Fx.sFl, Fx.sPu, Fx.sSL, Fx.topPt, Fx.popTm, Fx.pushPt, Fx.sAp, Fx.sEx, Fx.fPop, Fx.sDe, Fx.pyAll, Fx.sEt, Fx.sFo, Fx.sFu, Fx.rngF, Fx.sFr, Fx.shiftS, Fx.lentF, Fx.dCall, Fx.nCall, Fx.iL, Fx.iLn, Fx.iT, Fx.iR, Fx.wipeR, Fx.bYes, Fx.nLc, Fx.boolsF, Fx.allF, Fx.d1, Fx.maxF, Fx.intF, Fx.nCopy, Fx.strsF, Fx.joinF, Fx.sRaise, Fx.intsF, Fx.inF, Fx.sAug, Fx.nDcp, Fx.keyD, Fx.iIt, Fx.nLock, Fx.wNo, Fx.wCo, Fx.vCallR, Fx.vMethR, Fx.key1, Fx.isK1, Fx.fSort1, Fx.fTupOf, Fx.aStar, Fx.nDc, Fx.dTup, Fx.dLst, Fx.gathF, Fx.dispF, Fx.allPy, Fx.popN, Fx.fTup, Fx.fLst, Fx.fDct, Fx.vGet2, Fx.keysF, Fx.kTup, Fx.vGetT2, Fx.vGetT, Fx.sPuT, Fx.sAt2, msk_py, msk_no, msk_pt, List.isPrefixOf, List.cons_prefix_cons, List.nil_prefix, nk, e0, noList_row, ih]
  have ec := ec ks [] (by simpa using hn)
  simp only [List.nil_append, List.map_nil] at ec
  have eN : noLists (ks.map PyData.str) = true := noLists_map (fun _ => rfl) ks
  unfold h_House___init___1 nDc iLn
  rw [hs]
  simp only [eN, if_true, List.length_map, hl]
  have ew : wipeR ⟨[some (.pt [4]), some (.py (.int (hI g))), s2, none], [], .un () :: .un () :: .un () :: .un () :: tr :: more, bs⟩ [3] = ⟨[some (.pt [4]), some (.py (.int (hI g))), s2, none], [], .un () :: .un () :: .un () :: .un () :: tr :: more, bs⟩ := rfl
  rw [ew, ec]
theorem house_init (g : Bool) (ks : List Str) (hn : ks.Nodup) (hl : ks.length ≤ 100000) : S_House___init__ [.pt [0], .py (.int (hI g)), .py (.list (ks.map .str))] [.nd () (.ins "House" []) []] = some (.vl (.s (.py .none)) [houseT (hI g) ks (Mv.House.new g)]) := by
  have e1 := fun tr => house_body g ks hn hl (some (.py (.list (ks.map .str)))) tr [] 5 rfl
  have ek : ∀ k, (Mv.House.new g : Mv.House Str).known k = (Mv.House.new g : Mv.House Str).known "" := fun k => rfl
  have ew : ∀ k, (Mv.House.new g : Mv.House Str).written k = (Mv.House.new g : Mv.House Str).known "" := fun k => rfl
  have el : (Mv.House.new g : Mv.House Str).laid = [] := rfl
  have ef : (Mv.House.new g : Mv.House Str).fresh = [] := rfl
  unfold S_House___init__ b_House___init__ houseT houseC
  generalize h_House___init___1 = body at *
  rw [el, ef]
  simp only [ek, ew]
  generalize (Mv.House.new g : Mv.House Str).known "" = r0 at *
  have ep : ∀ l : List Str, pyAll (l.map fun _ => (TL.py (rowD r0) : T)) = some (l.map fun _ => rowD r0) := fun l => by
    have := pyAll_py (l.map fun _ => rowD r0)
    rw [List.map_map] at this
    exact this
  simp [runF, Fx.Hd.own, Fx.TL.er, Fx.erAll, Fx.TL.get, Fx.TL.put, Fx.gget, Fx.gput, Fx.TL.addrs, Fx.TL.data, Fx.dataAll, Fx.msk, Fx.mulOk, Fx.addF, Fx.subF, Fx.mulF, Fx.fdivF, Fx.modF, Fx.powF, Fx.ltF, Fx.leF, Fx.gtF, Fx.geF, Fx.eqD, Fx.eqF, Fx.neF, Fx.isF, Fx.isntF, Fx.idxF, Fx.lenF, Fx.kindF, Fx.kitF, Fx.keyF, Fx.ixS, Fx.ixK, Fx.vVar, Fx.vC, Fx.vAt, Fx.dat, Fx.vD, Fx.vS, Fx.vPy, Fx.d2, Fx.dB, Fx.vB, Fx.bV, Fx.child, Fx.kidAt, Fx.vIdx, Fx.vGet, Fx.vFld, Fx.vLen, Fx.kindS, Fx.vIsi, Fx.vIsi2, Fx.aNil, Fx.aCons, Fx.vTup, Fx.nLst, Fx.vFz, Fx.bAnd, Fx.bOr, Fx.bNot, Fx.vIf, Fx.oNo, Fx.oI, Fx.cutF, Fx.vSlc, Fx.nSlc, Fx.negF, Fx.dNeg, Fx.rLenN, Fx.rIsiN, Fx.rIsiN2, Fx.nDct0, Fx.nDdt0, Fx.lendF, Fx.backF, Fx.headLt, Fx.voidF, Fx.tidy, Fx.callF, Fx.makeF, Fx.fP, Fx.fN, Fx.fB, Fx.rootF, Fx.dropLastF, Fx.fZ, Fx.push, Fx.gNo, Fx.gCo, Fx.fCall, Fx.fMake, Fx.fMeth, Fx.fBin2, Fx.fCmp2, Fx.fAnd, Fx.fOr, Fx.fNot, Fx.fBo, Fx.fMv, Fx.fOn, Fx.sNx, Fx.sBk, Fx.sCt, Fx.sRN, Fx.sSq, Fx.sDr, Fx.sRt, Fx.sIf, Fx.gN, Fx.gT0, Fx.gTC, Fx.gTu, Fx.takeRoot, Fx.sAs, Fx.sAt, Fx.childF, Fx.kidF, Fx.belowF, Fx.putAt, Fx.sFl, Fx.sPu, Fx.sSL, Fx.topPt, Fx.popTm, Fx.pushPt, Fx.sAp, Fx.sEx, Fx.fPop, Fx.sDe, Fx.pyAll, Fx.sEt, Fx.sFo, Fx.sFu, Fx.rngF, Fx.sFr, Fx.shiftS, Fx.lentF, Fx.dCall, Fx.nCall, Fx.iL, Fx.iLn, Fx.iT, Fx.iR, Fx.wipeR, Fx.bYes, Fx.nLc, Fx.boolsF, Fx.allF, Fx.d1, Fx.maxF, Fx.intF, Fx.nCopy, Fx.strsF, Fx.joinF, Fx.sRaise, Fx.intsF, Fx.inF, Fx.sAug, Fx.nDcp, Fx.keyD, Fx.iIt, Fx.nLock, Fx.wNo, Fx.wCo, Fx.vCallR, Fx.vMethR, Fx.key1, Fx.isK1, Fx.fSort1, Fx.fTupOf, Fx.aStar, Fx.nDc, Fx.dTup, Fx.dLst, Fx.gathF, Fx.dispF, Fx.allPy, Fx.popN, Fx.fTup, Fx.fLst, Fx.fDct, Fx.vGet2, Fx.keysF, Fx.kTup, Fx.vGetT2, Fx.vGetT, Fx.sPuT, Fx.sAt2, msk_py, msk_no, msk_pt, List.isPrefixOf, List.cons_prefix_cons, List.nil_prefix, e1, ofString_inj, ep, List.map_map, Function.comp_def]
end Mo


namespace Mo
open PySem L2 Fx
open Mv (Mark Row LRow Letter)
theorem get_appT : ∀ (π r : List Nat) (c u : T), c.get π = some u → c.get (π ++ r) = u.get r
  | [], r, c, u, e => by
    have e : some c = some u := by cases c <;> exact e
    cases e; rfl
  | i :: s, r, .un b, u, e => by simp [TL.get] at e
  | i :: s, r, .py b, u, e => by simp [TL.get] at e
  | i :: s, r, .nd p hd cs, u, e => by
    simp only [TL.get, List.cons_append] at e ⊢
    cases ei : cs[i]? with
    | none => rw [ei] at e; cases e
    | some c => rw [ei] at e; exact get_appT s r c u e
theorem gget_appT {g : List T} {π r : List Nat} {u : T} (e : gget g π = some u) : gget g (π ++ r) = u.get r := by
  cases π with
  | nil => simp [gget] at e
  | cons i s =>
    simp only [gget, List.cons_append] at e ⊢
    cases ei : g[i]? with
    | none => rw [ei] at e; cases e
    | some c => rw [ei] at e; exact get_appT s r c u e
theorem row_at {ks : List Str} {k : Str} {i : Nat} (f : Str → Row) (h : ks[i]? = some k) : (ks.map fun k => (TL.py (rowD (f k)) : T))[i]? = some (.py (rowD (f k))) := by
  rw [List.getElem?_map, h]; rfl
theorem stS_here (s : Mv.St) : (stS s = Str.ofString "here") ↔ s = .here := by
  cases s <;> simp [stS, ofString_inj]
theorem stS_owed (s : Mv.St) : (stS s = Str.ofString "owed") ↔ s = .owed := by
  cases s <;> simp [stS, ofString_inj]
/-- has, wherever the house stands -/
theorem has_ok (g : List T) (i : Nat) (r : List Nat) (m : Int) (ks : List Str) (H : Mv.House Str) (k : Str) (hg : gget g (i :: r) = some (houseT m ks H)) (hk : k ∈ ks) : S_House_has [.pt (i :: r), .py (.str k)] g = some (.bool (decide ((H.known k).st = .here))) := by
  obtain ⟨j, h1, h2⟩ := ix_key hk
  have h3 := row_at H.known h2
  have e : gget (.un () :: .un () :: g) ((2 + i) :: r) = some (houseT m ks H) := by
    rw [← hg]; simp only [gget]; rw [show 2 + i = i + 2 by omega]; rfl
  unfold S_House_has b_House_has runR
  simp only [List.length_cons, List.length_nil, if_true, List.map_cons, List.map_nil, shiftS, Nat.sub_self, List.replicate, List.append_nil, List.nil_append, List.cons_append]
  have e2 : gget (.un () :: .un () :: g) ((2 + i) :: r) = some (houseT m ks H) := e
  generalize (TL.un () :: TL.un () :: g : List T) = g2 at *
  generalize (2 + i) :: r = π at *
  unfold houseT houseC at e2
  have ec : ∀ l : List T, gget g2 (π ++ [1]) = some (.nd () (.dct (ks.map .inr)) (ks.map fun k => .py (rowD (H.known k)))) := fun _ => by
    rw [gget_appT e2]; rfl
  simp [Fx.Hd.own, Fx.TL.er, Fx.erAll, Fx.TL.get, Fx.TL.put, Fx.gput, Fx.TL.addrs, Fx.TL.data, Fx.dataAll, Fx.msk, Fx.mulOk, Fx.addF, Fx.subF, Fx.mulF, Fx.fdivF, Fx.modF, Fx.powF, Fx.ltF, Fx.leF, Fx.gtF, Fx.geF, Fx.eqD, Fx.eqF, Fx.neF, Fx.isF, Fx.isntF, Fx.idxF, Fx.lenF, Fx.kindF, Fx.kitF, Fx.keyF, Fx.ixS, Fx.ixK, Fx.vVar, Fx.vC, Fx.vAt, Fx.dat, Fx.vD, Fx.vS, Fx.vPy, Fx.d2, Fx.dB, Fx.vB, Fx.bV, Fx.child, Fx.kidAt, Fx.vIdx, Fx.vGet, Fx.vFld, Fx.vLen, Fx.kindS, Fx.vIsi, Fx.vIsi2, Fx.aNil, Fx.aCons, Fx.vTup, Fx.nLst, Fx.vFz, Fx.bAnd, Fx.bOr, Fx.bNot, Fx.vIf, Fx.oNo, Fx.oI, Fx.cutF, Fx.vSlc, Fx.nSlc, Fx.negF, Fx.dNeg, Fx.rLenN, Fx.rIsiN, Fx.rIsiN2, Fx.nDct0, Fx.nDdt0, Fx.lendF, Fx.backF, Fx.headLt, Fx.voidF, Fx.tidy, Fx.callF, Fx.makeF, Fx.fP, Fx.fN, Fx.fB, Fx.rootF, Fx.dropLastF, Fx.fZ, Fx.push, Fx.gNo, Fx.gCo, Fx.fCall, Fx.fMake, Fx.fMeth, Fx.fBin2, Fx.fCmp2, Fx.fAnd, Fx.fOr, Fx.fNot, Fx.fBo, Fx.fMv, Fx.fOn, Fx.sNx, Fx.sBk, Fx.sCt, Fx.sRN, Fx.sSq, Fx.sDr, Fx.sRt, Fx.sIf, Fx.gN, Fx.gT0, Fx.gTC, Fx.gTu, Fx.takeRoot, Fx.sAs, Fx.sAt, Fx.childF, Fx.kidF, Fx.belowF, Fx.putAt, Fx.sFl, Fx.sPu, Fx.sSL, Fx.topPt, Fx.popTm, Fx.pushPt, Fx.sAp, Fx.sEx, Fx.fPop, Fx.sDe, Fx.pyAll, Fx.sEt, Fx.sFo, Fx.sFu, Fx.rngF, Fx.sFr, Fx.shiftS, Fx.lentF, Fx.dCall, Fx.nCall, Fx.iL, Fx.iLn, Fx.iT, Fx.iR, Fx.wipeR, Fx.bYes, Fx.nLc, Fx.boolsF, Fx.allF, Fx.d1, Fx.maxF, Fx.intF, Fx.nCopy, Fx.strsF, Fx.joinF, Fx.sRaise, Fx.intsF, Fx.inF, Fx.sAug, Fx.nDcp, Fx.keyD, Fx.iIt, Fx.nLock, Fx.wNo, Fx.wCo, Fx.vCallR, Fx.vMethR, Fx.key1, Fx.isK1, Fx.fSort1, Fx.fTupOf, Fx.aStar, Fx.nDc, Fx.dTup, Fx.dLst, Fx.gathF, Fx.dispF, Fx.allPy, Fx.popN, Fx.fTup, Fx.fLst, Fx.fDct, Fx.vGet2, Fx.keysF, Fx.kTup, Fx.vGetT2, Fx.vGetT, Fx.sPuT, Fx.sAt2, msk_py, msk_no, msk_pt, List.isPrefixOf, List.cons_prefix_cons, List.nil_prefix, e2, ec [], h1, h2, ofString_inj, at0, rowD, stS_here, noList]
theorem lay_out_ok (m : Int) (ks : List Str) (H : Mv.House Str) (l : Letter Str) (hl : H.laid.length < 100000) : S_House_lay_out [.pt [0], .py (letD l)] [houseT m ks H] = some (.vl (.s (.py .none)) [houseT m ks { H with laid := H.laid ++ [l] }]) := by
  simp [S_House_lay_out, b_House_lay_out, runF, houseT, houseC, Fx.Hd.own, Fx.TL.er, Fx.erAll, Fx.TL.get, Fx.TL.put, Fx.gget, Fx.gput, Fx.TL.addrs, Fx.TL.data, Fx.dataAll, Fx.msk, Fx.mulOk, Fx.addF, Fx.subF, Fx.mulF, Fx.fdivF, Fx.modF, Fx.powF, Fx.ltF, Fx.leF, Fx.gtF, Fx.geF, Fx.eqD, Fx.eqF, Fx.neF, Fx.isF, Fx.isntF, Fx.idxF, Fx.lenF, Fx.kindF, Fx.kitF, Fx.keyF, Fx.ixS, Fx.ixK, Fx.vVar, Fx.vC, Fx.vAt, Fx.dat, Fx.vD, Fx.vS, Fx.vPy, Fx.d2, Fx.dB, Fx.vB, Fx.bV, Fx.child, Fx.kidAt, Fx.vIdx, Fx.vGet, Fx.vFld, Fx.vLen, Fx.kindS, Fx.vIsi, Fx.vIsi2, Fx.aNil, Fx.aCons, Fx.vTup, Fx.nLst, Fx.vFz, Fx.bAnd, Fx.bOr, Fx.bNot, Fx.vIf, Fx.oNo, Fx.oI, Fx.cutF, Fx.vSlc, Fx.nSlc, Fx.negF, Fx.dNeg, Fx.rLenN, Fx.rIsiN, Fx.rIsiN2, Fx.nDct0, Fx.nDdt0, Fx.lendF, Fx.backF, Fx.headLt, Fx.voidF, Fx.tidy, Fx.callF, Fx.makeF, Fx.fP, Fx.fN, Fx.fB, Fx.rootF, Fx.dropLastF, Fx.fZ, Fx.push, Fx.gNo, Fx.gCo, Fx.fCall, Fx.fMake, Fx.fMeth, Fx.fBin2, Fx.fCmp2, Fx.fAnd, Fx.fOr, Fx.fNot, Fx.fBo, Fx.fMv, Fx.fOn, Fx.sNx, Fx.sBk, Fx.sCt, Fx.sRN, Fx.sSq, Fx.sDr, Fx.sRt, Fx.sIf, Fx.gN, Fx.gT0, Fx.gTC, Fx.gTu, Fx.takeRoot, Fx.sAs, Fx.sAt, Fx.childF, Fx.kidF, Fx.belowF, Fx.putAt, Fx.sFl, Fx.sPu, Fx.sSL, Fx.topPt, Fx.popTm, Fx.pushPt, Fx.sAp, Fx.sEx, Fx.fPop, Fx.sDe, Fx.pyAll, Fx.sEt, Fx.sFo, Fx.sFu, Fx.rngF, Fx.sFr, Fx.shiftS, Fx.lentF, Fx.dCall, Fx.nCall, Fx.iL, Fx.iLn, Fx.iT, Fx.iR, Fx.wipeR, Fx.bYes, Fx.nLc, Fx.boolsF, Fx.allF, Fx.d1, Fx.maxF, Fx.intF, Fx.nCopy, Fx.strsF, Fx.joinF, Fx.sRaise, Fx.intsF, Fx.inF, Fx.sAug, Fx.nDcp, Fx.keyD, Fx.iIt, Fx.nLock, Fx.wNo, Fx.wCo, Fx.vCallR, Fx.vMethR, Fx.key1, Fx.isK1, Fx.fSort1, Fx.fTupOf, Fx.aStar, Fx.nDc, Fx.dTup, Fx.dLst, Fx.gathF, Fx.dispF, Fx.allPy, Fx.popN, Fx.fTup, Fx.fLst, Fx.fDct, Fx.vGet2, Fx.keysF, Fx.kTup, Fx.vGetT2, Fx.vGetT, Fx.sPuT, Fx.sAt2, msk_py, msk_no, msk_pt, List.isPrefixOf, List.cons_prefix_cons, List.nil_prefix, ofString_inj, hl]
theorem do_wish_ok (m : Int) (ks : List Str) (H : Mv.House Str) (c n : Int) (k : Str) (w : Mv.Wish) (hk : k ∈ ks) (hn : ks.Nodup) (hks : ks.length < 100000) (hf : H.fresh.length < 100000) (hr : Mv.Rising (H.known k).marks) (hm : (H.known k).marks.length < 900) :
   S_House_do_wish [.pt [0], .py (.int c), .py (.int n), .py (.str k), .py (wishD w)] [houseT m ks H] = some (.vl (.s (.py (.int (w.done (H.known k).amount).2))) [houseT m ks { H with known := Mv.setK H.known k { H.known k with amount := (w.done (H.known k).amount).1, marks := Mv.marked (H.known k).marks c n (w.done (H.known k).amount).2 }, fresh := H.fresh ++ [⟨c, n, k, w, (w.done (H.known k).amount).2⟩] }]) := by
  obtain ⟨j, h1, h2⟩ := ix_key hk
  have e1 := done_ok (H.known k).amount w
  have e2 := with_mark_ok (H.known k).marks c n (w.done (H.known k).amount).2 hr hm
  have e3 : ∀ v : Row, (ks.map fun k => (TL.py (rowD (H.known k)) : T)).set j (.py (rowD v)) = ks.map fun j => .py (rowD (Mv.setK H.known k v j)) := fun v => by
    rw [set_key (f := fun k => (TL.py (rowD (H.known k)) : T)) hn h2]
    exact List.map_congr_left fun j _ => by unfold Mv.setK; split <;> rfl
  have e4 : ∀ v : Row, (ks.map fun k => (TL.py (rowD (H.known k)) : T)).set j (.py (.tuple [.str (stS v.st), .int v.turn, .int v.amount, .tuple (v.marks.map markD)])) = ks.map fun j => .py (rowD (Mv.setK H.known k v j)) := e3
  have e5 : (markD (c, n, (w.done (H.known k).amount).2)) = .tuple [.int c, .int n, .int (w.done (H.known k).amount).2] := rfl
  have e6 : lrD ⟨c, n, k, w, (w.done (H.known k).amount).2⟩ = .tuple [.int c, .int n, .str k, wishD w, .int (w.done (H.known k).amount).2] := rfl
  rw [e5] at e2
  have e7 := e4 { H.known k with amount := (w.done (H.known k).amount).1, marks := Mv.marked (H.known k).marks c n (w.done (H.known k).amount).2 }
  have e8 : (fun k => (TL.py (rowD (H.known k)) : T)) = fun k => .py (.tuple [.str (stS (H.known k).st), .int (H.known k).turn, .int (H.known k).amount, .tuple ((H.known k).marks.map markD)]) := rfl
  simp only [S_House_do_wish, b_House_do_wish, houseT, houseC]
  generalize hX : (ks.map fun j => (TL.py (rowD (Mv.setK H.known k { H.known k with amount := (w.done (H.known k).amount).1, marks := Mv.marked (H.known k).marks c n (w.done (H.known k).amount).2 } j)) : T)) = X at *
  rw [e8] at e7
  simp only at e7
  rw [e8]
  simp [runF, Fx.Hd.own, Fx.TL.er, Fx.erAll, Fx.TL.get, Fx.TL.put, Fx.gget, Fx.gput, Fx.TL.addrs, Fx.TL.data, Fx.dataAll, Fx.msk, Fx.mulOk, Fx.addF, Fx.subF, Fx.mulF, Fx.fdivF, Fx.modF, Fx.powF, Fx.ltF, Fx.leF, Fx.gtF, Fx.geF, Fx.eqD, Fx.eqF, Fx.neF, Fx.isF, Fx.isntF, Fx.idxF, Fx.lenF, Fx.kindF, Fx.kitF, Fx.keyF, Fx.ixS, Fx.ixK, Fx.vVar, Fx.vC, Fx.vAt, Fx.dat, Fx.vD, Fx.vS, Fx.vPy, Fx.d2, Fx.dB, Fx.vB, Fx.bV, Fx.child, Fx.kidAt, Fx.vIdx, Fx.vGet, Fx.vFld, Fx.vLen, Fx.kindS, Fx.vIsi, Fx.vIsi2, Fx.aNil, Fx.aCons, Fx.vTup, Fx.nLst, Fx.vFz, Fx.bAnd, Fx.bOr, Fx.bNot, Fx.vIf, Fx.oNo, Fx.oI, Fx.cutF, Fx.vSlc, Fx.nSlc, Fx.negF, Fx.dNeg, Fx.rLenN, Fx.rIsiN, Fx.rIsiN2, Fx.nDct0, Fx.nDdt0, Fx.lendF, Fx.backF, Fx.headLt, Fx.voidF, Fx.tidy, Fx.callF, Fx.makeF, Fx.fP, Fx.fN, Fx.fB, Fx.rootF, Fx.dropLastF, Fx.fZ, Fx.push, Fx.gNo, Fx.gCo, Fx.fCall, Fx.fMake, Fx.fMeth, Fx.fBin2, Fx.fCmp2, Fx.fAnd, Fx.fOr, Fx.fNot, Fx.fBo, Fx.fMv, Fx.fOn, Fx.sNx, Fx.sBk, Fx.sCt, Fx.sRN, Fx.sSq, Fx.sDr, Fx.sRt, Fx.sIf, Fx.gN, Fx.gT0, Fx.gTC, Fx.gTu, Fx.takeRoot, Fx.sAs, Fx.sAt, Fx.childF, Fx.kidF, Fx.belowF, Fx.putAt, Fx.sFl, Fx.sPu, Fx.sSL, Fx.topPt, Fx.popTm, Fx.pushPt, Fx.sAp, Fx.sEx, Fx.fPop, Fx.sDe, Fx.pyAll, Fx.sEt, Fx.sFo, Fx.sFu, Fx.rngF, Fx.sFr, Fx.shiftS, Fx.lentF, Fx.dCall, Fx.nCall, Fx.iL, Fx.iLn, Fx.iT, Fx.iR, Fx.wipeR, Fx.bYes, Fx.nLc, Fx.boolsF, Fx.allF, Fx.d1, Fx.maxF, Fx.intF, Fx.nCopy, Fx.strsF, Fx.joinF, Fx.sRaise, Fx.intsF, Fx.inF, Fx.sAug, Fx.nDcp, Fx.keyD, Fx.iIt, Fx.nLock, Fx.wNo, Fx.wCo, Fx.vCallR, Fx.vMethR, Fx.key1, Fx.isK1, Fx.fSort1, Fx.fTupOf, Fx.aStar, Fx.nDc, Fx.dTup, Fx.dLst, Fx.gathF, Fx.dispF, Fx.allPy, Fx.popN, Fx.fTup, Fx.fLst, Fx.fDct, Fx.vGet2, Fx.keysF, Fx.kTup, Fx.vGetT2, Fx.vGetT, Fx.sPuT, Fx.sAt2, msk_py, msk_no, msk_pt, List.isPrefixOf, List.cons_prefix_cons, List.nil_prefix, ofString_inj, h1, h2, e1, e2, e6, noList, noLists, hks, hf]
  exact e7
theorem last_find : ∀ (ms : List Mark) (c : Int), Mv.last ms c = match ms.find? (fun m => decide (m.1 = c)) with
    | some m => m.2
    | none => (0, 0)
  | [], c => rfl
  | m :: ms, c => by
    unfold Mv.last
    by_cases h : m.1 = c
    · simp [h]
    · simp [h, last_find ms c]
theorem find_is {ms : List Mark} {c : Int} {m : Mark} (h : ms.find? (fun m => decide (m.1 = c)) = some m) : m.1 = c := by
  have := List.find?_some h
  simpa using this
theorem idx_tup (ds : List PyData) (i : Int) : idxF (.tuple ds) (.int i) = atI ds i := rfl
theorem idx_lst (ds : List PyData) (i : Int) : idxF (.list ds) (.int i) = atI ds i := rfl
theorem idx_row0 (r : Row) : idxF (rowD r) (.int 0) = some (.str (stS r.st)) := at0 _ _
theorem idx_row1 (r : Row) : idxF (rowD r) (.int 1) = some (.int r.turn) := at1 _ _ _
theorem idx_row3 (r : Row) : idxF (rowD r) (.int 3) = some (.tuple (r.marks.map markD)) := at3 _ _ _ _ _
theorem idx_mark1 (m : Mark) : idxF (markD m) (.int 1) = some (.int m.2.1) := at1 _ _ _
theorem idx_mark2 (m : Mark) : idxF (markD m) (.int 2) = some (.int m.2.2) := at2 _ _ _ _
theorem let_call (g : Bool) (c n : Int) (k : Str) (w : Mv.Wish) : letD (.call g c n k w) = .tuple [.str "call", .int (hI g), .int c, .int n, .str k, wishD w] := rfl
theorem let_answer (c n t : Int) : letD (.answer c n t) = .tuple [.str "answer", .int c, .int n, .int t] := rfl
theorem let_parcel (g : Bool) (k : Str) (t a : Int) (ms : List Mark) : letD (.parcel g k t a ms) = .tuple [.str "parcel", .int (hI g), .str k, .int t, .int a, .tuple (ms.map markD)] := rfl
theorem let_taken (g : Bool) (k : Str) (t : Int) : letD (.taken g k t) = .tuple [.str "taken", .int (hI g), .str k, .int t] := rfl
theorem call_came_ok (g : Bool) (m : Int) (ks : List Str) (H : Mv.House Str) (c n : Int) (k : Str) (w : Mv.Wish) (hk : k ∈ ks) (hn : ks.Nodup) (hks : ks.length < 100000) (hf : H.fresh.length < 100000) (hL : H.laid.length < 100000) (hr : Mv.Rising (H.known k).marks) (hm : (H.known k).marks.length < 900) (h1n : 1 ≤ n) :
   S_House_call_came [.pt [0], .py (letD (.call g c n k w))] [houseT m ks H] = some (.vl (.s (.py .none)) [houseT m ks (H.called c n k w)]) := by
  obtain ⟨j, h1, h2⟩ := ix_key hk
  have e1 := has_ok ([.un (), .un (), .un (), .un (), .un (), .un (), .un (), houseT m ks H]) 7 [] m ks H k rfl hk
  have e2 := mark_of_ok (H.known k).marks c
  have e3 := do_wish_ok m ks H c n k w hk hn hks hf hr hm
  have e4 := last_find (H.known k).marks c
  have el := fun (H : Mv.House Str) (h : H.laid.length < 100000) (t : Int) => lay_out_ok m ks H (.answer c n t) h
  unfold Mv.House.called
  unfold S_House_call_came b_House_call_came
  rw [let_call]
  simp only [let_answer] at el
  by_cases hh : (H.known k).st = .here
  · rw [if_pos hh]
    simp only [hh, decide_true] at e1
    cases ef : (H.known k).marks.find? (fun m => decide (m.1 = c)) with
    | none =>
      rw [ef] at e4
      have em : markOf (H.known k).marks c = .none := by unfold markOf; rw [ef]
      rw [em] at e2
      have a0 : ¬ n < (Mv.last (H.known k).marks c).1 := by rw [e4]; simp; omega
      have a1 : (Mv.last (H.known k).marks c).1 < n := by rw [e4]; simp; omega
      rw [if_neg a0, if_pos a1]
      have el := el { H with known := Mv.setK H.known k { H.known k with amount := (w.done (H.known k).amount).1, marks := Mv.marked (H.known k).marks c n (w.done (H.known k).amount).2 }, fresh := H.fresh ++ [⟨c, n, k, w, (w.done (H.known k).amount).2⟩] } hL (w.done (H.known k).amount).2
      unfold houseT at *
      simp [runF, Fx.Hd.own, Fx.TL.er, Fx.erAll, Fx.TL.get, Fx.TL.put, Fx.gget, Fx.gput, Fx.TL.addrs, Fx.TL.data, Fx.dataAll, Fx.msk, Fx.mulOk, Fx.addF, Fx.subF, Fx.mulF, Fx.fdivF, Fx.modF, Fx.powF, Fx.ltF, Fx.leF, Fx.gtF, Fx.geF, Fx.eqD, Fx.eqF, Fx.neF, Fx.isF, Fx.isntF, Fx.lenF, Fx.kindF, Fx.kitF, Fx.keyF, Fx.ixS, Fx.ixK, Fx.vVar, Fx.vC, Fx.vAt, Fx.dat, Fx.vD, Fx.vS, Fx.vPy, Fx.d2, Fx.dB, Fx.vB, Fx.bV, Fx.child, Fx.kidAt, Fx.vIdx, Fx.vGet, Fx.vFld, Fx.vLen, Fx.kindS, Fx.vIsi, Fx.vIsi2, Fx.aNil, Fx.aCons, Fx.vTup, Fx.nLst, Fx.vFz, Fx.bAnd, Fx.bOr, Fx.bNot, Fx.vIf, Fx.oNo, Fx.oI, Fx.vSlc, Fx.nSlc, Fx.negF, Fx.dNeg, Fx.rLenN, Fx.rIsiN, Fx.rIsiN2, Fx.nDct0, Fx.nDdt0, Fx.lendF, Fx.backF, Fx.headLt, Fx.voidF, Fx.tidy, Fx.callF, Fx.makeF, Fx.fP, Fx.fN, Fx.fB, Fx.rootF, Fx.dropLastF, Fx.fZ, Fx.push, Fx.gNo, Fx.gCo, Fx.fCall, Fx.fMake, Fx.fMeth, Fx.fBin2, Fx.fCmp2, Fx.fAnd, Fx.fOr, Fx.fNot, Fx.fBo, Fx.fMv, Fx.fOn, Fx.sNx, Fx.sBk, Fx.sCt, Fx.sRN, Fx.sSq, Fx.sDr, Fx.sRt, Fx.sIf, Fx.gN, Fx.gT0, Fx.gTC, Fx.gTu, Fx.takeRoot, Fx.sAs, Fx.sAt, Fx.childF, Fx.kidF, Fx.belowF, Fx.putAt, Fx.sFl, Fx.sPu, Fx.sSL, Fx.topPt, Fx.popTm, Fx.pushPt, Fx.sAp, Fx.sEx, Fx.fPop, Fx.sDe, Fx.pyAll, Fx.sEt, Fx.sFo, Fx.sFu, Fx.rngF, Fx.sFr, Fx.shiftS, Fx.lentF, Fx.dCall, Fx.nCall, Fx.iL, Fx.iLn, Fx.iT, Fx.iR, Fx.wipeR, Fx.bYes, Fx.nLc, Fx.boolsF, Fx.allF, Fx.d1, Fx.maxF, Fx.intF, Fx.nCopy, Fx.strsF, Fx.joinF, Fx.sRaise, Fx.intsF, Fx.inF, Fx.sAug, Fx.nDcp, Fx.keyD, Fx.iIt, Fx.nLock, Fx.wNo, Fx.wCo, Fx.vCallR, Fx.vMethR, Fx.key1, Fx.isK1, Fx.fSort1, Fx.fTupOf, Fx.aStar, Fx.nDc, Fx.dTup, Fx.dLst, Fx.gathF, Fx.dispF, Fx.allPy, Fx.popN, Fx.fTup, Fx.fLst, Fx.fDct, Fx.vGet2, Fx.keysF, Fx.kTup, Fx.vGetT2, Fx.vGetT, Fx.sPuT, Fx.sAt2, msk_py, msk_no, msk_pt, List.isPrefixOf, List.cons_prefix_cons, List.nil_prefix, idx_tup, idx_row3, ofString_inj, house_1, cut2, e1, h1, h2, at2, e2, e3, el, noList, noLists]
    | some mk =>
      rw [ef] at e4
      have em : markOf (H.known k).marks c = markD mk := by unfold markOf; rw [ef]
      rw [em] at e2
      have e4 : Mv.last (H.known k).marks c = mk.2 := e4
      have hkind : isF (markD mk) .none = some false := rfl
      by_cases a0 : n < mk.2.1
      · rw [e4, if_pos a0]
        unfold houseT at *
        simp [runF, Fx.Hd.own, Fx.TL.er, Fx.erAll, Fx.TL.get, Fx.TL.put, Fx.gget, Fx.gput, Fx.TL.addrs, Fx.TL.data, Fx.dataAll, Fx.msk, Fx.mulOk, Fx.addF, Fx.subF, Fx.mulF, Fx.fdivF, Fx.modF, Fx.powF, Fx.ltF, Fx.leF, Fx.gtF, Fx.geF, Fx.eqD, Fx.eqF, Fx.neF, Fx.isntF, Fx.lenF, Fx.kindF, Fx.kitF, Fx.keyF, Fx.ixS, Fx.ixK, Fx.vVar, Fx.vC, Fx.vAt, Fx.dat, Fx.vD, Fx.vS, Fx.vPy, Fx.d2, Fx.dB, Fx.vB, Fx.bV, Fx.child, Fx.kidAt, Fx.vIdx, Fx.vGet, Fx.vFld, Fx.vLen, Fx.kindS, Fx.vIsi, Fx.vIsi2, Fx.aNil, Fx.aCons, Fx.vTup, Fx.nLst, Fx.vFz, Fx.bAnd, Fx.bOr, Fx.bNot, Fx.vIf, Fx.oNo, Fx.oI, Fx.vSlc, Fx.nSlc, Fx.negF, Fx.dNeg, Fx.rLenN, Fx.rIsiN, Fx.rIsiN2, Fx.nDct0, Fx.nDdt0, Fx.lendF, Fx.backF, Fx.headLt, Fx.voidF, Fx.tidy, Fx.callF, Fx.makeF, Fx.fP, Fx.fN, Fx.fB, Fx.rootF, Fx.dropLastF, Fx.fZ, Fx.push, Fx.gNo, Fx.gCo, Fx.fCall, Fx.fMake, Fx.fMeth, Fx.fBin2, Fx.fCmp2, Fx.fAnd, Fx.fOr, Fx.fNot, Fx.fBo, Fx.fMv, Fx.fOn, Fx.sNx, Fx.sBk, Fx.sCt, Fx.sRN, Fx.sSq, Fx.sDr, Fx.sRt, Fx.sIf, Fx.gN, Fx.gT0, Fx.gTC, Fx.gTu, Fx.takeRoot, Fx.sAs, Fx.sAt, Fx.childF, Fx.kidF, Fx.belowF, Fx.putAt, Fx.sFl, Fx.sPu, Fx.sSL, Fx.topPt, Fx.popTm, Fx.pushPt, Fx.sAp, Fx.sEx, Fx.fPop, Fx.sDe, Fx.pyAll, Fx.sEt, Fx.sFo, Fx.sFu, Fx.rngF, Fx.sFr, Fx.shiftS, Fx.lentF, Fx.dCall, Fx.nCall, Fx.iL, Fx.iLn, Fx.iT, Fx.iR, Fx.wipeR, Fx.bYes, Fx.nLc, Fx.boolsF, Fx.allF, Fx.d1, Fx.maxF, Fx.intF, Fx.nCopy, Fx.strsF, Fx.joinF, Fx.sRaise, Fx.intsF, Fx.inF, Fx.sAug, Fx.nDcp, Fx.keyD, Fx.iIt, Fx.nLock, Fx.wNo, Fx.wCo, Fx.vCallR, Fx.vMethR, Fx.key1, Fx.isK1, Fx.fSort1, Fx.fTupOf, Fx.aStar, Fx.nDc, Fx.dTup, Fx.dLst, Fx.gathF, Fx.dispF, Fx.allPy, Fx.popN, Fx.fTup, Fx.fLst, Fx.fDct, Fx.vGet2, Fx.keysF, Fx.kTup, Fx.vGetT2, Fx.vGetT, Fx.sPuT, Fx.sAt2, msk_py, msk_no, msk_pt, List.isPrefixOf, List.cons_prefix_cons, List.nil_prefix, hkind, idx_tup, idx_row3, idx_mark1, ofString_inj, house_1, cut2, e1, h1, h2, e2, noList_mark, a0]
      · rw [e4, if_neg a0]
        by_cases a1 : mk.2.1 < n
        · rw [if_pos a1]
          have el := el { H with known := Mv.setK H.known k { H.known k with amount := (w.done (H.known k).amount).1, marks := Mv.marked (H.known k).marks c n (w.done (H.known k).amount).2 }, fresh := H.fresh ++ [⟨c, n, k, w, (w.done (H.known k).amount).2⟩] } hL (w.done (H.known k).amount).2
          unfold houseT at *
          simp [runF, Fx.Hd.own, Fx.TL.er, Fx.erAll, Fx.TL.get, Fx.TL.put, Fx.gget, Fx.gput, Fx.TL.addrs, Fx.TL.data, Fx.dataAll, Fx.msk, Fx.mulOk, Fx.addF, Fx.subF, Fx.mulF, Fx.fdivF, Fx.modF, Fx.powF, Fx.ltF, Fx.leF, Fx.gtF, Fx.geF, Fx.eqD, Fx.eqF, Fx.neF, Fx.isntF, Fx.lenF, Fx.kindF, Fx.kitF, Fx.keyF, Fx.ixS, Fx.ixK, Fx.vVar, Fx.vC, Fx.vAt, Fx.dat, Fx.vD, Fx.vS, Fx.vPy, Fx.d2, Fx.dB, Fx.vB, Fx.bV, Fx.child, Fx.kidAt, Fx.vIdx, Fx.vGet, Fx.vFld, Fx.vLen, Fx.kindS, Fx.vIsi, Fx.vIsi2, Fx.aNil, Fx.aCons, Fx.vTup, Fx.nLst, Fx.vFz, Fx.bAnd, Fx.bOr, Fx.bNot, Fx.vIf, Fx.oNo, Fx.oI, Fx.vSlc, Fx.nSlc, Fx.negF, Fx.dNeg, Fx.rLenN, Fx.rIsiN, Fx.rIsiN2, Fx.nDct0, Fx.nDdt0, Fx.lendF, Fx.backF, Fx.headLt, Fx.voidF, Fx.tidy, Fx.callF, Fx.makeF, Fx.fP, Fx.fN, Fx.fB, Fx.rootF, Fx.dropLastF, Fx.fZ, Fx.push, Fx.gNo, Fx.gCo, Fx.fCall, Fx.fMake, Fx.fMeth, Fx.fBin2, Fx.fCmp2, Fx.fAnd, Fx.fOr, Fx.fNot, Fx.fBo, Fx.fMv, Fx.fOn, Fx.sNx, Fx.sBk, Fx.sCt, Fx.sRN, Fx.sSq, Fx.sDr, Fx.sRt, Fx.sIf, Fx.gN, Fx.gT0, Fx.gTC, Fx.gTu, Fx.takeRoot, Fx.sAs, Fx.sAt, Fx.childF, Fx.kidF, Fx.belowF, Fx.putAt, Fx.sFl, Fx.sPu, Fx.sSL, Fx.topPt, Fx.popTm, Fx.pushPt, Fx.sAp, Fx.sEx, Fx.fPop, Fx.sDe, Fx.pyAll, Fx.sEt, Fx.sFo, Fx.sFu, Fx.rngF, Fx.sFr, Fx.shiftS, Fx.lentF, Fx.dCall, Fx.nCall, Fx.iL, Fx.iLn, Fx.iT, Fx.iR, Fx.wipeR, Fx.bYes, Fx.nLc, Fx.boolsF, Fx.allF, Fx.d1, Fx.maxF, Fx.intF, Fx.nCopy, Fx.strsF, Fx.joinF, Fx.sRaise, Fx.intsF, Fx.inF, Fx.sAug, Fx.nDcp, Fx.keyD, Fx.iIt, Fx.nLock, Fx.wNo, Fx.wCo, Fx.vCallR, Fx.vMethR, Fx.key1, Fx.isK1, Fx.fSort1, Fx.fTupOf, Fx.aStar, Fx.nDc, Fx.dTup, Fx.dLst, Fx.gathF, Fx.dispF, Fx.allPy, Fx.popN, Fx.fTup, Fx.fLst, Fx.fDct, Fx.vGet2, Fx.keysF, Fx.kTup, Fx.vGetT2, Fx.vGetT, Fx.sPuT, Fx.sAt2, msk_py, msk_no, msk_pt, List.isPrefixOf, List.cons_prefix_cons, List.nil_prefix, hkind, idx_tup, idx_row3, idx_mark1, ofString_inj, house_1, cut2, e1, h1, h2, at2, e2, e3, el, noList, noLists, noList_mark, a0, a1]
        · rw [if_neg a1]
          have el := el H hL mk.2.2
          have en : mk.2.1 = n := by omega
          unfold houseT at *
          simp [runF, Fx.Hd.own, Fx.TL.er, Fx.erAll, Fx.TL.get, Fx.TL.put, Fx.gget, Fx.gput, Fx.TL.addrs, Fx.TL.data, Fx.dataAll, Fx.msk, Fx.mulOk, Fx.addF, Fx.subF, Fx.mulF, Fx.fdivF, Fx.modF, Fx.powF, Fx.ltF, Fx.leF, Fx.gtF, Fx.geF, Fx.eqD, Fx.eqF, Fx.neF, Fx.isntF, Fx.lenF, Fx.kindF, Fx.kitF, Fx.keyF, Fx.ixS, Fx.ixK, Fx.vVar, Fx.vC, Fx.vAt, Fx.dat, Fx.vD, Fx.vS, Fx.vPy, Fx.d2, Fx.dB, Fx.vB, Fx.bV, Fx.child, Fx.kidAt, Fx.vIdx, Fx.vGet, Fx.vFld, Fx.vLen, Fx.kindS, Fx.vIsi, Fx.vIsi2, Fx.aNil, Fx.aCons, Fx.vTup, Fx.nLst, Fx.vFz, Fx.bAnd, Fx.bOr, Fx.bNot, Fx.vIf, Fx.oNo, Fx.oI, Fx.vSlc, Fx.nSlc, Fx.negF, Fx.dNeg, Fx.rLenN, Fx.rIsiN, Fx.rIsiN2, Fx.nDct0, Fx.nDdt0, Fx.lendF, Fx.backF, Fx.headLt, Fx.voidF, Fx.tidy, Fx.callF, Fx.makeF, Fx.fP, Fx.fN, Fx.fB, Fx.rootF, Fx.dropLastF, Fx.fZ, Fx.push, Fx.gNo, Fx.gCo, Fx.fCall, Fx.fMake, Fx.fMeth, Fx.fBin2, Fx.fCmp2, Fx.fAnd, Fx.fOr, Fx.fNot, Fx.fBo, Fx.fMv, Fx.fOn, Fx.sNx, Fx.sBk, Fx.sCt, Fx.sRN, Fx.sSq, Fx.sDr, Fx.sRt, Fx.sIf, Fx.gN, Fx.gT0, Fx.gTC, Fx.gTu, Fx.takeRoot, Fx.sAs, Fx.sAt, Fx.childF, Fx.kidF, Fx.belowF, Fx.putAt, Fx.sFl, Fx.sPu, Fx.sSL, Fx.topPt, Fx.popTm, Fx.pushPt, Fx.sAp, Fx.sEx, Fx.fPop, Fx.sDe, Fx.pyAll, Fx.sEt, Fx.sFo, Fx.sFu, Fx.rngF, Fx.sFr, Fx.shiftS, Fx.lentF, Fx.dCall, Fx.nCall, Fx.iL, Fx.iLn, Fx.iT, Fx.iR, Fx.wipeR, Fx.bYes, Fx.nLc, Fx.boolsF, Fx.allF, Fx.d1, Fx.maxF, Fx.intF, Fx.nCopy, Fx.strsF, Fx.joinF, Fx.sRaise, Fx.intsF, Fx.inF, Fx.sAug, Fx.nDcp, Fx.keyD, Fx.iIt, Fx.nLock, Fx.wNo, Fx.wCo, Fx.vCallR, Fx.vMethR, Fx.key1, Fx.isK1, Fx.fSort1, Fx.fTupOf, Fx.aStar, Fx.nDc, Fx.dTup, Fx.dLst, Fx.gathF, Fx.dispF, Fx.allPy, Fx.popN, Fx.fTup, Fx.fLst, Fx.fDct, Fx.vGet2, Fx.keysF, Fx.kTup, Fx.vGetT2, Fx.vGetT, Fx.sPuT, Fx.sAt2, msk_py, msk_no, msk_pt, List.isPrefixOf, List.cons_prefix_cons, List.nil_prefix, hkind, idx_tup, idx_row3, idx_mark1, idx_mark2, ofString_inj, house_1, cut2, e1, h1, h2, at2, e2, el, noList, noLists, noList_mark, a0, a1]
  · rw [if_neg hh]
    unfold houseT at *
    simp [runF, Fx.Hd.own, Fx.TL.er, Fx.erAll, Fx.TL.get, Fx.TL.put, Fx.gget, Fx.gput, Fx.TL.addrs, Fx.TL.data, Fx.dataAll, Fx.msk, Fx.mulOk, Fx.addF, Fx.subF, Fx.mulF, Fx.fdivF, Fx.modF, Fx.powF, Fx.ltF, Fx.leF, Fx.gtF, Fx.geF, Fx.eqD, Fx.eqF, Fx.neF, Fx.isF, Fx.isntF, Fx.lenF, Fx.kindF, Fx.kitF, Fx.keyF, Fx.ixS, Fx.ixK, Fx.vVar, Fx.vC, Fx.vAt, Fx.dat, Fx.vD, Fx.vS, Fx.vPy, Fx.d2, Fx.dB, Fx.vB, Fx.bV, Fx.child, Fx.kidAt, Fx.vIdx, Fx.vGet, Fx.vFld, Fx.vLen, Fx.kindS, Fx.vIsi, Fx.vIsi2, Fx.aNil, Fx.aCons, Fx.vTup, Fx.nLst, Fx.vFz, Fx.bAnd, Fx.bOr, Fx.bNot, Fx.vIf, Fx.oNo, Fx.oI, Fx.vSlc, Fx.nSlc, Fx.negF, Fx.dNeg, Fx.rLenN, Fx.rIsiN, Fx.rIsiN2, Fx.nDct0, Fx.nDdt0, Fx.lendF, Fx.backF, Fx.headLt, Fx.voidF, Fx.tidy, Fx.callF, Fx.makeF, Fx.fP, Fx.fN, Fx.fB, Fx.rootF, Fx.dropLastF, Fx.fZ, Fx.push, Fx.gNo, Fx.gCo, Fx.fCall, Fx.fMake, Fx.fMeth, Fx.fBin2, Fx.fCmp2, Fx.fAnd, Fx.fOr, Fx.fNot, Fx.fBo, Fx.fMv, Fx.fOn, Fx.sNx, Fx.sBk, Fx.sCt, Fx.sRN, Fx.sSq, Fx.sDr, Fx.sRt, Fx.sIf, Fx.gN, Fx.gT0, Fx.gTC, Fx.gTu, Fx.takeRoot, Fx.sAs, Fx.sAt, Fx.childF, Fx.kidF, Fx.belowF, Fx.putAt, Fx.sFl, Fx.sPu, Fx.sSL, Fx.topPt, Fx.popTm, Fx.pushPt, Fx.sAp, Fx.sEx, Fx.fPop, Fx.sDe, Fx.pyAll, Fx.sEt, Fx.sFo, Fx.sFu, Fx.rngF, Fx.sFr, Fx.shiftS, Fx.lentF, Fx.dCall, Fx.nCall, Fx.iL, Fx.iLn, Fx.iT, Fx.iR, Fx.wipeR, Fx.bYes, Fx.nLc, Fx.boolsF, Fx.allF, Fx.d1, Fx.maxF, Fx.intF, Fx.nCopy, Fx.strsF, Fx.joinF, Fx.sRaise, Fx.intsF, Fx.inF, Fx.sAug, Fx.nDcp, Fx.keyD, Fx.iIt, Fx.nLock, Fx.wNo, Fx.wCo, Fx.vCallR, Fx.vMethR, Fx.key1, Fx.isK1, Fx.fSort1, Fx.fTupOf, Fx.aStar, Fx.nDc, Fx.dTup, Fx.dLst, Fx.gathF, Fx.dispF, Fx.allPy, Fx.popN, Fx.fTup, Fx.fLst, Fx.fDct, Fx.vGet2, Fx.keysF, Fx.kTup, Fx.vGetT2, Fx.vGetT, Fx.sPuT, Fx.sAt2, msk_py, msk_no, msk_pt, List.isPrefixOf, List.cons_prefix_cons, List.nil_prefix, idx_tup, ofString_inj, house_1, cut2, e1, hh]
end Mo


namespace Mo
open PySem L2 Fx
open Mv (Mark Row LRow Letter)
theorem idx_row2 (r : Row) : idxF (rowD r) (.int 2) = some (.int r.amount) := at2 _ _ _ _
theorem row_tup (r : Row) : rowD r = .tuple [.str (stS r.st), .int r.turn, .int r.amount, .tuple (r.marks.map markD)] := rfl
theorem hI_not (g : Bool) : (1 : Int) - hI g = hI (!g) := by cases g <;> rfl
/-- parcel, wherever the house stands, its dicts locked or not -/
theorem parcel_ok (g : List T) (i : Nat) (r : List Nat) (b : Bool) (cs : List T) (hg : gget g (i :: r) = some (.nd () (.ins "House" ["number", "known", "written", "laid_out", "new_rows"]) (.py (.int (hI b)) :: cs))) (k : Str) (w : Row) : S_House_parcel [.pt (i :: r), .py (.str k), .py (rowD w)] g = some (letD (Mv.parcelOf b k w)) := by
  have e : gget (.un () :: .un () :: .un () :: .un () :: .un () :: .un () :: g) ((6 + i) :: r) = some (.nd () (.ins "House" ["number", "known", "written", "laid_out", "new_rows"]) (.py (.int (hI b)) :: cs)) := by
    rw [← hg]; simp only [gget]; rw [show 6 + i = i + 6 by omega]; rfl
  unfold S_House_parcel b_House_parcel runR
  simp only [List.length_cons, List.length_nil, if_true, List.map_cons, List.map_nil, shiftS, Nat.sub_self, List.replicate, List.append_nil, List.nil_append, List.cons_append]
  generalize (TL.un () :: TL.un () :: TL.un () :: TL.un () :: TL.un () :: TL.un () :: g : List T) = g2 at *
  generalize (6 + i) :: r = π at *
  unfold Mv.parcelOf
  rw [let_parcel]
  simp [Fx.Hd.own, Fx.TL.er, Fx.erAll, Fx.TL.get, Fx.TL.put, Fx.gput, Fx.TL.addrs, Fx.TL.data, Fx.dataAll, Fx.msk, Fx.mulOk, Fx.addF, Fx.subF, Fx.mulF, Fx.fdivF, Fx.modF, Fx.powF, Fx.ltF, Fx.leF, Fx.gtF, Fx.geF, Fx.eqD, Fx.eqF, Fx.neF, Fx.isF, Fx.isntF, Fx.idxF, Fx.lenF, Fx.kindF, Fx.kitF, Fx.keyF, Fx.ixS, Fx.ixK, Fx.vVar, Fx.vC, Fx.vAt, Fx.dat, Fx.vD, Fx.vS, Fx.vPy, Fx.d2, Fx.dB, Fx.vB, Fx.bV, Fx.child, Fx.kidAt, Fx.vIdx, Fx.vGet, Fx.vFld, Fx.vLen, Fx.kindS, Fx.vIsi, Fx.vIsi2, Fx.aNil, Fx.aCons, Fx.vTup, Fx.nLst, Fx.vFz, Fx.bAnd, Fx.bOr, Fx.bNot, Fx.vIf, Fx.oNo, Fx.oI, Fx.vSlc, Fx.nSlc, Fx.negF, Fx.dNeg, Fx.rLenN, Fx.rIsiN, Fx.rIsiN2, Fx.nDct0, Fx.nDdt0, Fx.lendF, Fx.backF, Fx.headLt, Fx.voidF, Fx.tidy, Fx.callF, Fx.makeF, Fx.fP, Fx.fN, Fx.fB, Fx.rootF, Fx.dropLastF, Fx.fZ, Fx.push, Fx.gNo, Fx.gCo, Fx.fCall, Fx.fMake, Fx.fMeth, Fx.fBin2, Fx.fCmp2, Fx.fAnd, Fx.fOr, Fx.fNot, Fx.fBo, Fx.fMv, Fx.fOn, Fx.sNx, Fx.sBk, Fx.sCt, Fx.sRN, Fx.sSq, Fx.sDr, Fx.sRt, Fx.sIf, Fx.gN, Fx.gT0, Fx.gTC, Fx.gTu, Fx.takeRoot, Fx.sAs, Fx.sAt, Fx.childF, Fx.kidF, Fx.belowF, Fx.putAt, Fx.sFl, Fx.sPu, Fx.sSL, Fx.topPt, Fx.popTm, Fx.pushPt, Fx.sAp, Fx.sEx, Fx.fPop, Fx.sDe, Fx.pyAll, Fx.sEt, Fx.sFo, Fx.sFu, Fx.rngF, Fx.sFr, Fx.shiftS, Fx.lentF, Fx.dCall, Fx.nCall, Fx.iL, Fx.iLn, Fx.iT, Fx.iR, Fx.wipeR, Fx.bYes, Fx.nLc, Fx.boolsF, Fx.allF, Fx.d1, Fx.maxF, Fx.intF, Fx.nCopy, Fx.strsF, Fx.joinF, Fx.sRaise, Fx.intsF, Fx.inF, Fx.sAug, Fx.nDcp, Fx.keyD, Fx.iIt, Fx.nLock, Fx.wNo, Fx.wCo, Fx.vCallR, Fx.vMethR, Fx.key1, Fx.isK1, Fx.fSort1, Fx.fTupOf, Fx.aStar, Fx.nDc, Fx.dTup, Fx.dLst, Fx.gathF, Fx.dispF, Fx.allPy, Fx.popN, Fx.fTup, Fx.fLst, Fx.fDct, Fx.vGet2, Fx.keysF, Fx.kTup, Fx.vGetT2, Fx.vGetT, Fx.sPuT, Fx.sAt2, msk_py, msk_no, msk_pt, List.isPrefixOf, List.cons_prefix_cons, List.nil_prefix, rowD, cut1, e, ofString_inj, noList, noLists, noLists_marks, hI_not]
theorem hc_len (m : Int) (ks : List Str) (H : Mv.House Str) : (houseC m ks H).length = 5 := rfl
theorem set_row {ks : List Str} {j : Nat} {k : Str} (f : Str → Row) (v : Row) (hn : ks.Nodup) (h2 : ks[j]? = some k) : (ks.map fun k => (TL.py (rowD (f k)) : T)).set j (.py (rowD v)) = ks.map fun j => .py (rowD (Mv.setK f k v j)) := by
  rw [set_key (f := fun k => (TL.py (rowD (f k)) : T)) hn h2]
  exact List.map_congr_left fun j _ => by unfold Mv.setK; split <;> rfl
theorem parcel_came_ok (g b : Bool) (ks : List Str) (H : Mv.House Str) (k : Str) (t a : Int) (ms : List Mark) (hk : k ∈ ks) (hn : ks.Nodup) (hks : ks.length < 100000) (hL : H.laid.length < 100000) :
   S_House_parcel_came [.pt [0], .py (letD (.parcel g k t a ms))] [houseT (hI b) ks H] = some (.vl (.s (.py .none)) [houseT (hI b) ks (H.parcelCame b k t a ms)]) := by
  obtain ⟨j, h1, h2⟩ := ix_key hk
  have el := fun (H : Mv.House Str) (h : H.laid.length < 100000) => lay_out_ok (hI b) ks H (.taken (!b) k t) h
  have er := set_row H.known ⟨t, .here, a, ms⟩ hn h2
  have er : (ks.map fun k => (TL.py (rowD (H.known k)) : T)).set j (.py (.tuple [.str "here", .int t, .int a, .tuple (ms.map markD)])) = _ := er
  unfold Mv.House.parcelCame
  unfold S_House_parcel_came b_House_parcel_came
  rw [let_parcel]
  simp only [let_taken] at el
  by_cases h : (H.known k).turn < t
  · have el := el { H with known := Mv.setK H.known k ⟨t, .here, a, ms⟩ } hL
    rw [if_pos h]
    have ec : (houseC (hI b) ks H).set 1 (.nd () (.dct (ks.map .inr)) (ks.map fun j => .py (rowD (Mv.setK H.known k ⟨t, .here, a, ms⟩ j)))) = houseC (hI b) ks { H with known := Mv.setK H.known k ⟨t, .here, a, ms⟩ } := rfl
    unfold houseT at *
    simp [runF, Fx.Hd.own, Fx.TL.er, Fx.erAll, Fx.TL.get, Fx.TL.put, Fx.gget, Fx.gput, Fx.TL.addrs, Fx.TL.data, Fx.dataAll, Fx.msk, Fx.mulOk, Fx.addF, Fx.subF, Fx.mulF, Fx.fdivF, Fx.modF, Fx.powF, Fx.ltF, Fx.leF, Fx.gtF, Fx.geF, Fx.eqD, Fx.eqF, Fx.neF, Fx.isF, Fx.isntF, Fx.lenF, Fx.kindF, Fx.kitF, Fx.keyF, Fx.ixS, Fx.ixK, Fx.vVar, Fx.vC, Fx.vAt, Fx.dat, Fx.vD, Fx.vS, Fx.vPy, Fx.d2, Fx.dB, Fx.vB, Fx.bV, Fx.child, Fx.kidAt, Fx.vIdx, Fx.vGet, Fx.vFld, Fx.vLen, Fx.kindS, Fx.vIsi, Fx.vIsi2, Fx.aNil, Fx.aCons, Fx.vTup, Fx.nLst, Fx.vFz, Fx.bAnd, Fx.bOr, Fx.bNot, Fx.vIf, Fx.oNo, Fx.oI, Fx.vSlc, Fx.nSlc, Fx.negF, Fx.dNeg, Fx.rLenN, Fx.rIsiN, Fx.rIsiN2, Fx.nDct0, Fx.nDdt0, Fx.lendF, Fx.backF, Fx.headLt, Fx.voidF, Fx.tidy, Fx.callF, Fx.makeF, Fx.fP, Fx.fN, Fx.fB, Fx.rootF, Fx.dropLastF, Fx.fZ, Fx.push, Fx.gNo, Fx.gCo, Fx.fCall, Fx.fMake, Fx.fMeth, Fx.fBin2, Fx.fCmp2, Fx.fAnd, Fx.fOr, Fx.fNot, Fx.fBo, Fx.fMv, Fx.fOn, Fx.sNx, Fx.sBk, Fx.sCt, Fx.sRN, Fx.sSq, Fx.sDr, Fx.sRt, Fx.sIf, Fx.gN, Fx.gT0, Fx.gTC, Fx.gTu, Fx.takeRoot, Fx.sAs, Fx.sAt, Fx.childF, Fx.kidF, Fx.belowF, Fx.putAt, Fx.sFl, Fx.sPu, Fx.sSL, Fx.topPt, Fx.popTm, Fx.pushPt, Fx.sAp, Fx.sEx, Fx.fPop, Fx.sDe, Fx.pyAll, Fx.sEt, Fx.sFo, Fx.sFu, Fx.rngF, Fx.sFr, Fx.shiftS, Fx.lentF, Fx.dCall, Fx.nCall, Fx.iL, Fx.iLn, Fx.iT, Fx.iR, Fx.wipeR, Fx.bYes, Fx.nLc, Fx.boolsF, Fx.allF, Fx.d1, Fx.maxF, Fx.intF, Fx.nCopy, Fx.strsF, Fx.joinF, Fx.sRaise, Fx.intsF, Fx.inF, Fx.sAug, Fx.nDcp, Fx.keyD, Fx.iIt, Fx.nLock, Fx.wNo, Fx.wCo, Fx.vCallR, Fx.vMethR, Fx.key1, Fx.isK1, Fx.fSort1, Fx.fTupOf, Fx.aStar, Fx.nDc, Fx.dTup, Fx.dLst, Fx.gathF, Fx.dispF, Fx.allPy, Fx.popN, Fx.fTup, Fx.fLst, Fx.fDct, Fx.vGet2, Fx.keysF, Fx.kTup, Fx.vGetT2, Fx.vGetT, Fx.sPuT, Fx.sAt2, msk_py, msk_no, msk_pt, List.isPrefixOf, List.cons_prefix_cons, List.nil_prefix, idx_tup, idx_row1, ofString_inj, house_0, house_1, cut2, h1, h2, h, noList, noLists, noLists_marks, hks, er, hI_not, el, ec]
  · have el := el H hL
    rw [if_neg h]
    unfold houseT at *
    simp [runF, Fx.Hd.own, Fx.TL.er, Fx.erAll, Fx.TL.get, Fx.TL.put, Fx.gget, Fx.gput, Fx.TL.addrs, Fx.TL.data, Fx.dataAll, Fx.msk, Fx.mulOk, Fx.addF, Fx.subF, Fx.mulF, Fx.fdivF, Fx.modF, Fx.powF, Fx.ltF, Fx.leF, Fx.gtF, Fx.geF, Fx.eqD, Fx.eqF, Fx.neF, Fx.isF, Fx.isntF, Fx.lenF, Fx.kindF, Fx.kitF, Fx.keyF, Fx.ixS, Fx.ixK, Fx.vVar, Fx.vC, Fx.vAt, Fx.dat, Fx.vD, Fx.vS, Fx.vPy, Fx.d2, Fx.dB, Fx.vB, Fx.bV, Fx.child, Fx.kidAt, Fx.vIdx, Fx.vGet, Fx.vFld, Fx.vLen, Fx.kindS, Fx.vIsi, Fx.vIsi2, Fx.aNil, Fx.aCons, Fx.vTup, Fx.nLst, Fx.vFz, Fx.bAnd, Fx.bOr, Fx.bNot, Fx.vIf, Fx.oNo, Fx.oI, Fx.vSlc, Fx.nSlc, Fx.negF, Fx.dNeg, Fx.rLenN, Fx.rIsiN, Fx.rIsiN2, Fx.nDct0, Fx.nDdt0, Fx.lendF, Fx.backF, Fx.headLt, Fx.voidF, Fx.tidy, Fx.callF, Fx.makeF, Fx.fP, Fx.fN, Fx.fB, Fx.rootF, Fx.dropLastF, Fx.fZ, Fx.push, Fx.gNo, Fx.gCo, Fx.fCall, Fx.fMake, Fx.fMeth, Fx.fBin2, Fx.fCmp2, Fx.fAnd, Fx.fOr, Fx.fNot, Fx.fBo, Fx.fMv, Fx.fOn, Fx.sNx, Fx.sBk, Fx.sCt, Fx.sRN, Fx.sSq, Fx.sDr, Fx.sRt, Fx.sIf, Fx.gN, Fx.gT0, Fx.gTC, Fx.gTu, Fx.takeRoot, Fx.sAs, Fx.sAt, Fx.childF, Fx.kidF, Fx.belowF, Fx.putAt, Fx.sFl, Fx.sPu, Fx.sSL, Fx.topPt, Fx.popTm, Fx.pushPt, Fx.sAp, Fx.sEx, Fx.fPop, Fx.sDe, Fx.pyAll, Fx.sEt, Fx.sFo, Fx.sFu, Fx.rngF, Fx.sFr, Fx.shiftS, Fx.lentF, Fx.dCall, Fx.nCall, Fx.iL, Fx.iLn, Fx.iT, Fx.iR, Fx.wipeR, Fx.bYes, Fx.nLc, Fx.boolsF, Fx.allF, Fx.d1, Fx.maxF, Fx.intF, Fx.nCopy, Fx.strsF, Fx.joinF, Fx.sRaise, Fx.intsF, Fx.inF, Fx.sAug, Fx.nDcp, Fx.keyD, Fx.iIt, Fx.nLock, Fx.wNo, Fx.wCo, Fx.vCallR, Fx.vMethR, Fx.key1, Fx.isK1, Fx.fSort1, Fx.fTupOf, Fx.aStar, Fx.nDc, Fx.dTup, Fx.dLst, Fx.gathF, Fx.dispF, Fx.allPy, Fx.popN, Fx.fTup, Fx.fLst, Fx.fDct, Fx.vGet2, Fx.keysF, Fx.kTup, Fx.vGetT2, Fx.vGetT, Fx.sPuT, Fx.sAt2, msk_py, msk_no, msk_pt, List.isPrefixOf, List.cons_prefix_cons, List.nil_prefix, idx_tup, idx_row1, ofString_inj, house_0, house_1, cut2, h1, h2, h, noList, noLists, noLists_marks, hks, hI_not, el]
theorem taken_came_ok (g : Bool) (m : Int) (ks : List Str) (H : Mv.House Str) (k : Str) (t : Int) (hk : k ∈ ks) (hn : ks.Nodup) (hks : ks.length < 100000) :
   S_House_taken_came [.pt [0], .py (letD (.taken g k t))] [houseT m ks H] = some (.vl (.s (.py .none)) [houseT m ks (H.takenCame k t)]) := by
  obtain ⟨j, h1, h2⟩ := ix_key hk
  have er := set_row H.known ⟨(H.known k).turn, .gone, 0, []⟩ hn h2
  have er : (ks.map fun k => (TL.py (rowD (H.known k)) : T)).set j (.py (.tuple [.str "gone", .int (H.known k).turn, .int 0, .tuple []])) = _ := er
  unfold Mv.House.takenCame
  unfold S_House_taken_came b_House_taken_came
  rw [let_taken]
  by_cases h : (H.known k).st = .owed ∧ t = (H.known k).turn + 1
  · rw [if_pos h]
    have ec : (houseC m ks H).set 1 (.nd () (.dct (ks.map .inr)) (ks.map fun j => .py (rowD (Mv.setK H.known k ⟨(H.known k).turn, .gone, 0, []⟩ j)))) = houseC m ks { H with known := Mv.setK H.known k ⟨(H.known k).turn, .gone, 0, []⟩ } := rfl
    unfold houseT at *
    simp [runF, Fx.Hd.own, Fx.TL.er, Fx.erAll, Fx.TL.get, Fx.TL.put, Fx.gget, Fx.gput, Fx.TL.addrs, Fx.TL.data, Fx.dataAll, Fx.msk, Fx.mulOk, Fx.addF, Fx.subF, Fx.mulF, Fx.fdivF, Fx.modF, Fx.powF, Fx.ltF, Fx.leF, Fx.gtF, Fx.geF, Fx.eqD, Fx.eqF, Fx.neF, Fx.isF, Fx.isntF, Fx.idxF, Fx.lenF, Fx.kindF, Fx.kitF, Fx.keyF, Fx.ixS, Fx.ixK, Fx.vVar, Fx.vC, Fx.vAt, Fx.dat, Fx.vD, Fx.vS, Fx.vPy, Fx.d2, Fx.dB, Fx.vB, Fx.bV, Fx.child, Fx.kidAt, Fx.vIdx, Fx.vGet, Fx.vFld, Fx.vLen, Fx.kindS, Fx.vIsi, Fx.vIsi2, Fx.aNil, Fx.aCons, Fx.vTup, Fx.nLst, Fx.vFz, Fx.bAnd, Fx.bOr, Fx.bNot, Fx.vIf, Fx.oNo, Fx.oI, Fx.vSlc, Fx.nSlc, Fx.negF, Fx.dNeg, Fx.rLenN, Fx.rIsiN, Fx.rIsiN2, Fx.nDct0, Fx.nDdt0, Fx.lendF, Fx.backF, Fx.headLt, Fx.voidF, Fx.tidy, Fx.callF, Fx.makeF, Fx.fP, Fx.fN, Fx.fB, Fx.rootF, Fx.dropLastF, Fx.fZ, Fx.push, Fx.gNo, Fx.gCo, Fx.fCall, Fx.fMake, Fx.fMeth, Fx.fBin2, Fx.fCmp2, Fx.fAnd, Fx.fOr, Fx.fNot, Fx.fBo, Fx.fMv, Fx.fOn, Fx.sNx, Fx.sBk, Fx.sCt, Fx.sRN, Fx.sSq, Fx.sDr, Fx.sRt, Fx.sIf, Fx.gN, Fx.gT0, Fx.gTC, Fx.gTu, Fx.takeRoot, Fx.sAs, Fx.sAt, Fx.childF, Fx.kidF, Fx.belowF, Fx.putAt, Fx.sFl, Fx.sPu, Fx.sSL, Fx.topPt, Fx.popTm, Fx.pushPt, Fx.sAp, Fx.sEx, Fx.fPop, Fx.sDe, Fx.pyAll, Fx.sEt, Fx.sFo, Fx.sFu, Fx.rngF, Fx.sFr, Fx.shiftS, Fx.lentF, Fx.dCall, Fx.nCall, Fx.iL, Fx.iLn, Fx.iT, Fx.iR, Fx.wipeR, Fx.bYes, Fx.nLc, Fx.boolsF, Fx.allF, Fx.d1, Fx.maxF, Fx.intF, Fx.nCopy, Fx.strsF, Fx.joinF, Fx.sRaise, Fx.intsF, Fx.inF, Fx.sAug, Fx.nDcp, Fx.keyD, Fx.iIt, Fx.nLock, Fx.wNo, Fx.wCo, Fx.vCallR, Fx.vMethR, Fx.key1, Fx.isK1, Fx.fSort1, Fx.fTupOf, Fx.aStar, Fx.nDc, Fx.dTup, Fx.dLst, Fx.gathF, Fx.dispF, Fx.allPy, Fx.popN, Fx.fTup, Fx.fLst, Fx.fDct, Fx.vGet2, Fx.keysF, Fx.kTup, Fx.vGetT2, Fx.vGetT, Fx.sPuT, Fx.sAt2, msk_py, msk_no, msk_pt, List.isPrefixOf, List.cons_prefix_cons, List.nil_prefix, row_tup (H.known k), cut2, cutTo2, at0, ofString_inj, house_1, h1, h2, h, stS_owed, noList, noLists, hks, er, ec]
  · rw [if_neg h]
    unfold houseT at *
    by_cases h3 : (H.known k).st = .owed
    · have h4 : ¬ t = (H.known k).turn + 1 := fun z => h ⟨h3, z⟩
      simp [runF, Fx.Hd.own, Fx.TL.er, Fx.erAll, Fx.TL.get, Fx.TL.put, Fx.gget, Fx.gput, Fx.TL.addrs, Fx.TL.data, Fx.dataAll, Fx.msk, Fx.mulOk, Fx.addF, Fx.subF, Fx.mulF, Fx.fdivF, Fx.modF, Fx.powF, Fx.ltF, Fx.leF, Fx.gtF, Fx.geF, Fx.eqD, Fx.eqF, Fx.neF, Fx.isF, Fx.isntF, Fx.idxF, Fx.lenF, Fx.kindF, Fx.kitF, Fx.keyF, Fx.ixS, Fx.ixK, Fx.vVar, Fx.vC, Fx.vAt, Fx.dat, Fx.vD, Fx.vS, Fx.vPy, Fx.d2, Fx.dB, Fx.vB, Fx.bV, Fx.child, Fx.kidAt, Fx.vIdx, Fx.vGet, Fx.vFld, Fx.vLen, Fx.kindS, Fx.vIsi, Fx.vIsi2, Fx.aNil, Fx.aCons, Fx.vTup, Fx.nLst, Fx.vFz, Fx.bAnd, Fx.bOr, Fx.bNot, Fx.vIf, Fx.oNo, Fx.oI, Fx.vSlc, Fx.nSlc, Fx.negF, Fx.dNeg, Fx.rLenN, Fx.rIsiN, Fx.rIsiN2, Fx.nDct0, Fx.nDdt0, Fx.lendF, Fx.backF, Fx.headLt, Fx.voidF, Fx.tidy, Fx.callF, Fx.makeF, Fx.fP, Fx.fN, Fx.fB, Fx.rootF, Fx.dropLastF, Fx.fZ, Fx.push, Fx.gNo, Fx.gCo, Fx.fCall, Fx.fMake, Fx.fMeth, Fx.fBin2, Fx.fCmp2, Fx.fAnd, Fx.fOr, Fx.fNot, Fx.fBo, Fx.fMv, Fx.fOn, Fx.sNx, Fx.sBk, Fx.sCt, Fx.sRN, Fx.sSq, Fx.sDr, Fx.sRt, Fx.sIf, Fx.gN, Fx.gT0, Fx.gTC, Fx.gTu, Fx.takeRoot, Fx.sAs, Fx.sAt, Fx.childF, Fx.kidF, Fx.belowF, Fx.putAt, Fx.sFl, Fx.sPu, Fx.sSL, Fx.topPt, Fx.popTm, Fx.pushPt, Fx.sAp, Fx.sEx, Fx.fPop, Fx.sDe, Fx.pyAll, Fx.sEt, Fx.sFo, Fx.sFu, Fx.rngF, Fx.sFr, Fx.shiftS, Fx.lentF, Fx.dCall, Fx.nCall, Fx.iL, Fx.iLn, Fx.iT, Fx.iR, Fx.wipeR, Fx.bYes, Fx.nLc, Fx.boolsF, Fx.allF, Fx.d1, Fx.maxF, Fx.intF, Fx.nCopy, Fx.strsF, Fx.joinF, Fx.sRaise, Fx.intsF, Fx.inF, Fx.sAug, Fx.nDcp, Fx.keyD, Fx.iIt, Fx.nLock, Fx.wNo, Fx.wCo, Fx.vCallR, Fx.vMethR, Fx.key1, Fx.isK1, Fx.fSort1, Fx.fTupOf, Fx.aStar, Fx.nDc, Fx.dTup, Fx.dLst, Fx.gathF, Fx.dispF, Fx.allPy, Fx.popN, Fx.fTup, Fx.fLst, Fx.fDct, Fx.vGet2, Fx.keysF, Fx.kTup, Fx.vGetT2, Fx.vGetT, Fx.sPuT, Fx.sAt2, msk_py, msk_no, msk_pt, List.isPrefixOf, List.cons_prefix_cons, List.nil_prefix, row_tup (H.known k), cut2, cutTo2, at0, ofString_inj, house_1, h1, h2, h3, h4, stS_owed, stS, noList, noLists, hks]
    · simp [runF, Fx.Hd.own, Fx.TL.er, Fx.erAll, Fx.TL.get, Fx.TL.put, Fx.gget, Fx.gput, Fx.TL.addrs, Fx.TL.data, Fx.dataAll, Fx.msk, Fx.mulOk, Fx.addF, Fx.subF, Fx.mulF, Fx.fdivF, Fx.modF, Fx.powF, Fx.ltF, Fx.leF, Fx.gtF, Fx.geF, Fx.eqD, Fx.eqF, Fx.neF, Fx.isF, Fx.isntF, Fx.idxF, Fx.lenF, Fx.kindF, Fx.kitF, Fx.keyF, Fx.ixS, Fx.ixK, Fx.vVar, Fx.vC, Fx.vAt, Fx.dat, Fx.vD, Fx.vS, Fx.vPy, Fx.d2, Fx.dB, Fx.vB, Fx.bV, Fx.child, Fx.kidAt, Fx.vIdx, Fx.vGet, Fx.vFld, Fx.vLen, Fx.kindS, Fx.vIsi, Fx.vIsi2, Fx.aNil, Fx.aCons, Fx.vTup, Fx.nLst, Fx.vFz, Fx.bAnd, Fx.bOr, Fx.bNot, Fx.vIf, Fx.oNo, Fx.oI, Fx.vSlc, Fx.nSlc, Fx.negF, Fx.dNeg, Fx.rLenN, Fx.rIsiN, Fx.rIsiN2, Fx.nDct0, Fx.nDdt0, Fx.lendF, Fx.backF, Fx.headLt, Fx.voidF, Fx.tidy, Fx.callF, Fx.makeF, Fx.fP, Fx.fN, Fx.fB, Fx.rootF, Fx.dropLastF, Fx.fZ, Fx.push, Fx.gNo, Fx.gCo, Fx.fCall, Fx.fMake, Fx.fMeth, Fx.fBin2, Fx.fCmp2, Fx.fAnd, Fx.fOr, Fx.fNot, Fx.fBo, Fx.fMv, Fx.fOn, Fx.sNx, Fx.sBk, Fx.sCt, Fx.sRN, Fx.sSq, Fx.sDr, Fx.sRt, Fx.sIf, Fx.gN, Fx.gT0, Fx.gTC, Fx.gTu, Fx.takeRoot, Fx.sAs, Fx.sAt, Fx.childF, Fx.kidF, Fx.belowF, Fx.putAt, Fx.sFl, Fx.sPu, Fx.sSL, Fx.topPt, Fx.popTm, Fx.pushPt, Fx.sAp, Fx.sEx, Fx.fPop, Fx.sDe, Fx.pyAll, Fx.sEt, Fx.sFo, Fx.sFu, Fx.rngF, Fx.sFr, Fx.shiftS, Fx.lentF, Fx.dCall, Fx.nCall, Fx.iL, Fx.iLn, Fx.iT, Fx.iR, Fx.wipeR, Fx.bYes, Fx.nLc, Fx.boolsF, Fx.allF, Fx.d1, Fx.maxF, Fx.intF, Fx.nCopy, Fx.strsF, Fx.joinF, Fx.sRaise, Fx.intsF, Fx.inF, Fx.sAug, Fx.nDcp, Fx.keyD, Fx.iIt, Fx.nLock, Fx.wNo, Fx.wCo, Fx.vCallR, Fx.vMethR, Fx.key1, Fx.isK1, Fx.fSort1, Fx.fTupOf, Fx.aStar, Fx.nDc, Fx.dTup, Fx.dLst, Fx.gathF, Fx.dispF, Fx.allPy, Fx.popN, Fx.fTup, Fx.fLst, Fx.fDct, Fx.vGet2, Fx.keysF, Fx.kTup, Fx.vGetT2, Fx.vGetT, Fx.sPuT, Fx.sAt2, msk_py, msk_no, msk_pt, List.isPrefixOf, List.cons_prefix_cons, List.nil_prefix, row_tup (H.known k), cut2, cutTo2, at0, ofString_inj, house_1, h1, h2, h3, stS_owed, noList, noLists, hks]
end Mo


namespace Mo
open PySem L2 Fx
open Mv (Mark Row LRow Letter)
/-- numbers that let a letter in -/
structure Fit (ks : List Str) (H : Mv.House Str) : Prop where
  nd : ks.Nodup
  len : ks.length < 100000
  laid : H.laid.length < 100000
  fresh : H.fresh.length < 100000
/-- the house behind a letter -/
def brought (b : Bool) (H : Mv.House Str) : Letter Str → Mv.House Str
  | .call _ c n k w => H.called c n k w
  | .parcel _ k t a ms => H.parcelCame b k t a ms
  | .taken _ k t => H.takenCame k t
  | .answer _ _ _ => H
def LetIn (ks : List Str) (H : Mv.House Str) : Letter Str → Prop
  | .call _ c n k w => k ∈ ks ∧ Mv.Rising (H.known k).marks ∧ (H.known k).marks.length < 900 ∧ 1 ≤ n
  | .parcel _ k t a ms => k ∈ ks
  | .taken _ k t => k ∈ ks
  | .answer _ _ _ => True
theorem idx_letter (l : Letter Str) : idxF (letD l) (.int 0) = some (.str (match l with | .call _ _ _ _ _ => "call" | .answer _ _ _ => "answer" | .parcel _ _ _ _ _ => "parcel" | .taken _ _ _ => "taken")) := by
  cases l <;> exact at0 _ _
theorem came_ok (b : Bool) (ks : List Str) (H : Mv.House Str) (l : Letter Str) (hF : Fit ks H) (hl : LetIn ks H l) : S_House_came [.pt [0], .py (letD l)] [houseT (hI b) ks H] = some (.vl (.s (.py .none)) [houseT (hI b) ks (brought b H l)]) := by
  have ei := idx_letter l
  unfold S_House_came b_House_came
  cases l with
  | call g c n k w =>
    have e := call_came_ok g (hI b) ks H c n k w hl.1 hF.nd hF.len hF.fresh hF.laid hl.2.1 hl.2.2.1 hl.2.2.2
    unfold houseT at *
    simp only at ei
    simp [runF, Fx.Hd.own, Fx.TL.er, Fx.erAll, Fx.TL.get, Fx.TL.put, Fx.gget, Fx.gput, Fx.TL.addrs, Fx.TL.data, Fx.dataAll, Fx.msk, Fx.mulOk, Fx.addF, Fx.subF, Fx.mulF, Fx.fdivF, Fx.modF, Fx.powF, Fx.ltF, Fx.leF, Fx.gtF, Fx.geF, Fx.eqD, Fx.eqF, Fx.neF, Fx.isF, Fx.isntF, Fx.lenF, Fx.kindF, Fx.kitF, Fx.keyF, Fx.ixS, Fx.ixK, Fx.vVar, Fx.vC, Fx.vAt, Fx.dat, Fx.vD, Fx.vS, Fx.vPy, Fx.d2, Fx.dB, Fx.vB, Fx.bV, Fx.child, Fx.kidAt, Fx.vIdx, Fx.vGet, Fx.vFld, Fx.vLen, Fx.kindS, Fx.vIsi, Fx.vIsi2, Fx.aNil, Fx.aCons, Fx.vTup, Fx.nLst, Fx.vFz, Fx.bAnd, Fx.bOr, Fx.bNot, Fx.vIf, Fx.oNo, Fx.oI, Fx.cutF, Fx.vSlc, Fx.nSlc, Fx.negF, Fx.dNeg, Fx.rLenN, Fx.rIsiN, Fx.rIsiN2, Fx.nDct0, Fx.nDdt0, Fx.lendF, Fx.backF, Fx.headLt, Fx.voidF, Fx.tidy, Fx.callF, Fx.makeF, Fx.fP, Fx.fN, Fx.fB, Fx.rootF, Fx.dropLastF, Fx.fZ, Fx.push, Fx.gNo, Fx.gCo, Fx.fCall, Fx.fMake, Fx.fMeth, Fx.fBin2, Fx.fCmp2, Fx.fAnd, Fx.fOr, Fx.fNot, Fx.fBo, Fx.fMv, Fx.fOn, Fx.sNx, Fx.sBk, Fx.sCt, Fx.sRN, Fx.sSq, Fx.sDr, Fx.sRt, Fx.sIf, Fx.gN, Fx.gT0, Fx.gTC, Fx.gTu, Fx.takeRoot, Fx.sAs, Fx.sAt, Fx.childF, Fx.kidF, Fx.belowF, Fx.putAt, Fx.sFl, Fx.sPu, Fx.sSL, Fx.topPt, Fx.popTm, Fx.pushPt, Fx.sAp, Fx.sEx, Fx.fPop, Fx.sDe, Fx.pyAll, Fx.sEt, Fx.sFo, Fx.sFu, Fx.rngF, Fx.sFr, Fx.shiftS, Fx.lentF, Fx.dCall, Fx.nCall, Fx.iL, Fx.iLn, Fx.iT, Fx.iR, Fx.wipeR, Fx.bYes, Fx.nLc, Fx.boolsF, Fx.allF, Fx.d1, Fx.maxF, Fx.intF, Fx.nCopy, Fx.strsF, Fx.joinF, Fx.sRaise, Fx.intsF, Fx.inF, Fx.sAug, Fx.nDcp, Fx.keyD, Fx.iIt, Fx.nLock, Fx.wNo, Fx.wCo, Fx.vCallR, Fx.vMethR, Fx.key1, Fx.isK1, Fx.fSort1, Fx.fTupOf, Fx.aStar, Fx.nDc, Fx.dTup, Fx.dLst, Fx.gathF, Fx.dispF, Fx.allPy, Fx.popN, Fx.fTup, Fx.fLst, Fx.fDct, Fx.vGet2, Fx.keysF, Fx.kTup, Fx.vGetT2, Fx.vGetT, Fx.sPuT, Fx.sAt2, msk_py, msk_no, msk_pt, List.isPrefixOf, List.cons_prefix_cons, List.nil_prefix, ei, ofString_inj, e, brought]
  | parcel g k t a ms =>
    have e := parcel_came_ok g b ks H k t a ms hl hF.nd hF.len hF.laid
    unfold houseT at *
    simp only at ei
    simp [runF, Fx.Hd.own, Fx.TL.er, Fx.erAll, Fx.TL.get, Fx.TL.put, Fx.gget, Fx.gput, Fx.TL.addrs, Fx.TL.data, Fx.dataAll, Fx.msk, Fx.mulOk, Fx.addF, Fx.subF, Fx.mulF, Fx.fdivF, Fx.modF, Fx.powF, Fx.ltF, Fx.leF, Fx.gtF, Fx.geF, Fx.eqD, Fx.eqF, Fx.neF, Fx.isF, Fx.isntF, Fx.lenF, Fx.kindF, Fx.kitF, Fx.keyF, Fx.ixS, Fx.ixK, Fx.vVar, Fx.vC, Fx.vAt, Fx.dat, Fx.vD, Fx.vS, Fx.vPy, Fx.d2, Fx.dB, Fx.vB, Fx.bV, Fx.child, Fx.kidAt, Fx.vIdx, Fx.vGet, Fx.vFld, Fx.vLen, Fx.kindS, Fx.vIsi, Fx.vIsi2, Fx.aNil, Fx.aCons, Fx.vTup, Fx.nLst, Fx.vFz, Fx.bAnd, Fx.bOr, Fx.bNot, Fx.vIf, Fx.oNo, Fx.oI, Fx.cutF, Fx.vSlc, Fx.nSlc, Fx.negF, Fx.dNeg, Fx.rLenN, Fx.rIsiN, Fx.rIsiN2, Fx.nDct0, Fx.nDdt0, Fx.lendF, Fx.backF, Fx.headLt, Fx.voidF, Fx.tidy, Fx.callF, Fx.makeF, Fx.fP, Fx.fN, Fx.fB, Fx.rootF, Fx.dropLastF, Fx.fZ, Fx.push, Fx.gNo, Fx.gCo, Fx.fCall, Fx.fMake, Fx.fMeth, Fx.fBin2, Fx.fCmp2, Fx.fAnd, Fx.fOr, Fx.fNot, Fx.fBo, Fx.fMv, Fx.fOn, Fx.sNx, Fx.sBk, Fx.sCt, Fx.sRN, Fx.sSq, Fx.sDr, Fx.sRt, Fx.sIf, Fx.gN, Fx.gT0, Fx.gTC, Fx.gTu, Fx.takeRoot, Fx.sAs, Fx.sAt, Fx.childF, Fx.kidF, Fx.belowF, Fx.putAt, Fx.sFl, Fx.sPu, Fx.sSL, Fx.topPt, Fx.popTm, Fx.pushPt, Fx.sAp, Fx.sEx, Fx.fPop, Fx.sDe, Fx.pyAll, Fx.sEt, Fx.sFo, Fx.sFu, Fx.rngF, Fx.sFr, Fx.shiftS, Fx.lentF, Fx.dCall, Fx.nCall, Fx.iL, Fx.iLn, Fx.iT, Fx.iR, Fx.wipeR, Fx.bYes, Fx.nLc, Fx.boolsF, Fx.allF, Fx.d1, Fx.maxF, Fx.intF, Fx.nCopy, Fx.strsF, Fx.joinF, Fx.sRaise, Fx.intsF, Fx.inF, Fx.sAug, Fx.nDcp, Fx.keyD, Fx.iIt, Fx.nLock, Fx.wNo, Fx.wCo, Fx.vCallR, Fx.vMethR, Fx.key1, Fx.isK1, Fx.fSort1, Fx.fTupOf, Fx.aStar, Fx.nDc, Fx.dTup, Fx.dLst, Fx.gathF, Fx.dispF, Fx.allPy, Fx.popN, Fx.fTup, Fx.fLst, Fx.fDct, Fx.vGet2, Fx.keysF, Fx.kTup, Fx.vGetT2, Fx.vGetT, Fx.sPuT, Fx.sAt2, msk_py, msk_no, msk_pt, List.isPrefixOf, List.cons_prefix_cons, List.nil_prefix, ei, ofString_inj, e, brought]
  | taken g k t =>
    have e := taken_came_ok g (hI b) ks H k t hl hF.nd hF.len
    unfold houseT at *
    simp only at ei
    simp [runF, Fx.Hd.own, Fx.TL.er, Fx.erAll, Fx.TL.get, Fx.TL.put, Fx.gget, Fx.gput, Fx.TL.addrs, Fx.TL.data, Fx.dataAll, Fx.msk, Fx.mulOk, Fx.addF, Fx.subF, Fx.mulF, Fx.fdivF, Fx.modF, Fx.powF, Fx.ltF, Fx.leF, Fx.gtF, Fx.geF, Fx.eqD, Fx.eqF, Fx.neF, Fx.isF, Fx.isntF, Fx.lenF, Fx.kindF, Fx.kitF, Fx.keyF, Fx.ixS, Fx.ixK, Fx.vVar, Fx.vC, Fx.vAt, Fx.dat, Fx.vD, Fx.vS, Fx.vPy, Fx.d2, Fx.dB, Fx.vB, Fx.bV, Fx.child, Fx.kidAt, Fx.vIdx, Fx.vGet, Fx.vFld, Fx.vLen, Fx.kindS, Fx.vIsi, Fx.vIsi2, Fx.aNil, Fx.aCons, Fx.vTup, Fx.nLst, Fx.vFz, Fx.bAnd, Fx.bOr, Fx.bNot, Fx.vIf, Fx.oNo, Fx.oI, Fx.cutF, Fx.vSlc, Fx.nSlc, Fx.negF, Fx.dNeg, Fx.rLenN, Fx.rIsiN, Fx.rIsiN2, Fx.nDct0, Fx.nDdt0, Fx.lendF, Fx.backF, Fx.headLt, Fx.voidF, Fx.tidy, Fx.callF, Fx.makeF, Fx.fP, Fx.fN, Fx.fB, Fx.rootF, Fx.dropLastF, Fx.fZ, Fx.push, Fx.gNo, Fx.gCo, Fx.fCall, Fx.fMake, Fx.fMeth, Fx.fBin2, Fx.fCmp2, Fx.fAnd, Fx.fOr, Fx.fNot, Fx.fBo, Fx.fMv, Fx.fOn, Fx.sNx, Fx.sBk, Fx.sCt, Fx.sRN, Fx.sSq, Fx.sDr, Fx.sRt, Fx.sIf, Fx.gN, Fx.gT0, Fx.gTC, Fx.gTu, Fx.takeRoot, Fx.sAs, Fx.sAt, Fx.childF, Fx.kidF, Fx.belowF, Fx.putAt, Fx.sFl, Fx.sPu, Fx.sSL, Fx.topPt, Fx.popTm, Fx.pushPt, Fx.sAp, Fx.sEx, Fx.fPop, Fx.sDe, Fx.pyAll, Fx.sEt, Fx.sFo, Fx.sFu, Fx.rngF, Fx.sFr, Fx.shiftS, Fx.lentF, Fx.dCall, Fx.nCall, Fx.iL, Fx.iLn, Fx.iT, Fx.iR, Fx.wipeR, Fx.bYes, Fx.nLc, Fx.boolsF, Fx.allF, Fx.d1, Fx.maxF, Fx.intF, Fx.nCopy, Fx.strsF, Fx.joinF, Fx.sRaise, Fx.intsF, Fx.inF, Fx.sAug, Fx.nDcp, Fx.keyD, Fx.iIt, Fx.nLock, Fx.wNo, Fx.wCo, Fx.vCallR, Fx.vMethR, Fx.key1, Fx.isK1, Fx.fSort1, Fx.fTupOf, Fx.aStar, Fx.nDc, Fx.dTup, Fx.dLst, Fx.gathF, Fx.dispF, Fx.allPy, Fx.popN, Fx.fTup, Fx.fLst, Fx.fDct, Fx.vGet2, Fx.keysF, Fx.kTup, Fx.vGetT2, Fx.vGetT, Fx.sPuT, Fx.sAt2, msk_py, msk_no, msk_pt, List.isPrefixOf, List.cons_prefix_cons, List.nil_prefix, ei, ofString_inj, e, brought]
  | answer c n t =>
    unfold houseT at *
    simp only at ei
    simp [runF, Fx.Hd.own, Fx.TL.er, Fx.erAll, Fx.TL.get, Fx.TL.put, Fx.gget, Fx.gput, Fx.TL.addrs, Fx.TL.data, Fx.dataAll, Fx.msk, Fx.mulOk, Fx.addF, Fx.subF, Fx.mulF, Fx.fdivF, Fx.modF, Fx.powF, Fx.ltF, Fx.leF, Fx.gtF, Fx.geF, Fx.eqD, Fx.eqF, Fx.neF, Fx.isF, Fx.isntF, Fx.lenF, Fx.kindF, Fx.kitF, Fx.keyF, Fx.ixS, Fx.ixK, Fx.vVar, Fx.vC, Fx.vAt, Fx.dat, Fx.vD, Fx.vS, Fx.vPy, Fx.d2, Fx.dB, Fx.vB, Fx.bV, Fx.child, Fx.kidAt, Fx.vIdx, Fx.vGet, Fx.vFld, Fx.vLen, Fx.kindS, Fx.vIsi, Fx.vIsi2, Fx.aNil, Fx.aCons, Fx.vTup, Fx.nLst, Fx.vFz, Fx.bAnd, Fx.bOr, Fx.bNot, Fx.vIf, Fx.oNo, Fx.oI, Fx.cutF, Fx.vSlc, Fx.nSlc, Fx.negF, Fx.dNeg, Fx.rLenN, Fx.rIsiN, Fx.rIsiN2, Fx.nDct0, Fx.nDdt0, Fx.lendF, Fx.backF, Fx.headLt, Fx.voidF, Fx.tidy, Fx.callF, Fx.makeF, Fx.fP, Fx.fN, Fx.fB, Fx.rootF, Fx.dropLastF, Fx.fZ, Fx.push, Fx.gNo, Fx.gCo, Fx.fCall, Fx.fMake, Fx.fMeth, Fx.fBin2, Fx.fCmp2, Fx.fAnd, Fx.fOr, Fx.fNot, Fx.fBo, Fx.fMv, Fx.fOn, Fx.sNx, Fx.sBk, Fx.sCt, Fx.sRN, Fx.sSq, Fx.sDr, Fx.sRt, Fx.sIf, Fx.gN, Fx.gT0, Fx.gTC, Fx.gTu, Fx.takeRoot, Fx.sAs, Fx.sAt, Fx.childF, Fx.kidF, Fx.belowF, Fx.putAt, Fx.sFl, Fx.sPu, Fx.sSL, Fx.topPt, Fx.popTm, Fx.pushPt, Fx.sAp, Fx.sEx, Fx.fPop, Fx.sDe, Fx.pyAll, Fx.sEt, Fx.sFo, Fx.sFu, Fx.rngF, Fx.sFr, Fx.shiftS, Fx.lentF, Fx.dCall, Fx.nCall, Fx.iL, Fx.iLn, Fx.iT, Fx.iR, Fx.wipeR, Fx.bYes, Fx.nLc, Fx.boolsF, Fx.allF, Fx.d1, Fx.maxF, Fx.intF, Fx.nCopy, Fx.strsF, Fx.joinF, Fx.sRaise, Fx.intsF, Fx.inF, Fx.sAug, Fx.nDcp, Fx.keyD, Fx.iIt, Fx.nLock, Fx.wNo, Fx.wCo, Fx.vCallR, Fx.vMethR, Fx.key1, Fx.isK1, Fx.fSort1, Fx.fTupOf, Fx.aStar, Fx.nDc, Fx.dTup, Fx.dLst, Fx.gathF, Fx.dispF, Fx.allPy, Fx.popN, Fx.fTup, Fx.fLst, Fx.fDct, Fx.vGet2, Fx.keysF, Fx.kTup, Fx.vGetT2, Fx.vGetT, Fx.sPuT, Fx.sAt2, msk_py, msk_no, msk_pt, List.isPrefixOf, List.cons_prefix_cons, List.nil_prefix, ei, ofString_inj, brought]
theorem pyAll_rows (ks : List Str) (f : Str → Row) : pyAll (ks.map fun k => (TL.py (rowD (f k)) : T)) = some (ks.map fun k => rowD (f k)) := by
  have := pyAll_py (ks.map fun k => rowD (f k))
  rw [List.map_map] at this
  exact this
def wroteT (H : Mv.House Str) : T := .nd () .tup [.nd () .lst (H.laid.map fun l => .py (letD l)), .nd () .lst (H.fresh.map fun r => .py (lrD r))]
theorem write_ok (m : Int) (ks : List Str) (H : Mv.House Str) : S_House_write [.pt [0]] [houseT m ks H] = some (.vl .own [houseT m ks H.wrote, wroteT H]) := by
  have ep := pyAll_rows ks H.known
  unfold S_House_write b_House_write houseT houseC Mv.House.wrote wroteT
  generalize hK : (ks.map fun k => (TL.py (rowD (H.known k)) : T)) = X at *
  generalize (H.laid.map fun l => (TL.py (letD l) : T)) = L
  generalize (H.fresh.map fun l => (TL.py (lrD l) : T)) = N
  generalize (ks.map fun k => (TL.py (rowD (H.written k)) : T)) = Wr
  have e2 : (ks.map fun k => rowD (H.known k)).map (TL.py : PyData → T) = X := by rw [← hK, List.map_map]; rfl
  simp [runF, Fx.Hd.own, Fx.TL.er, Fx.erAll, Fx.TL.get, Fx.TL.put, Fx.gget, Fx.gput, Fx.TL.addrs, Fx.TL.data, Fx.dataAll, Fx.msk, Fx.mulOk, Fx.addF, Fx.subF, Fx.mulF, Fx.fdivF, Fx.modF, Fx.powF, Fx.ltF, Fx.leF, Fx.gtF, Fx.geF, Fx.eqD, Fx.eqF, Fx.neF, Fx.isF, Fx.isntF, Fx.idxF, Fx.lenF, Fx.kindF, Fx.kitF, Fx.keyF, Fx.ixS, Fx.ixK, Fx.vVar, Fx.vC, Fx.vAt, Fx.dat, Fx.vD, Fx.vS, Fx.vPy, Fx.d2, Fx.dB, Fx.vB, Fx.bV, Fx.child, Fx.kidAt, Fx.vIdx, Fx.vGet, Fx.vFld, Fx.vLen, Fx.kindS, Fx.vIsi, Fx.vIsi2, Fx.aNil, Fx.aCons, Fx.vTup, Fx.nLst, Fx.vFz, Fx.bAnd, Fx.bOr, Fx.bNot, Fx.vIf, Fx.oNo, Fx.oI, Fx.cutF, Fx.vSlc, Fx.nSlc, Fx.negF, Fx.dNeg, Fx.rLenN, Fx.rIsiN, Fx.rIsiN2, Fx.nDct0, Fx.nDdt0, Fx.lendF, Fx.backF, Fx.headLt, Fx.voidF, Fx.tidy, Fx.callF, Fx.makeF, Fx.fP, Fx.fN, Fx.fB, Fx.rootF, Fx.dropLastF, Fx.fZ, Fx.push, Fx.gNo, Fx.gCo, Fx.fCall, Fx.fMake, Fx.fMeth, Fx.fBin2, Fx.fCmp2, Fx.fAnd, Fx.fOr, Fx.fNot, Fx.fBo, Fx.fMv, Fx.fOn, Fx.sNx, Fx.sBk, Fx.sCt, Fx.sRN, Fx.sSq, Fx.sDr, Fx.sRt, Fx.sIf, Fx.gN, Fx.gT0, Fx.gTC, Fx.gTu, Fx.takeRoot, Fx.sAs, Fx.sAt, Fx.childF, Fx.kidF, Fx.belowF, Fx.putAt, Fx.sFl, Fx.sPu, Fx.sSL, Fx.topPt, Fx.popTm, Fx.pushPt, Fx.sAp, Fx.sEx, Fx.fPop, Fx.sDe, Fx.pyAll, Fx.sEt, Fx.sFo, Fx.sFu, Fx.rngF, Fx.sFr, Fx.shiftS, Fx.lentF, Fx.dCall, Fx.nCall, Fx.iL, Fx.iLn, Fx.iT, Fx.iR, Fx.wipeR, Fx.bYes, Fx.nLc, Fx.boolsF, Fx.allF, Fx.d1, Fx.maxF, Fx.intF, Fx.nCopy, Fx.strsF, Fx.joinF, Fx.sRaise, Fx.intsF, Fx.inF, Fx.sAug, Fx.nDcp, Fx.keyD, Fx.iIt, Fx.nLock, Fx.wNo, Fx.wCo, Fx.vCallR, Fx.vMethR, Fx.key1, Fx.isK1, Fx.fSort1, Fx.fTupOf, Fx.aStar, Fx.nDc, Fx.dTup, Fx.dLst, Fx.gathF, Fx.dispF, Fx.allPy, Fx.popN, Fx.fTup, Fx.fLst, Fx.fDct, Fx.vGet2, Fx.keysF, Fx.kTup, Fx.vGetT2, Fx.vGetT, Fx.sPuT, Fx.sAt2, msk_py, msk_no, msk_pt, List.isPrefixOf, List.cons_prefix_cons, List.nil_prefix, ofString_inj, ep, hK, e2]
end Mo


namespace Mo
open PySem L2 Fx
open Mv (Mark Row LRow Letter)
theorem collect_of {α : Type} {tg : Sv → Rh → Option Rh} {c : Rh → Option Bool} {e : Rh → Option Sv} {ρ : Rh} {v : α → PyData} {p : α → Bool} {f : α → PyData} : ∀ (ds : List α), (∀ d ∈ ds, ∃ ρ1, tg (.py (v d)) ρ = some ρ1 ∧ c ρ1 = some (p d) ∧ (p d = true → e ρ1 = some (.py (f d)))) → collect tg c e ρ (ds.map v) = some ((ds.filter p).map f)
  | [], _ => rfl
  | d :: ds, h => by
    obtain ⟨ρ1, h1, h2, h3⟩ := h d (by simp)
    have ih := collect_of ds fun x hx => h x (by simp [hx])
    cases hp : p d with
    | true => simp [Fx.collect, h1, h2, hp, h3 hp, ih]
    | false => simp [Fx.collect, h1, h2, hp, ih]
theorem items_of (ks : List Str) (f : Str → Row) : ((ks.map (Sum.inr : Str → Key)).zip (ks.map fun k => rowD (f k))).map (fun kd => (.tuple [keyD kd.1, kd.2] : PyData)) = ks.map fun k => .tuple [.str k, rowD (f k)] := by
  induction ks with
  | nil => rfl
  | cons k r ih => simp only [List.map_cons, List.zip_cons_cons, ih]; rfl
theorem owes_ok (m : Int) (ks : List Str) (H : Mv.House Str) (hF : ks.length < 100000) : S_House_owes [.pt [0]] [houseT m ks H] = some (.vl .own [houseT m ks H, .nd () .lst ((H.owes ks).map fun k => .py (.str k))]) := by
  have ep := pyAll_rows ks H.known
  have ez := items_of ks H.known
  have e1 : ∀ cs, h_House_owes_1 ⟨[some (.pt [3]), none, none], [], [.un (), .un (), .un (), .nd () (.ins "House" ["number", "known", "written", "laid_out", "new_rows"]) (.py (.int m) :: .nd () (.lok (ks.map .inr)) (ks.map fun k => .py (rowD (H.known k))) :: cs)], 4⟩ = some (.lst, (H.owes ks).map .str) := by
    intro cs
    unfold h_House_owes_1
    have hc : Fx.collect (gTu 2 (gTC (gN 1) (gTC (gN 2) gT0))) (dB eqF (vD (vIdx (vVar 2) (vPy (vC (.int 0))))) (vPy (vC (.str "owed")))) (vVar 1) ⟨[some (.pt [3]), none, none], [], [.un (), .un (), .un (), .nd () (.ins "House" ["number", "known", "written", "laid_out", "new_rows"]) (.py (.int m) :: .nd () (.lok (ks.map .inr)) (ks.map fun k => .py (rowD (H.known k))) :: cs)], 4⟩ (ks.map fun k => .tuple [.str k, rowD (H.known k)]) = some ((H.owes ks).map .str) := by
      unfold Mv.House.owes
      refine collect_of ks fun k _ => ⟨_, by simp [Fx.Hd.own, Fx.TL.er, Fx.erAll, Fx.TL.get, Fx.TL.put, Fx.gget, Fx.gput, Fx.TL.addrs, Fx.TL.data, Fx.dataAll, Fx.msk, Fx.mulOk, Fx.addF, Fx.subF, Fx.mulF, Fx.fdivF, Fx.modF, Fx.powF, Fx.ltF, Fx.leF, Fx.gtF, Fx.geF, Fx.eqD, Fx.eqF, Fx.neF, Fx.isF, Fx.isntF, Fx.idxF, Fx.lenF, Fx.kindF, Fx.kitF, Fx.keyF, Fx.ixS, Fx.ixK, Fx.vVar, Fx.vC, Fx.vAt, Fx.dat, Fx.vD, Fx.vS, Fx.vPy, Fx.d2, Fx.dB, Fx.vB, Fx.bV, Fx.child, Fx.kidAt, Fx.vIdx, Fx.vGet, Fx.vFld, Fx.vLen, Fx.kindS, Fx.vIsi, Fx.vIsi2, Fx.aNil, Fx.aCons, Fx.vTup, Fx.nLst, Fx.vFz, Fx.bAnd, Fx.bOr, Fx.bNot, Fx.vIf, Fx.oNo, Fx.oI, Fx.cutF, Fx.vSlc, Fx.nSlc, Fx.negF, Fx.dNeg, Fx.rLenN, Fx.rIsiN, Fx.rIsiN2, Fx.nDct0, Fx.nDdt0, Fx.lendF, Fx.backF, Fx.headLt, Fx.voidF, Fx.tidy, Fx.callF, Fx.makeF, Fx.fP, Fx.fN, Fx.fB, Fx.rootF, Fx.dropLastF, Fx.fZ, Fx.push, Fx.gNo, Fx.gCo, Fx.fCall, Fx.fMake, Fx.fMeth, Fx.fBin2, Fx.fCmp2, Fx.fAnd, Fx.fOr, Fx.fNot, Fx.fBo, Fx.fMv, Fx.fOn, Fx.sNx, Fx.sBk, Fx.sCt, Fx.sRN, Fx.sSq, Fx.sDr, Fx.sRt, Fx.sIf, Fx.gN, Fx.gT0, Fx.gTC, Fx.gTu, Fx.takeRoot, Fx.sAs, Fx.sAt, Fx.childF, Fx.kidF, Fx.belowF, Fx.putAt, Fx.sFl, Fx.sPu, Fx.sSL, Fx.topPt, Fx.popTm, Fx.pushPt, Fx.sAp, Fx.sEx, Fx.fPop, Fx.sDe, Fx.pyAll, Fx.sEt, Fx.sFo, Fx.sFu, Fx.rngF, Fx.sFr, Fx.shiftS, Fx.lentF, Fx.dCall, Fx.nCall, Fx.iL, Fx.iLn, Fx.iT, Fx.iR, Fx.wipeR, Fx.bYes, Fx.nLc, Fx.boolsF, Fx.allF, Fx.d1, Fx.maxF, Fx.intF, Fx.nCopy, Fx.strsF, Fx.joinF, Fx.sRaise, Fx.intsF, Fx.inF, Fx.sAug, Fx.nDcp, Fx.keyD, Fx.iIt, Fx.nLock, Fx.wNo, Fx.wCo, Fx.vCallR, Fx.vMethR, Fx.key1, Fx.isK1, Fx.fSort1, Fx.fTupOf, Fx.aStar, Fx.nDc, Fx.dTup, Fx.dLst, Fx.gathF, Fx.dispF, Fx.allPy, Fx.popN, Fx.fTup, Fx.fLst, Fx.fDct, Fx.vGet2, Fx.keysF, Fx.kTup, Fx.vGetT2, Fx.vGetT, Fx.sPuT, Fx.sAt2, msk_py, msk_no, msk_pt, List.isPrefixOf, List.cons_prefix_cons, List.nil_prefix]; rfl, ?_, fun _ => ?_⟩
      · simp [Fx.Hd.own, Fx.TL.er, Fx.erAll, Fx.TL.get, Fx.TL.put, Fx.gget, Fx.gput, Fx.TL.addrs, Fx.TL.data, Fx.dataAll, Fx.msk, Fx.mulOk, Fx.addF, Fx.subF, Fx.mulF, Fx.fdivF, Fx.modF, Fx.powF, Fx.ltF, Fx.leF, Fx.gtF, Fx.geF, Fx.eqD, Fx.eqF, Fx.neF, Fx.isF, Fx.isntF, Fx.lenF, Fx.kindF, Fx.kitF, Fx.keyF, Fx.ixS, Fx.ixK, Fx.vVar, Fx.vC, Fx.vAt, Fx.dat, Fx.vD, Fx.vS, Fx.vPy, Fx.d2, Fx.dB, Fx.vB, Fx.bV, Fx.child, Fx.kidAt, Fx.vIdx, Fx.vGet, Fx.vFld, Fx.vLen, Fx.kindS, Fx.vIsi, Fx.vIsi2, Fx.aNil, Fx.aCons, Fx.vTup, Fx.nLst, Fx.vFz, Fx.bAnd, Fx.bOr, Fx.bNot, Fx.vIf, Fx.oNo, Fx.oI, Fx.cutF, Fx.vSlc, Fx.nSlc, Fx.negF, Fx.dNeg, Fx.rLenN, Fx.rIsiN, Fx.rIsiN2, Fx.nDct0, Fx.nDdt0, Fx.lendF, Fx.backF, Fx.headLt, Fx.voidF, Fx.tidy, Fx.callF, Fx.makeF, Fx.fP, Fx.fN, Fx.fB, Fx.rootF, Fx.dropLastF, Fx.fZ, Fx.push, Fx.gNo, Fx.gCo, Fx.fCall, Fx.fMake, Fx.fMeth, Fx.fBin2, Fx.fCmp2, Fx.fAnd, Fx.fOr, Fx.fNot, Fx.fBo, Fx.fMv, Fx.fOn, Fx.sNx, Fx.sBk, Fx.sCt, Fx.sRN, Fx.sSq, Fx.sDr, Fx.sRt, Fx.sIf, Fx.gN, Fx.gT0, Fx.gTC, Fx.gTu, Fx.takeRoot, Fx.sAs, Fx.sAt, Fx.childF, Fx.kidF, Fx.belowF, Fx.putAt, Fx.sFl, Fx.sPu, Fx.sSL, Fx.topPt, Fx.popTm, Fx.pushPt, Fx.sAp, Fx.sEx, Fx.fPop, Fx.sDe, Fx.pyAll, Fx.sEt, Fx.sFo, Fx.sFu, Fx.rngF, Fx.sFr, Fx.shiftS, Fx.lentF, Fx.dCall, Fx.nCall, Fx.iL, Fx.iLn, Fx.iT, Fx.iR, Fx.wipeR, Fx.bYes, Fx.nLc, Fx.boolsF, Fx.allF, Fx.d1, Fx.maxF, Fx.intF, Fx.nCopy, Fx.strsF, Fx.joinF, Fx.sRaise, Fx.intsF, Fx.inF, Fx.sAug, Fx.nDcp, Fx.keyD, Fx.iIt, Fx.nLock, Fx.wNo, Fx.wCo, Fx.vCallR, Fx.vMethR, Fx.key1, Fx.isK1, Fx.fSort1, Fx.fTupOf, Fx.aStar, Fx.nDc, Fx.dTup, Fx.dLst, Fx.gathF, Fx.dispF, Fx.allPy, Fx.popN, Fx.fTup, Fx.fLst, Fx.fDct, Fx.vGet2, Fx.keysF, Fx.kTup, Fx.vGetT2, Fx.vGetT, Fx.sPuT, Fx.sAt2, msk_py, msk_no, msk_pt, List.isPrefixOf, List.cons_prefix_cons, List.nil_prefix, idx_row0, stS_owed]
      · simp [Fx.Hd.own, Fx.TL.er, Fx.erAll, Fx.TL.get, Fx.TL.put, Fx.gget, Fx.gput, Fx.TL.addrs, Fx.TL.data, Fx.dataAll, Fx.msk, Fx.mulOk, Fx.addF, Fx.subF, Fx.mulF, Fx.fdivF, Fx.modF, Fx.powF, Fx.ltF, Fx.leF, Fx.gtF, Fx.geF, Fx.eqD, Fx.eqF, Fx.neF, Fx.isF, Fx.isntF, Fx.idxF, Fx.lenF, Fx.kindF, Fx.kitF, Fx.keyF, Fx.ixS, Fx.ixK, Fx.vVar, Fx.vC, Fx.vAt, Fx.dat, Fx.vD, Fx.vS, Fx.vPy, Fx.d2, Fx.dB, Fx.vB, Fx.bV, Fx.child, Fx.kidAt, Fx.vIdx, Fx.vGet, Fx.vFld, Fx.vLen, Fx.kindS, Fx.vIsi, Fx.vIsi2, Fx.aNil, Fx.aCons, Fx.vTup, Fx.nLst, Fx.vFz, Fx.bAnd, Fx.bOr, Fx.bNot, Fx.vIf, Fx.oNo, Fx.oI, Fx.cutF, Fx.vSlc, Fx.nSlc, Fx.negF, Fx.dNeg, Fx.rLenN, Fx.rIsiN, Fx.rIsiN2, Fx.nDct0, Fx.nDdt0, Fx.lendF, Fx.backF, Fx.headLt, Fx.voidF, Fx.tidy, Fx.callF, Fx.makeF, Fx.fP, Fx.fN, Fx.fB, Fx.rootF, Fx.dropLastF, Fx.fZ, Fx.push, Fx.gNo, Fx.gCo, Fx.fCall, Fx.fMake, Fx.fMeth, Fx.fBin2, Fx.fCmp2, Fx.fAnd, Fx.fOr, Fx.fNot, Fx.fBo, Fx.fMv, Fx.fOn, Fx.sNx, Fx.sBk, Fx.sCt, Fx.sRN, Fx.sSq, Fx.sDr, Fx.sRt, Fx.sIf, Fx.gN, Fx.gT0, Fx.gTC, Fx.gTu, Fx.takeRoot, Fx.sAs, Fx.sAt, Fx.childF, Fx.kidF, Fx.belowF, Fx.putAt, Fx.sFl, Fx.sPu, Fx.sSL, Fx.topPt, Fx.popTm, Fx.pushPt, Fx.sAp, Fx.sEx, Fx.fPop, Fx.sDe, Fx.pyAll, Fx.sEt, Fx.sFo, Fx.sFu, Fx.rngF, Fx.sFr, Fx.shiftS, Fx.lentF, Fx.dCall, Fx.nCall, Fx.iL, Fx.iLn, Fx.iT, Fx.iR, Fx.wipeR, Fx.bYes, Fx.nLc, Fx.boolsF, Fx.allF, Fx.d1, Fx.maxF, Fx.intF, Fx.nCopy, Fx.strsF, Fx.joinF, Fx.sRaise, Fx.intsF, Fx.inF, Fx.sAug, Fx.nDcp, Fx.keyD, Fx.iIt, Fx.nLock, Fx.wNo, Fx.wCo, Fx.vCallR, Fx.vMethR, Fx.key1, Fx.isK1, Fx.fSort1, Fx.fTupOf, Fx.aStar, Fx.nDc, Fx.dTup, Fx.dLst, Fx.gathF, Fx.dispF, Fx.allPy, Fx.popN, Fx.fTup, Fx.fLst, Fx.fDct, Fx.vGet2, Fx.keysF, Fx.kTup, Fx.vGetT2, Fx.vGetT, Fx.sPuT, Fx.sAt2, msk_py, msk_no, msk_pt, List.isPrefixOf, List.cons_prefix_cons, List.nil_prefix]
    refine nLc_some (ds := ks.map fun k => .tuple [.str k, rowD (H.known k)]) ?_ (by simp; omega) hc
    simp [Fx.Hd.own, Fx.TL.er, Fx.erAll, Fx.TL.get, Fx.TL.put, Fx.gget, Fx.gput, Fx.TL.addrs, Fx.TL.data, Fx.dataAll, Fx.msk, Fx.mulOk, Fx.addF, Fx.subF, Fx.mulF, Fx.fdivF, Fx.modF, Fx.powF, Fx.ltF, Fx.leF, Fx.gtF, Fx.geF, Fx.eqD, Fx.eqF, Fx.neF, Fx.isF, Fx.isntF, Fx.idxF, Fx.lenF, Fx.kindF, Fx.kitF, Fx.keyF, Fx.ixS, Fx.ixK, Fx.vVar, Fx.vC, Fx.vAt, Fx.dat, Fx.vD, Fx.vS, Fx.vPy, Fx.d2, Fx.dB, Fx.vB, Fx.bV, Fx.child, Fx.kidAt, Fx.vIdx, Fx.vGet, Fx.vFld, Fx.vLen, Fx.kindS, Fx.vIsi, Fx.vIsi2, Fx.aNil, Fx.aCons, Fx.vTup, Fx.nLst, Fx.vFz, Fx.bAnd, Fx.bOr, Fx.bNot, Fx.vIf, Fx.oNo, Fx.oI, Fx.cutF, Fx.vSlc, Fx.nSlc, Fx.negF, Fx.dNeg, Fx.rLenN, Fx.rIsiN, Fx.rIsiN2, Fx.nDct0, Fx.nDdt0, Fx.lendF, Fx.backF, Fx.headLt, Fx.voidF, Fx.tidy, Fx.callF, Fx.makeF, Fx.fP, Fx.fN, Fx.fB, Fx.rootF, Fx.dropLastF, Fx.fZ, Fx.push, Fx.gNo, Fx.gCo, Fx.fCall, Fx.fMake, Fx.fMeth, Fx.fBin2, Fx.fCmp2, Fx.fAnd, Fx.fOr, Fx.fNot, Fx.fBo, Fx.fMv, Fx.fOn, Fx.sNx, Fx.sBk, Fx.sCt, Fx.sRN, Fx.sSq, Fx.sDr, Fx.sRt, Fx.sIf, Fx.gN, Fx.gT0, Fx.gTC, Fx.gTu, Fx.takeRoot, Fx.sAs, Fx.sAt, Fx.childF, Fx.kidF, Fx.belowF, Fx.putAt, Fx.sFl, Fx.sPu, Fx.sSL, Fx.topPt, Fx.popTm, Fx.pushPt, Fx.sAp, Fx.sEx, Fx.fPop, Fx.sDe, Fx.pyAll, Fx.sEt, Fx.sFo, Fx.sFu, Fx.rngF, Fx.sFr, Fx.shiftS, Fx.lentF, Fx.dCall, Fx.nCall, Fx.iL, Fx.iLn, Fx.iT, Fx.iR, Fx.wipeR, Fx.bYes, Fx.nLc, Fx.boolsF, Fx.allF, Fx.d1, Fx.maxF, Fx.intF, Fx.nCopy, Fx.strsF, Fx.joinF, Fx.sRaise, Fx.intsF, Fx.inF, Fx.sAug, Fx.nDcp, Fx.iIt, Fx.nLock, Fx.wNo, Fx.wCo, Fx.vCallR, Fx.vMethR, Fx.key1, Fx.isK1, Fx.fSort1, Fx.fTupOf, Fx.aStar, Fx.nDc, Fx.dTup, Fx.dLst, Fx.gathF, Fx.dispF, Fx.allPy, Fx.popN, Fx.fTup, Fx.fLst, Fx.fDct, Fx.vGet2, Fx.keysF, Fx.kTup, Fx.vGetT2, Fx.vGetT, Fx.sPuT, Fx.sAt2, msk_py, msk_no, msk_pt, List.isPrefixOf, List.cons_prefix_cons, List.nil_prefix, ofString_inj, ep, ez]
  unfold S_House_owes b_House_owes houseT houseC
  generalize h_House_owes_1 = body at *
  have e2 : ((H.owes ks).map PyData.str).map (TL.py : PyData → T) = (H.owes ks).map fun k => .py (.str k) := by rw [List.map_map]; rfl
  simp [runF, Fx.Hd.own, Fx.TL.er, Fx.erAll, Fx.TL.get, Fx.TL.put, Fx.gget, Fx.gput, Fx.TL.addrs, Fx.TL.data, Fx.dataAll, Fx.msk, Fx.mulOk, Fx.addF, Fx.subF, Fx.mulF, Fx.fdivF, Fx.modF, Fx.powF, Fx.ltF, Fx.leF, Fx.gtF, Fx.geF, Fx.eqD, Fx.eqF, Fx.neF, Fx.isF, Fx.isntF, Fx.idxF, Fx.lenF, Fx.kindF, Fx.kitF, Fx.keyF, Fx.ixS, Fx.ixK, Fx.vVar, Fx.vC, Fx.vAt, Fx.dat, Fx.vD, Fx.vS, Fx.vPy, Fx.d2, Fx.dB, Fx.vB, Fx.bV, Fx.child, Fx.kidAt, Fx.vIdx, Fx.vGet, Fx.vFld, Fx.vLen, Fx.kindS, Fx.vIsi, Fx.vIsi2, Fx.aNil, Fx.aCons, Fx.vTup, Fx.nLst, Fx.vFz, Fx.bAnd, Fx.bOr, Fx.bNot, Fx.vIf, Fx.oNo, Fx.oI, Fx.cutF, Fx.vSlc, Fx.nSlc, Fx.negF, Fx.dNeg, Fx.rLenN, Fx.rIsiN, Fx.rIsiN2, Fx.nDct0, Fx.nDdt0, Fx.lendF, Fx.backF, Fx.headLt, Fx.voidF, Fx.tidy, Fx.callF, Fx.makeF, Fx.fP, Fx.fN, Fx.fB, Fx.rootF, Fx.dropLastF, Fx.fZ, Fx.push, Fx.gNo, Fx.gCo, Fx.fCall, Fx.fMake, Fx.fMeth, Fx.fBin2, Fx.fCmp2, Fx.fAnd, Fx.fOr, Fx.fNot, Fx.fBo, Fx.fMv, Fx.fOn, Fx.sNx, Fx.sBk, Fx.sCt, Fx.sRN, Fx.sSq, Fx.sDr, Fx.sRt, Fx.sIf, Fx.gN, Fx.gT0, Fx.gTC, Fx.gTu, Fx.takeRoot, Fx.sAs, Fx.sAt, Fx.childF, Fx.kidF, Fx.belowF, Fx.putAt, Fx.sFl, Fx.sPu, Fx.sSL, Fx.topPt, Fx.popTm, Fx.pushPt, Fx.sAp, Fx.sEx, Fx.fPop, Fx.sDe, Fx.pyAll, Fx.sEt, Fx.sFo, Fx.sFu, Fx.rngF, Fx.sFr, Fx.shiftS, Fx.lentF, Fx.dCall, Fx.nCall, Fx.iL, Fx.iLn, Fx.iT, Fx.iR, Fx.wipeR, Fx.bYes, Fx.nLc, Fx.boolsF, Fx.allF, Fx.d1, Fx.maxF, Fx.intF, Fx.nCopy, Fx.strsF, Fx.joinF, Fx.sRaise, Fx.intsF, Fx.inF, Fx.sAug, Fx.nDcp, Fx.keyD, Fx.iIt, Fx.nLock, Fx.wNo, Fx.wCo, Fx.vCallR, Fx.vMethR, Fx.key1, Fx.isK1, Fx.fSort1, Fx.fTupOf, Fx.aStar, Fx.nDc, Fx.dTup, Fx.dLst, Fx.gathF, Fx.dispF, Fx.allPy, Fx.popN, Fx.fTup, Fx.fLst, Fx.fDct, Fx.vGet2, Fx.keysF, Fx.kTup, Fx.vGetT2, Fx.vGetT, Fx.sPuT, Fx.sAt2, msk_py, msk_no, msk_pt, List.isPrefixOf, List.cons_prefix_cons, List.nil_prefix, ofString_inj, e1, e2]
theorem nudge_ok (b : Bool) (ks : List Str) (H : Mv.House Str) (hF : ks.length < 100000) : S_House_nudge [.pt [0]] [houseT (hI b) ks H] = some (.vl .own [houseT (hI b) ks H, .nd () .lst ((H.nudged b ks).map fun l => .py (letD l))]) := by
  have ep := pyAll_rows ks H.written
  have ez := items_of ks H.written
  have e1 : ∀ c1 cs, h_House_nudge_1 ⟨[some (.pt [3]), none, none], [], [.un (), .un (), .un (), .nd () (.ins "House" ["number", "known", "written", "laid_out", "new_rows"]) (.py (.int (hI b)) :: c1 :: .nd () (.lok (ks.map .inr)) (ks.map fun k => .py (rowD (H.written k))) :: cs)], 4⟩ = some (.lst, (H.nudged b ks).map letD) := by
    intro c1 cs
    unfold h_House_nudge_1
    have hc : Fx.collect (gTu 2 (gTC (gN 1) (gTC (gN 2) gT0))) (dB eqF (vD (vIdx (vVar 2) (vPy (vC (.int 0))))) (vPy (vC (.str "owed")))) (vMethR "House" "parcel" S_House_parcel (vVar 0) (wCo (vVar 1) (wCo (vVar 2) wNo))) ⟨[some (.pt [3]), none, none], [], [.un (), .un (), .un (), .nd () (.ins "House" ["number", "known", "written", "laid_out", "new_rows"]) (.py (.int (hI b)) :: c1 :: .nd () (.lok (ks.map .inr)) (ks.map fun k => .py (rowD (H.written k))) :: cs)], 4⟩ (ks.map fun k => .tuple [.str k, rowD (H.written k)]) = some ((H.nudged b ks).map letD) := by
      unfold Mv.House.nudged
      rw [List.map_map]
      refine collect_of ks fun k _ => ⟨_, by simp [Fx.Hd.own, Fx.TL.er, Fx.erAll, Fx.TL.get, Fx.TL.put, Fx.gget, Fx.gput, Fx.TL.addrs, Fx.TL.data, Fx.dataAll, Fx.msk, Fx.mulOk, Fx.addF, Fx.subF, Fx.mulF, Fx.fdivF, Fx.modF, Fx.powF, Fx.ltF, Fx.leF, Fx.gtF, Fx.geF, Fx.eqD, Fx.eqF, Fx.neF, Fx.isF, Fx.isntF, Fx.idxF, Fx.lenF, Fx.kindF, Fx.kitF, Fx.keyF, Fx.ixS, Fx.ixK, Fx.vVar, Fx.vC, Fx.vAt, Fx.dat, Fx.vD, Fx.vS, Fx.vPy, Fx.d2, Fx.dB, Fx.vB, Fx.bV, Fx.child, Fx.kidAt, Fx.vIdx, Fx.vGet, Fx.vFld, Fx.vLen, Fx.kindS, Fx.vIsi, Fx.vIsi2, Fx.aNil, Fx.aCons, Fx.vTup, Fx.nLst, Fx.vFz, Fx.bAnd, Fx.bOr, Fx.bNot, Fx.vIf, Fx.oNo, Fx.oI, Fx.cutF, Fx.vSlc, Fx.nSlc, Fx.negF, Fx.dNeg, Fx.rLenN, Fx.rIsiN, Fx.rIsiN2, Fx.nDct0, Fx.nDdt0, Fx.lendF, Fx.backF, Fx.headLt, Fx.voidF, Fx.tidy, Fx.callF, Fx.makeF, Fx.fP, Fx.fN, Fx.fB, Fx.rootF, Fx.dropLastF, Fx.fZ, Fx.push, Fx.gNo, Fx.gCo, Fx.fCall, Fx.fMake, Fx.fMeth, Fx.fBin2, Fx.fCmp2, Fx.fAnd, Fx.fOr, Fx.fNot, Fx.fBo, Fx.fMv, Fx.fOn, Fx.sNx, Fx.sBk, Fx.sCt, Fx.sRN, Fx.sSq, Fx.sDr, Fx.sRt, Fx.sIf, Fx.gN, Fx.gT0, Fx.gTC, Fx.gTu, Fx.takeRoot, Fx.sAs, Fx.sAt, Fx.childF, Fx.kidF, Fx.belowF, Fx.putAt, Fx.sFl, Fx.sPu, Fx.sSL, Fx.topPt, Fx.popTm, Fx.pushPt, Fx.sAp, Fx.sEx, Fx.fPop, Fx.sDe, Fx.pyAll, Fx.sEt, Fx.sFo, Fx.sFu, Fx.rngF, Fx.sFr, Fx.shiftS, Fx.lentF, Fx.dCall, Fx.nCall, Fx.iL, Fx.iLn, Fx.iT, Fx.iR, Fx.wipeR, Fx.bYes, Fx.nLc, Fx.boolsF, Fx.allF, Fx.d1, Fx.maxF, Fx.intF, Fx.nCopy, Fx.strsF, Fx.joinF, Fx.sRaise, Fx.intsF, Fx.inF, Fx.sAug, Fx.nDcp, Fx.keyD, Fx.iIt, Fx.nLock, Fx.wNo, Fx.wCo, Fx.vCallR, Fx.vMethR, Fx.key1, Fx.isK1, Fx.fSort1, Fx.fTupOf, Fx.aStar, Fx.nDc, Fx.dTup, Fx.dLst, Fx.gathF, Fx.dispF, Fx.allPy, Fx.popN, Fx.fTup, Fx.fLst, Fx.fDct, Fx.vGet2, Fx.keysF, Fx.kTup, Fx.vGetT2, Fx.vGetT, Fx.sPuT, Fx.sAt2, msk_py, msk_no, msk_pt, List.isPrefixOf, List.cons_prefix_cons, List.nil_prefix]; rfl, ?_, fun _ => ?_⟩
      · simp [Fx.Hd.own, Fx.TL.er, Fx.erAll, Fx.TL.get, Fx.TL.put, Fx.gget, Fx.gput, Fx.TL.addrs, Fx.TL.data, Fx.dataAll, Fx.msk, Fx.mulOk, Fx.addF, Fx.subF, Fx.mulF, Fx.fdivF, Fx.modF, Fx.powF, Fx.ltF, Fx.leF, Fx.gtF, Fx.geF, Fx.eqD, Fx.eqF, Fx.neF, Fx.isF, Fx.isntF, Fx.lenF, Fx.kindF, Fx.kitF, Fx.keyF, Fx.ixS, Fx.ixK, Fx.vVar, Fx.vC, Fx.vAt, Fx.dat, Fx.vD, Fx.vS, Fx.vPy, Fx.d2, Fx.dB, Fx.vB, Fx.bV, Fx.child, Fx.kidAt, Fx.vIdx, Fx.vGet, Fx.vFld, Fx.vLen, Fx.kindS, Fx.vIsi, Fx.vIsi2, Fx.aNil, Fx.aCons, Fx.vTup, Fx.nLst, Fx.vFz, Fx.bAnd, Fx.bOr, Fx.bNot, Fx.vIf, Fx.oNo, Fx.oI, Fx.cutF, Fx.vSlc, Fx.nSlc, Fx.negF, Fx.dNeg, Fx.rLenN, Fx.rIsiN, Fx.rIsiN2, Fx.nDct0, Fx.nDdt0, Fx.lendF, Fx.backF, Fx.headLt, Fx.voidF, Fx.tidy, Fx.callF, Fx.makeF, Fx.fP, Fx.fN, Fx.fB, Fx.rootF, Fx.dropLastF, Fx.fZ, Fx.push, Fx.gNo, Fx.gCo, Fx.fCall, Fx.fMake, Fx.fMeth, Fx.fBin2, Fx.fCmp2, Fx.fAnd, Fx.fOr, Fx.fNot, Fx.fBo, Fx.fMv, Fx.fOn, Fx.sNx, Fx.sBk, Fx.sCt, Fx.sRN, Fx.sSq, Fx.sDr, Fx.sRt, Fx.sIf, Fx.gN, Fx.gT0, Fx.gTC, Fx.gTu, Fx.takeRoot, Fx.sAs, Fx.sAt, Fx.childF, Fx.kidF, Fx.belowF, Fx.putAt, Fx.sFl, Fx.sPu, Fx.sSL, Fx.topPt, Fx.popTm, Fx.pushPt, Fx.sAp, Fx.sEx, Fx.fPop, Fx.sDe, Fx.pyAll, Fx.sEt, Fx.sFo, Fx.sFu, Fx.rngF, Fx.sFr, Fx.shiftS, Fx.lentF, Fx.dCall, Fx.nCall, Fx.iL, Fx.iLn, Fx.iT, Fx.iR, Fx.wipeR, Fx.bYes, Fx.nLc, Fx.boolsF, Fx.allF, Fx.d1, Fx.maxF, Fx.intF, Fx.nCopy, Fx.strsF, Fx.joinF, Fx.sRaise, Fx.intsF, Fx.inF, Fx.sAug, Fx.nDcp, Fx.keyD, Fx.iIt, Fx.nLock, Fx.wNo, Fx.wCo, Fx.vCallR, Fx.vMethR, Fx.key1, Fx.isK1, Fx.fSort1, Fx.fTupOf, Fx.aStar, Fx.nDc, Fx.dTup, Fx.dLst, Fx.gathF, Fx.dispF, Fx.allPy, Fx.popN, Fx.fTup, Fx.fLst, Fx.fDct, Fx.vGet2, Fx.keysF, Fx.kTup, Fx.vGetT2, Fx.vGetT, Fx.sPuT, Fx.sAt2, msk_py, msk_no, msk_pt, List.isPrefixOf, List.cons_prefix_cons, List.nil_prefix, idx_row0, stS_owed]
      · have := parcel_ok [.un (), .un (), .un (), .nd () (.ins "House" ["number", "known", "written", "laid_out", "new_rows"]) (.py (.int (hI b)) :: c1 :: .nd () (.lok (ks.map .inr)) (ks.map fun k => .py (rowD (H.written k))) :: cs)] 3 [] b _ rfl k (H.written k)
        simp [Fx.Hd.own, Fx.TL.er, Fx.erAll, Fx.TL.get, Fx.TL.put, Fx.gget, Fx.gput, Fx.TL.addrs, Fx.TL.data, Fx.dataAll, Fx.msk, Fx.mulOk, Fx.addF, Fx.subF, Fx.mulF, Fx.fdivF, Fx.modF, Fx.powF, Fx.ltF, Fx.leF, Fx.gtF, Fx.geF, Fx.eqD, Fx.eqF, Fx.neF, Fx.isF, Fx.isntF, Fx.idxF, Fx.lenF, Fx.kindF, Fx.kitF, Fx.keyF, Fx.ixS, Fx.ixK, Fx.vVar, Fx.vC, Fx.vAt, Fx.dat, Fx.vD, Fx.vS, Fx.vPy, Fx.d2, Fx.dB, Fx.vB, Fx.bV, Fx.child, Fx.kidAt, Fx.vIdx, Fx.vGet, Fx.vFld, Fx.vLen, Fx.kindS, Fx.vIsi, Fx.vIsi2, Fx.aNil, Fx.aCons, Fx.vTup, Fx.nLst, Fx.vFz, Fx.bAnd, Fx.bOr, Fx.bNot, Fx.vIf, Fx.oNo, Fx.oI, Fx.cutF, Fx.vSlc, Fx.nSlc, Fx.negF, Fx.dNeg, Fx.rLenN, Fx.rIsiN, Fx.rIsiN2, Fx.nDct0, Fx.nDdt0, Fx.lendF, Fx.backF, Fx.headLt, Fx.voidF, Fx.tidy, Fx.callF, Fx.makeF, Fx.fP, Fx.fN, Fx.fB, Fx.rootF, Fx.dropLastF, Fx.fZ, Fx.push, Fx.gNo, Fx.gCo, Fx.fCall, Fx.fMake, Fx.fMeth, Fx.fBin2, Fx.fCmp2, Fx.fAnd, Fx.fOr, Fx.fNot, Fx.fBo, Fx.fMv, Fx.fOn, Fx.sNx, Fx.sBk, Fx.sCt, Fx.sRN, Fx.sSq, Fx.sDr, Fx.sRt, Fx.sIf, Fx.gN, Fx.gT0, Fx.gTC, Fx.gTu, Fx.takeRoot, Fx.sAs, Fx.sAt, Fx.childF, Fx.kidF, Fx.belowF, Fx.putAt, Fx.sFl, Fx.sPu, Fx.sSL, Fx.topPt, Fx.popTm, Fx.pushPt, Fx.sAp, Fx.sEx, Fx.fPop, Fx.sDe, Fx.pyAll, Fx.sEt, Fx.sFo, Fx.sFu, Fx.rngF, Fx.sFr, Fx.shiftS, Fx.lentF, Fx.dCall, Fx.nCall, Fx.iL, Fx.iLn, Fx.iT, Fx.iR, Fx.wipeR, Fx.bYes, Fx.nLc, Fx.boolsF, Fx.allF, Fx.d1, Fx.maxF, Fx.intF, Fx.nCopy, Fx.strsF, Fx.joinF, Fx.sRaise, Fx.intsF, Fx.inF, Fx.sAug, Fx.nDcp, Fx.keyD, Fx.iIt, Fx.nLock, Fx.wNo, Fx.wCo, Fx.vCallR, Fx.vMethR, Fx.key1, Fx.isK1, Fx.fSort1, Fx.fTupOf, Fx.aStar, Fx.nDc, Fx.dTup, Fx.dLst, Fx.gathF, Fx.dispF, Fx.allPy, Fx.popN, Fx.fTup, Fx.fLst, Fx.fDct, Fx.vGet2, Fx.keysF, Fx.kTup, Fx.vGetT2, Fx.vGetT, Fx.sPuT, Fx.sAt2, msk_py, msk_no, msk_pt, List.isPrefixOf, List.cons_prefix_cons, List.nil_prefix, ofString_inj, this]
    refine nLc_some (ds := ks.map fun k => .tuple [.str k, rowD (H.written k)]) ?_ (by simp; omega) hc
    simp [Fx.Hd.own, Fx.TL.er, Fx.erAll, Fx.TL.get, Fx.TL.put, Fx.gget, Fx.gput, Fx.TL.addrs, Fx.TL.data, Fx.dataAll, Fx.msk, Fx.mulOk, Fx.addF, Fx.subF, Fx.mulF, Fx.fdivF, Fx.modF, Fx.powF, Fx.ltF, Fx.leF, Fx.gtF, Fx.geF, Fx.eqD, Fx.eqF, Fx.neF, Fx.isF, Fx.isntF, Fx.idxF, Fx.lenF, Fx.kindF, Fx.kitF, Fx.keyF, Fx.ixS, Fx.ixK, Fx.vVar, Fx.vC, Fx.vAt, Fx.dat, Fx.vD, Fx.vS, Fx.vPy, Fx.d2, Fx.dB, Fx.vB, Fx.bV, Fx.child, Fx.kidAt, Fx.vIdx, Fx.vGet, Fx.vFld, Fx.vLen, Fx.kindS, Fx.vIsi, Fx.vIsi2, Fx.aNil, Fx.aCons, Fx.vTup, Fx.nLst, Fx.vFz, Fx.bAnd, Fx.bOr, Fx.bNot, Fx.vIf, Fx.oNo, Fx.oI, Fx.cutF, Fx.vSlc, Fx.nSlc, Fx.negF, Fx.dNeg, Fx.rLenN, Fx.rIsiN, Fx.rIsiN2, Fx.nDct0, Fx.nDdt0, Fx.lendF, Fx.backF, Fx.headLt, Fx.voidF, Fx.tidy, Fx.callF, Fx.makeF, Fx.fP, Fx.fN, Fx.fB, Fx.rootF, Fx.dropLastF, Fx.fZ, Fx.push, Fx.gNo, Fx.gCo, Fx.fCall, Fx.fMake, Fx.fMeth, Fx.fBin2, Fx.fCmp2, Fx.fAnd, Fx.fOr, Fx.fNot, Fx.fBo, Fx.fMv, Fx.fOn, Fx.sNx, Fx.sBk, Fx.sCt, Fx.sRN, Fx.sSq, Fx.sDr, Fx.sRt, Fx.sIf, Fx.gN, Fx.gT0, Fx.gTC, Fx.gTu, Fx.takeRoot, Fx.sAs, Fx.sAt, Fx.childF, Fx.kidF, Fx.belowF, Fx.putAt, Fx.sFl, Fx.sPu, Fx.sSL, Fx.topPt, Fx.popTm, Fx.pushPt, Fx.sAp, Fx.sEx, Fx.fPop, Fx.sDe, Fx.pyAll, Fx.sEt, Fx.sFo, Fx.sFu, Fx.rngF, Fx.sFr, Fx.shiftS, Fx.lentF, Fx.dCall, Fx.nCall, Fx.iL, Fx.iLn, Fx.iT, Fx.iR, Fx.wipeR, Fx.bYes, Fx.nLc, Fx.boolsF, Fx.allF, Fx.d1, Fx.maxF, Fx.intF, Fx.nCopy, Fx.strsF, Fx.joinF, Fx.sRaise, Fx.intsF, Fx.inF, Fx.sAug, Fx.nDcp, Fx.iIt, Fx.nLock, Fx.wNo, Fx.wCo, Fx.vCallR, Fx.vMethR, Fx.key1, Fx.isK1, Fx.fSort1, Fx.fTupOf, Fx.aStar, Fx.nDc, Fx.dTup, Fx.dLst, Fx.gathF, Fx.dispF, Fx.allPy, Fx.popN, Fx.fTup, Fx.fLst, Fx.fDct, Fx.vGet2, Fx.keysF, Fx.kTup, Fx.vGetT2, Fx.vGetT, Fx.sPuT, Fx.sAt2, msk_py, msk_no, msk_pt, List.isPrefixOf, List.cons_prefix_cons, List.nil_prefix, ofString_inj, ep, ez]
  unfold S_House_nudge b_House_nudge houseT houseC
  generalize h_House_nudge_1 = body at *
  have e2 : ((H.nudged b ks).map letD).map (TL.py : PyData → T) = (H.nudged b ks).map fun k => .py (letD k) := by rw [List.map_map]; rfl
  simp [runF, Fx.Hd.own, Fx.TL.er, Fx.erAll, Fx.TL.get, Fx.TL.put, Fx.gget, Fx.gput, Fx.TL.addrs, Fx.TL.data, Fx.dataAll, Fx.msk, Fx.mulOk, Fx.addF, Fx.subF, Fx.mulF, Fx.fdivF, Fx.modF, Fx.powF, Fx.ltF, Fx.leF, Fx.gtF, Fx.geF, Fx.eqD, Fx.eqF, Fx.neF, Fx.isF, Fx.isntF, Fx.idxF, Fx.lenF, Fx.kindF, Fx.kitF, Fx.keyF, Fx.ixS, Fx.ixK, Fx.vVar, Fx.vC, Fx.vAt, Fx.dat, Fx.vD, Fx.vS, Fx.vPy, Fx.d2, Fx.dB, Fx.vB, Fx.bV, Fx.child, Fx.kidAt, Fx.vIdx, Fx.vGet, Fx.vFld, Fx.vLen, Fx.kindS, Fx.vIsi, Fx.vIsi2, Fx.aNil, Fx.aCons, Fx.vTup, Fx.nLst, Fx.vFz, Fx.bAnd, Fx.bOr, Fx.bNot, Fx.vIf, Fx.oNo, Fx.oI, Fx.cutF, Fx.vSlc, Fx.nSlc, Fx.negF, Fx.dNeg, Fx.rLenN, Fx.rIsiN, Fx.rIsiN2, Fx.nDct0, Fx.nDdt0, Fx.lendF, Fx.backF, Fx.headLt, Fx.voidF, Fx.tidy, Fx.callF, Fx.makeF, Fx.fP, Fx.fN, Fx.fB, Fx.rootF, Fx.dropLastF, Fx.fZ, Fx.push, Fx.gNo, Fx.gCo, Fx.fCall, Fx.fMake, Fx.fMeth, Fx.fBin2, Fx.fCmp2, Fx.fAnd, Fx.fOr, Fx.fNot, Fx.fBo, Fx.fMv, Fx.fOn, Fx.sNx, Fx.sBk, Fx.sCt, Fx.sRN, Fx.sSq, Fx.sDr, Fx.sRt, Fx.sIf, Fx.gN, Fx.gT0, Fx.gTC, Fx.gTu, Fx.takeRoot, Fx.sAs, Fx.sAt, Fx.childF, Fx.kidF, Fx.belowF, Fx.putAt, Fx.sFl, Fx.sPu, Fx.sSL, Fx.topPt, Fx.popTm, Fx.pushPt, Fx.sAp, Fx.sEx, Fx.fPop, Fx.sDe, Fx.pyAll, Fx.sEt, Fx.sFo, Fx.sFu, Fx.rngF, Fx.sFr, Fx.shiftS, Fx.lentF, Fx.dCall, Fx.nCall, Fx.iL, Fx.iLn, Fx.iT, Fx.iR, Fx.wipeR, Fx.bYes, Fx.nLc, Fx.boolsF, Fx.allF, Fx.d1, Fx.maxF, Fx.intF, Fx.nCopy, Fx.strsF, Fx.joinF, Fx.sRaise, Fx.intsF, Fx.inF, Fx.sAug, Fx.nDcp, Fx.keyD, Fx.iIt, Fx.nLock, Fx.wNo, Fx.wCo, Fx.vCallR, Fx.vMethR, Fx.key1, Fx.isK1, Fx.fSort1, Fx.fTupOf, Fx.aStar, Fx.nDc, Fx.dTup, Fx.dLst, Fx.gathF, Fx.dispF, Fx.allPy, Fx.popN, Fx.fTup, Fx.fLst, Fx.fDct, Fx.vGet2, Fx.keysF, Fx.kTup, Fx.vGetT2, Fx.vGetT, Fx.sPuT, Fx.sAt2, msk_py, msk_no, msk_pt, List.isPrefixOf, List.cons_prefix_cons, List.nil_prefix, ofString_inj, e1, e2]
theorem sleep_ok (m : Int) (ks : List Str) (H : Mv.House Str) : S_House_sleep [.pt [0]] [houseT m ks H] = some (.vl (.s (.py .none)) [houseT m ks H.slept]) := by
  have ep := pyAll_rows ks H.written
  unfold S_House_sleep b_House_sleep houseT houseC Mv.House.slept
  generalize hK : (ks.map fun k => (TL.py (rowD (H.written k)) : T)) = X at *
  have e2 : (ks.map fun k => rowD (H.written k)).map (TL.py : PyData → T) = X := by rw [← hK, List.map_map]; rfl
  simp [runF, Fx.Hd.own, Fx.TL.er, Fx.erAll, Fx.TL.get, Fx.TL.put, Fx.gget, Fx.gput, Fx.TL.addrs, Fx.TL.data, Fx.dataAll, Fx.msk, Fx.mulOk, Fx.addF, Fx.subF, Fx.mulF, Fx.fdivF, Fx.modF, Fx.powF, Fx.ltF, Fx.leF, Fx.gtF, Fx.geF, Fx.eqD, Fx.eqF, Fx.neF, Fx.isF, Fx.isntF, Fx.idxF, Fx.lenF, Fx.kindF, Fx.kitF, Fx.keyF, Fx.ixS, Fx.ixK, Fx.vVar, Fx.vC, Fx.vAt, Fx.dat, Fx.vD, Fx.vS, Fx.vPy, Fx.d2, Fx.dB, Fx.vB, Fx.bV, Fx.child, Fx.kidAt, Fx.vIdx, Fx.vGet, Fx.vFld, Fx.vLen, Fx.kindS, Fx.vIsi, Fx.vIsi2, Fx.aNil, Fx.aCons, Fx.vTup, Fx.nLst, Fx.vFz, Fx.bAnd, Fx.bOr, Fx.bNot, Fx.vIf, Fx.oNo, Fx.oI, Fx.cutF, Fx.vSlc, Fx.nSlc, Fx.negF, Fx.dNeg, Fx.rLenN, Fx.rIsiN, Fx.rIsiN2, Fx.nDct0, Fx.nDdt0, Fx.lendF, Fx.backF, Fx.headLt, Fx.voidF, Fx.tidy, Fx.callF, Fx.makeF, Fx.fP, Fx.fN, Fx.fB, Fx.rootF, Fx.dropLastF, Fx.fZ, Fx.push, Fx.gNo, Fx.gCo, Fx.fCall, Fx.fMake, Fx.fMeth, Fx.fBin2, Fx.fCmp2, Fx.fAnd, Fx.fOr, Fx.fNot, Fx.fBo, Fx.fMv, Fx.fOn, Fx.sNx, Fx.sBk, Fx.sCt, Fx.sRN, Fx.sSq, Fx.sDr, Fx.sRt, Fx.sIf, Fx.gN, Fx.gT0, Fx.gTC, Fx.gTu, Fx.takeRoot, Fx.sAs, Fx.sAt, Fx.childF, Fx.kidF, Fx.belowF, Fx.putAt, Fx.sFl, Fx.sPu, Fx.sSL, Fx.topPt, Fx.popTm, Fx.pushPt, Fx.sAp, Fx.sEx, Fx.fPop, Fx.sDe, Fx.pyAll, Fx.sEt, Fx.sFo, Fx.sFu, Fx.rngF, Fx.sFr, Fx.shiftS, Fx.lentF, Fx.dCall, Fx.nCall, Fx.iL, Fx.iLn, Fx.iT, Fx.iR, Fx.wipeR, Fx.bYes, Fx.nLc, Fx.boolsF, Fx.allF, Fx.d1, Fx.maxF, Fx.intF, Fx.nCopy, Fx.strsF, Fx.joinF, Fx.sRaise, Fx.intsF, Fx.inF, Fx.sAug, Fx.nDcp, Fx.keyD, Fx.iIt, Fx.nLock, Fx.wNo, Fx.wCo, Fx.vCallR, Fx.vMethR, Fx.key1, Fx.isK1, Fx.fSort1, Fx.fTupOf, Fx.aStar, Fx.nDc, Fx.dTup, Fx.dLst, Fx.gathF, Fx.dispF, Fx.allPy, Fx.popN, Fx.fTup, Fx.fLst, Fx.fDct, Fx.vGet2, Fx.keysF, Fx.kTup, Fx.vGetT2, Fx.vGetT, Fx.sPuT, Fx.sAt2, msk_py, msk_no, msk_pt, List.isPrefixOf, List.cons_prefix_cons, List.nil_prefix, ofString_inj, ep, e2]
theorem move_ok (b : Bool) (ks : List Str) (H : Mv.House Str) (k : Str) (hF : Fit ks H) (hk : k ∈ ks) (hh : (H.known k).st = .here) : S_House_move [.pt [0], .py (.str k)] [houseT (hI b) ks H] = some (.vl (.s (.py .none)) [houseT (hI b) ks (H.moved b k)]) := by
  obtain ⟨j, h1, h2⟩ := ix_key hk
  have e1 := has_ok ([.un (), .un (), .un (), .un (), .un (), houseT (hI b) ks H]) 5 [] (hI b) ks H k rfl hk
  simp only [hh, decide_true] at e1
  have er := set_row H.known { H.known k with st := .owed } hF.nd h2
  have er : (ks.map fun k => (TL.py (rowD (H.known k)) : T)).set j (.py (.tuple [.str "owed", .int (H.known k).turn, .int (H.known k).amount, .tuple ((H.known k).marks.map markD)])) = _ := er
  have ec : (houseC (hI b) ks H).set 1 (.nd () (.dct (ks.map .inr)) (ks.map fun j => .py (rowD (Mv.setK H.known k { H.known k with st := .owed } j)))) = houseC (hI b) ks { H with known := Mv.setK H.known k { H.known k with st := .owed } } := rfl
  have el := lay_out_ok (hI b) ks { H with known := Mv.setK H.known k { H.known k with st := .owed } } (Mv.parcelOf b k (H.known k)) hF.laid
  have e3 := parcel_ok ([.un (), .un (), .un (), .un (), .un (), houseT (hI b) ks { H with known := Mv.setK H.known k { H.known k with st := .owed } }]) 5 [] b _ rfl k { H.known k with st := .owed }
  have e4 : Mv.parcelOf b k { H.known k with st := .owed } = Mv.parcelOf b k (H.known k) := rfl
  rw [e4] at e3
  have ek : Mv.setK H.known k { H.known k with st := .owed } k = { H.known k with st := .owed } := by simp
  have hm := hF.len
  unfold S_House_move b_House_move Mv.House.moved
  unfold houseT at *
  have ef := row_at (Mv.setK H.known k { H.known k with st := .owed }) h2
  rw [ek] at ef
  simp [runF, Fx.Hd.own, Fx.TL.er, Fx.erAll, Fx.TL.get, Fx.TL.put, Fx.gget, Fx.gput, Fx.TL.addrs, Fx.TL.data, Fx.dataAll, Fx.msk, Fx.mulOk, Fx.addF, Fx.subF, Fx.mulF, Fx.fdivF, Fx.modF, Fx.powF, Fx.ltF, Fx.leF, Fx.gtF, Fx.geF, Fx.eqD, Fx.eqF, Fx.neF, Fx.isF, Fx.isntF, Fx.lenF, Fx.kindF, Fx.kitF, Fx.keyF, Fx.ixS, Fx.ixK, Fx.vVar, Fx.vC, Fx.vAt, Fx.dat, Fx.vD, Fx.vS, Fx.vPy, Fx.d2, Fx.dB, Fx.vB, Fx.bV, Fx.child, Fx.kidAt, Fx.vIdx, Fx.vGet, Fx.vFld, Fx.vLen, Fx.kindS, Fx.vIsi, Fx.vIsi2, Fx.aNil, Fx.aCons, Fx.vTup, Fx.nLst, Fx.vFz, Fx.bAnd, Fx.bOr, Fx.bNot, Fx.vIf, Fx.oNo, Fx.oI, Fx.vSlc, Fx.nSlc, Fx.negF, Fx.dNeg, Fx.rLenN, Fx.rIsiN, Fx.rIsiN2, Fx.nDct0, Fx.nDdt0, Fx.lendF, Fx.backF, Fx.headLt, Fx.voidF, Fx.tidy, Fx.callF, Fx.makeF, Fx.fP, Fx.fN, Fx.fB, Fx.rootF, Fx.dropLastF, Fx.fZ, Fx.push, Fx.gNo, Fx.gCo, Fx.fCall, Fx.fMake, Fx.fMeth, Fx.fBin2, Fx.fCmp2, Fx.fAnd, Fx.fOr, Fx.fNot, Fx.fBo, Fx.fMv, Fx.fOn, Fx.sNx, Fx.sBk, Fx.sCt, Fx.sRN, Fx.sSq, Fx.sDr, Fx.sRt, Fx.sIf, Fx.gN, Fx.gT0, Fx.gTC, Fx.gTu, Fx.takeRoot, Fx.sAs, Fx.sAt, Fx.childF, Fx.kidF, Fx.belowF, Fx.putAt, Fx.sFl, Fx.sPu, Fx.sSL, Fx.topPt, Fx.popTm, Fx.pushPt, Fx.sAp, Fx.sEx, Fx.fPop, Fx.sDe, Fx.pyAll, Fx.sEt, Fx.sFo, Fx.sFu, Fx.rngF, Fx.sFr, Fx.shiftS, Fx.lentF, Fx.dCall, Fx.nCall, Fx.iL, Fx.iLn, Fx.iT, Fx.iR, Fx.wipeR, Fx.bYes, Fx.nLc, Fx.boolsF, Fx.allF, Fx.d1, Fx.maxF, Fx.intF, Fx.nCopy, Fx.strsF, Fx.joinF, Fx.sRaise, Fx.intsF, Fx.inF, Fx.sAug, Fx.nDcp, Fx.keyD, Fx.iIt, Fx.nLock, Fx.wNo, Fx.wCo, Fx.vCallR, Fx.vMethR, Fx.key1, Fx.isK1, Fx.fSort1, Fx.fTupOf, Fx.aStar, Fx.nDc, Fx.dTup, Fx.dLst, Fx.gathF, Fx.dispF, Fx.allPy, Fx.popN, Fx.fTup, Fx.fLst, Fx.fDct, Fx.vGet2, Fx.keysF, Fx.kTup, Fx.vGetT2, Fx.vGetT, Fx.sPuT, Fx.sAt2, msk_py, msk_no, msk_pt, List.isPrefixOf, List.cons_prefix_cons, List.nil_prefix, row_tup (H.known k), cut1, ofString_inj, house_1, h1, h2, e1, noList, noLists, noLists_marks, hm, er, ec, ef, e3, el]
theorem move_not (b : Bool) (ks : List Str) (H : Mv.House Str) (k : Str) (hk : k ∈ ks) (hh : (H.known k).st ≠ .here) : S_House_move [.pt [0], .py (.str k)] [houseT (hI b) ks H] = some (.ex "NotHere" [houseT (hI b) ks H]) := by
  have e1 := has_ok ([.un (), .un (), .un (), .un (), .un (), houseT (hI b) ks H]) 5 [] (hI b) ks H k rfl hk
  simp only [hh, decide_false] at e1
  unfold S_House_move b_House_move
  unfold houseT at *
  simp [runF, Fx.Hd.own, Fx.TL.er, Fx.erAll, Fx.TL.get, Fx.TL.put, Fx.gget, Fx.gput, Fx.TL.addrs, Fx.TL.data, Fx.dataAll, Fx.msk, Fx.mulOk, Fx.addF, Fx.subF, Fx.mulF, Fx.fdivF, Fx.modF, Fx.powF, Fx.ltF, Fx.leF, Fx.gtF, Fx.geF, Fx.eqD, Fx.eqF, Fx.neF, Fx.isF, Fx.isntF, Fx.lenF, Fx.kindF, Fx.kitF, Fx.keyF, Fx.ixS, Fx.ixK, Fx.vVar, Fx.vC, Fx.vAt, Fx.dat, Fx.vD, Fx.vS, Fx.vPy, Fx.d2, Fx.dB, Fx.vB, Fx.bV, Fx.child, Fx.kidAt, Fx.vIdx, Fx.vGet, Fx.vFld, Fx.vLen, Fx.kindS, Fx.vIsi, Fx.vIsi2, Fx.aNil, Fx.aCons, Fx.vTup, Fx.nLst, Fx.vFz, Fx.bAnd, Fx.bOr, Fx.bNot, Fx.vIf, Fx.oNo, Fx.oI, Fx.vSlc, Fx.nSlc, Fx.negF, Fx.dNeg, Fx.rLenN, Fx.rIsiN, Fx.rIsiN2, Fx.nDct0, Fx.nDdt0, Fx.lendF, Fx.backF, Fx.headLt, Fx.voidF, Fx.tidy, Fx.callF, Fx.makeF, Fx.fP, Fx.fN, Fx.fB, Fx.rootF, Fx.dropLastF, Fx.fZ, Fx.push, Fx.gNo, Fx.gCo, Fx.fCall, Fx.fMake, Fx.fMeth, Fx.fBin2, Fx.fCmp2, Fx.fAnd, Fx.fOr, Fx.fNot, Fx.fBo, Fx.fMv, Fx.fOn, Fx.sNx, Fx.sBk, Fx.sCt, Fx.sRN, Fx.sSq, Fx.sDr, Fx.sRt, Fx.sIf, Fx.gN, Fx.gT0, Fx.gTC, Fx.gTu, Fx.takeRoot, Fx.sAs, Fx.sAt, Fx.childF, Fx.kidF, Fx.belowF, Fx.putAt, Fx.sFl, Fx.sPu, Fx.sSL, Fx.topPt, Fx.popTm, Fx.pushPt, Fx.sAp, Fx.sEx, Fx.fPop, Fx.sDe, Fx.pyAll, Fx.sEt, Fx.sFo, Fx.sFu, Fx.rngF, Fx.sFr, Fx.shiftS, Fx.lentF, Fx.dCall, Fx.nCall, Fx.iL, Fx.iLn, Fx.iT, Fx.iR, Fx.wipeR, Fx.bYes, Fx.nLc, Fx.boolsF, Fx.allF, Fx.d1, Fx.maxF, Fx.intF, Fx.nCopy, Fx.strsF, Fx.joinF, Fx.sRaise, Fx.intsF, Fx.inF, Fx.sAug, Fx.nDcp, Fx.keyD, Fx.iIt, Fx.nLock, Fx.wNo, Fx.wCo, Fx.vCallR, Fx.vMethR, Fx.key1, Fx.isK1, Fx.fSort1, Fx.fTupOf, Fx.aStar, Fx.nDc, Fx.dTup, Fx.dLst, Fx.gathF, Fx.dispF, Fx.allPy, Fx.popN, Fx.fTup, Fx.fLst, Fx.fDct, Fx.vGet2, Fx.keysF, Fx.kTup, Fx.vGetT2, Fx.vGetT, Fx.sPuT, Fx.sAt2, msk_py, msk_no, msk_pt, List.isPrefixOf, List.cons_prefix_cons, List.nil_prefix, ofString_inj, e1]
end Mo


namespace Mo
open PySem L2 Fx
theorem cell_at_in (l : List Int) (k : Nat) (h : k < l.length) : S__law_cell_at [.py (.list (l.map .int)), .py (.int k)] [] = some (.vl (.s (.py (.int l[k]))) []) := by
  have e : atI (l.map PyData.int) (k : Int) = some (.int l[k]) := by rw [atI_nat (by simpa using h)]; simp
  simp [S__law_cell_at, b__law_cell_at, runF, Fx.Hd.own, Fx.TL.er, Fx.erAll, Fx.TL.get, Fx.TL.put, Fx.gget, Fx.gput, Fx.TL.addrs, Fx.TL.data, Fx.dataAll, Fx.msk, Fx.mulOk, Fx.addF, Fx.subF, Fx.mulF, Fx.fdivF, Fx.modF, Fx.powF, Fx.ltF, Fx.leF, Fx.gtF, Fx.geF, Fx.eqD, Fx.eqF, Fx.neF, Fx.isF, Fx.isntF, Fx.idxF, Fx.lenF, Fx.kindF, Fx.kitF, Fx.keyF, Fx.ixS, Fx.ixK, Fx.vVar, Fx.vC, Fx.vAt, Fx.dat, Fx.vD, Fx.vS, Fx.vPy, Fx.d2, Fx.dB, Fx.vB, Fx.bV, Fx.child, Fx.kidAt, Fx.vIdx, Fx.vGet, Fx.vFld, Fx.vLen, Fx.kindS, Fx.vIsi, Fx.vIsi2, Fx.aNil, Fx.aCons, Fx.vTup, Fx.nLst, Fx.vFz, Fx.bAnd, Fx.bOr, Fx.bNot, Fx.vIf, Fx.oNo, Fx.oI, Fx.cutF, Fx.vSlc, Fx.nSlc, Fx.negF, Fx.dNeg, Fx.rLenN, Fx.rIsiN, Fx.rIsiN2, Fx.nDct0, Fx.nDdt0, Fx.lendF, Fx.backF, Fx.headLt, Fx.voidF, Fx.tidy, Fx.callF, Fx.makeF, Fx.fP, Fx.fN, Fx.fB, Fx.rootF, Fx.dropLastF, Fx.fZ, Fx.push, Fx.gNo, Fx.gCo, Fx.fCall, Fx.fMake, Fx.fMeth, Fx.fBin2, Fx.fCmp2, Fx.fAnd, Fx.fOr, Fx.fNot, Fx.fBo, Fx.fMv, Fx.fOn, Fx.sNx, Fx.sBk, Fx.sCt, Fx.sRN, Fx.sSq, Fx.sDr, Fx.sRt, Fx.sIf, Fx.gN, Fx.gT0, Fx.gTC, Fx.gTu, Fx.takeRoot, Fx.sAs, Fx.sAt, Fx.childF, Fx.kidF, Fx.belowF, Fx.putAt, Fx.sFl, Fx.sPu, Fx.sSL, Fx.topPt, Fx.popTm, Fx.pushPt, Fx.sAp, Fx.sEx, Fx.fPop, Fx.sDe, Fx.pyAll, Fx.sEt, Fx.sFo, Fx.sFu, Fx.rngF, Fx.sFr, Fx.shiftS, Fx.lentF, Fx.dCall, Fx.nCall, Fx.iL, Fx.iLn, Fx.iT, Fx.iR, Fx.wipeR, Fx.bYes, Fx.nLc, Fx.boolsF, Fx.allF, Fx.d1, Fx.maxF, Fx.intF, Fx.nCopy, Fx.strsF, Fx.joinF, Fx.sRaise, Fx.intsF, Fx.inF, Fx.sAug, Fx.nDcp, Fx.keyD, Fx.iIt, Fx.nLock, Fx.wNo, Fx.wCo, Fx.vCallR, Fx.vMethR, Fx.key1, Fx.isK1, Fx.fSort1, Fx.fTupOf, Fx.aStar, Fx.nDc, Fx.dTup, Fx.dLst, Fx.gathF, Fx.dispF, Fx.allPy, Fx.popN, Fx.fTup, Fx.fLst, Fx.fDct, Fx.vGet2, Fx.keysF, Fx.kTup, Fx.vGetT2, Fx.vGetT, Fx.sPuT, Fx.sAt2, msk_py, msk_no, msk_pt, List.isPrefixOf, List.cons_prefix_cons, List.nil_prefix, h, e]
theorem cell_at_out (l : List Int) (k : Nat) (h : ¬ k < l.length) : S__law_cell_at [.py (.list (l.map .int)), .py (.int k)] [] = some (.vl (.s (.py (.int 0))) []) := by
  simp [S__law_cell_at, b__law_cell_at, runF, Fx.Hd.own, Fx.TL.er, Fx.erAll, Fx.TL.get, Fx.TL.put, Fx.gget, Fx.gput, Fx.TL.addrs, Fx.TL.data, Fx.dataAll, Fx.msk, Fx.mulOk, Fx.addF, Fx.subF, Fx.mulF, Fx.fdivF, Fx.modF, Fx.powF, Fx.ltF, Fx.leF, Fx.gtF, Fx.geF, Fx.eqD, Fx.eqF, Fx.neF, Fx.isF, Fx.isntF, Fx.idxF, Fx.lenF, Fx.kindF, Fx.kitF, Fx.keyF, Fx.ixS, Fx.ixK, Fx.vVar, Fx.vC, Fx.vAt, Fx.dat, Fx.vD, Fx.vS, Fx.vPy, Fx.d2, Fx.dB, Fx.vB, Fx.bV, Fx.child, Fx.kidAt, Fx.vIdx, Fx.vGet, Fx.vFld, Fx.vLen, Fx.kindS, Fx.vIsi, Fx.vIsi2, Fx.aNil, Fx.aCons, Fx.vTup, Fx.nLst, Fx.vFz, Fx.bAnd, Fx.bOr, Fx.bNot, Fx.vIf, Fx.oNo, Fx.oI, Fx.cutF, Fx.vSlc, Fx.nSlc, Fx.negF, Fx.dNeg, Fx.rLenN, Fx.rIsiN, Fx.rIsiN2, Fx.nDct0, Fx.nDdt0, Fx.lendF, Fx.backF, Fx.headLt, Fx.voidF, Fx.tidy, Fx.callF, Fx.makeF, Fx.fP, Fx.fN, Fx.fB, Fx.rootF, Fx.dropLastF, Fx.fZ, Fx.push, Fx.gNo, Fx.gCo, Fx.fCall, Fx.fMake, Fx.fMeth, Fx.fBin2, Fx.fCmp2, Fx.fAnd, Fx.fOr, Fx.fNot, Fx.fBo, Fx.fMv, Fx.fOn, Fx.sNx, Fx.sBk, Fx.sCt, Fx.sRN, Fx.sSq, Fx.sDr, Fx.sRt, Fx.sIf, Fx.gN, Fx.gT0, Fx.gTC, Fx.gTu, Fx.takeRoot, Fx.sAs, Fx.sAt, Fx.childF, Fx.kidF, Fx.belowF, Fx.putAt, Fx.sFl, Fx.sPu, Fx.sSL, Fx.topPt, Fx.popTm, Fx.pushPt, Fx.sAp, Fx.sEx, Fx.fPop, Fx.sDe, Fx.pyAll, Fx.sEt, Fx.sFo, Fx.sFu, Fx.rngF, Fx.sFr, Fx.shiftS, Fx.lentF, Fx.dCall, Fx.nCall, Fx.iL, Fx.iLn, Fx.iT, Fx.iR, Fx.wipeR, Fx.bYes, Fx.nLc, Fx.boolsF, Fx.allF, Fx.d1, Fx.maxF, Fx.intF, Fx.nCopy, Fx.strsF, Fx.joinF, Fx.sRaise, Fx.intsF, Fx.inF, Fx.sAug, Fx.nDcp, Fx.keyD, Fx.iIt, Fx.nLock, Fx.wNo, Fx.wCo, Fx.vCallR, Fx.vMethR, Fx.key1, Fx.isK1, Fx.fSort1, Fx.fTupOf, Fx.aStar, Fx.nDc, Fx.dTup, Fx.dLst, Fx.gathF, Fx.dispF, Fx.allPy, Fx.popN, Fx.fTup, Fx.fLst, Fx.fDct, Fx.vGet2, Fx.keysF, Fx.kTup, Fx.vGetT2, Fx.vGetT, Fx.sPuT, Fx.sAt2, msk_py, msk_no, msk_pt, List.isPrefixOf, List.cons_prefix_cons, List.nil_prefix, h]
def cell (l : List Int) (k : Nat) : Int := l.getD k 0
theorem cell_at (l : List Int) (k : Nat) : S__law_cell_at [.py (.list (l.map .int)), .py (.int k)] [] = some (.vl (.s (.py (.int (cell l k)))) []) := by
  by_cases h : k < l.length
  · rw [cell_at_in l k h]; simp [cell, h]
  · rw [cell_at_out l k h]; simp [cell, h]
theorem rngF_nat {n : Nat} (h : n ≤ 100000) : rngF [.int (n : Int)] = some ((List.range n).map fun i : Nat => .int (i : Int)) := by
  unfold rngF
  have : -(2 ^ 62) ≤ (n : Int) ∧ (n : Int) < 2 ^ 62 := by omega
  simp only [this, and_self, if_true, Int.toNat_natCast]
/-- plain data: whole numbers, texts, lists and tuples of them, not deeper than n -/
inductive Plain : Nat → PyData → Prop
  | int (n : Nat) (i : Int) : Plain n (.int i)
  | str (n : Nat) (x : Str) (h : x.length ≤ 16777216) : Plain n (.str x)
  | lst (n : Nat) (ds : List PyData) (h : ds.length ≤ 100000) (hd : ∀ d ∈ ds, Plain n d) : Plain (n + 1) (.list ds)
  | tup (n : Nat) (ds : List PyData) (h : ds.length ≤ 100000) (hd : ∀ d ∈ ds, Plain n d) : Plain (n + 1) (.tuple ds)
theorem Plain.up {n m : Nat} {d : PyData} (h : Plain n d) (hm : n ≤ m) : Plain m d := by
  induction h generalizing m with
  | int => exact .int _ _
  | str n x h => exact .str _ _ h
  | lst n ds h _ ih =>
    cases m with
    | zero => omega
    | succ m => exact .lst _ _ h fun d hd => ih d hd (by omega)
  | tup n ds h _ ih =>
    cases m with
    | zero => omega
    | succ m => exact .tup _ _ h fun d hd => ih d hd (by omega)
theorem yes_all (n : Nat) : boolsF ((List.range n).map fun i : Nat => PyData.bool true) = some ((List.range n).map fun _ => true) := boolsF_map _ fun _ => true
theorem alike_int (n : Nat) (i : Int) : SL__law_alike (n + 1) [.py (.int i), .py (.int i)] [] = some (.vl (.s (.py (.bool true))) []) := by
  rw [SL__law_alike]
  simp [b__law_alike, runF, Fx.Hd.own, Fx.TL.er, Fx.erAll, Fx.TL.get, Fx.TL.put, Fx.gget, Fx.gput, Fx.TL.addrs, Fx.TL.data, Fx.dataAll, Fx.msk, Fx.mulOk, Fx.addF, Fx.subF, Fx.mulF, Fx.fdivF, Fx.modF, Fx.powF, Fx.ltF, Fx.leF, Fx.gtF, Fx.geF, Fx.eqD, Fx.eqF, Fx.neF, Fx.isF, Fx.isntF, Fx.idxF, Fx.lenF, Fx.kindF, Fx.kitF, Fx.keyF, Fx.ixS, Fx.ixK, Fx.vVar, Fx.vC, Fx.vAt, Fx.dat, Fx.vD, Fx.vS, Fx.vPy, Fx.d2, Fx.dB, Fx.vB, Fx.bV, Fx.child, Fx.kidAt, Fx.vIdx, Fx.vGet, Fx.vFld, Fx.vLen, Fx.kindS, Fx.vIsi, Fx.vIsi2, Fx.aNil, Fx.aCons, Fx.vTup, Fx.nLst, Fx.vFz, Fx.bAnd, Fx.bOr, Fx.bNot, Fx.vIf, Fx.oNo, Fx.oI, Fx.cutF, Fx.vSlc, Fx.nSlc, Fx.negF, Fx.dNeg, Fx.rLenN, Fx.rIsiN, Fx.rIsiN2, Fx.nDct0, Fx.nDdt0, Fx.lendF, Fx.backF, Fx.headLt, Fx.voidF, Fx.tidy, Fx.callF, Fx.makeF, Fx.fP, Fx.fN, Fx.fB, Fx.rootF, Fx.dropLastF, Fx.fZ, Fx.push, Fx.gNo, Fx.gCo, Fx.fCall, Fx.fMake, Fx.fMeth, Fx.fBin2, Fx.fCmp2, Fx.fAnd, Fx.fOr, Fx.fNot, Fx.fBo, Fx.fMv, Fx.fOn, Fx.sNx, Fx.sBk, Fx.sCt, Fx.sRN, Fx.sSq, Fx.sDr, Fx.sRt, Fx.sIf, Fx.gN, Fx.gT0, Fx.gTC, Fx.gTu, Fx.takeRoot, Fx.sAs, Fx.sAt, Fx.childF, Fx.kidF, Fx.belowF, Fx.putAt, Fx.sFl, Fx.sPu, Fx.sSL, Fx.topPt, Fx.popTm, Fx.pushPt, Fx.sAp, Fx.sEx, Fx.fPop, Fx.sDe, Fx.pyAll, Fx.sEt, Fx.sFo, Fx.sFu, Fx.rngF, Fx.sFr, Fx.shiftS, Fx.lentF, Fx.dCall, Fx.nCall, Fx.iL, Fx.iLn, Fx.iT, Fx.iR, Fx.wipeR, Fx.bYes, Fx.nLc, Fx.boolsF, Fx.allF, Fx.d1, Fx.maxF, Fx.intF, Fx.nCopy, Fx.strsF, Fx.joinF, Fx.sRaise, Fx.intsF, Fx.inF, Fx.sAug, Fx.nDcp, Fx.keyD, Fx.iIt, Fx.nLock, Fx.wNo, Fx.wCo, Fx.vCallR, Fx.vMethR, Fx.key1, Fx.isK1, Fx.fSort1, Fx.fTupOf, Fx.aStar, Fx.nDc, Fx.dTup, Fx.dLst, Fx.gathF, Fx.dispF, Fx.allPy, Fx.popN, Fx.fTup, Fx.fLst, Fx.fDct, Fx.vGet2, Fx.keysF, Fx.kTup, Fx.vGetT2, Fx.vGetT, Fx.sPuT, Fx.sAt2, msk_py, msk_no, msk_pt, List.isPrefixOf, List.cons_prefix_cons, List.nil_prefix]
theorem alike_str (n : Nat) (x : Str) : SL__law_alike (n + 1) [.py (.str x), .py (.str x)] [] = some (.vl (.s (.py (.bool true))) []) := by
  rw [SL__law_alike]
  simp [b__law_alike, runF, Fx.Hd.own, Fx.TL.er, Fx.erAll, Fx.TL.get, Fx.TL.put, Fx.gget, Fx.gput, Fx.TL.addrs, Fx.TL.data, Fx.dataAll, Fx.msk, Fx.mulOk, Fx.addF, Fx.subF, Fx.mulF, Fx.fdivF, Fx.modF, Fx.powF, Fx.ltF, Fx.leF, Fx.gtF, Fx.geF, Fx.eqD, Fx.eqF, Fx.neF, Fx.isF, Fx.isntF, Fx.idxF, Fx.lenF, Fx.kindF, Fx.kitF, Fx.keyF, Fx.ixS, Fx.ixK, Fx.vVar, Fx.vC, Fx.vAt, Fx.dat, Fx.vD, Fx.vS, Fx.vPy, Fx.d2, Fx.dB, Fx.vB, Fx.bV, Fx.child, Fx.kidAt, Fx.vIdx, Fx.vGet, Fx.vFld, Fx.vLen, Fx.kindS, Fx.vIsi, Fx.vIsi2, Fx.aNil, Fx.aCons, Fx.vTup, Fx.nLst, Fx.vFz, Fx.bAnd, Fx.bOr, Fx.bNot, Fx.vIf, Fx.oNo, Fx.oI, Fx.cutF, Fx.vSlc, Fx.nSlc, Fx.negF, Fx.dNeg, Fx.rLenN, Fx.rIsiN, Fx.rIsiN2, Fx.nDct0, Fx.nDdt0, Fx.lendF, Fx.backF, Fx.headLt, Fx.voidF, Fx.tidy, Fx.callF, Fx.makeF, Fx.fP, Fx.fN, Fx.fB, Fx.rootF, Fx.dropLastF, Fx.fZ, Fx.push, Fx.gNo, Fx.gCo, Fx.fCall, Fx.fMake, Fx.fMeth, Fx.fBin2, Fx.fCmp2, Fx.fAnd, Fx.fOr, Fx.fNot, Fx.fBo, Fx.fMv, Fx.fOn, Fx.sNx, Fx.sBk, Fx.sCt, Fx.sRN, Fx.sSq, Fx.sDr, Fx.sRt, Fx.sIf, Fx.gN, Fx.gT0, Fx.gTC, Fx.gTu, Fx.takeRoot, Fx.sAs, Fx.sAt, Fx.childF, Fx.kidF, Fx.belowF, Fx.putAt, Fx.sFl, Fx.sPu, Fx.sSL, Fx.topPt, Fx.popTm, Fx.pushPt, Fx.sAp, Fx.sEx, Fx.fPop, Fx.sDe, Fx.pyAll, Fx.sEt, Fx.sFo, Fx.sFu, Fx.rngF, Fx.sFr, Fx.shiftS, Fx.lentF, Fx.dCall, Fx.nCall, Fx.iL, Fx.iLn, Fx.iT, Fx.iR, Fx.wipeR, Fx.bYes, Fx.nLc, Fx.boolsF, Fx.allF, Fx.d1, Fx.maxF, Fx.intF, Fx.nCopy, Fx.strsF, Fx.joinF, Fx.sRaise, Fx.intsF, Fx.inF, Fx.sAug, Fx.nDcp, Fx.keyD, Fx.iIt, Fx.nLock, Fx.wNo, Fx.wCo, Fx.vCallR, Fx.vMethR, Fx.key1, Fx.isK1, Fx.fSort1, Fx.fTupOf, Fx.aStar, Fx.nDc, Fx.dTup, Fx.dLst, Fx.gathF, Fx.dispF, Fx.allPy, Fx.popN, Fx.fTup, Fx.fLst, Fx.fDct, Fx.vGet2, Fx.keysF, Fx.kTup, Fx.vGetT2, Fx.vGetT, Fx.sPuT, Fx.sAt2, msk_py, msk_no, msk_pt, List.isPrefixOf, List.cons_prefix_cons, List.nil_prefix]
theorem alike_el (S : Sem) (d e : PyData) (ds es : List PyData) (i : Nat) (sl : List (Option Sv)) (tm : List (Option Sv)) (g : List T) (bs : Nat) (hd : d = .list ds ∨ d = .tuple ds) (he : e = .list es ∨ e = .tuple es) (hi : i < ds.length) (hj : i < es.length) (ih : S [.py ds[i], .py es[i]] [] = some (.vl (.s (.py (.bool true))) [])) : vS (dCall S (aCons (vD (vIdx (vVar 0) (vD (vVar 2)))) (aCons (vD (vIdx (vVar 1) (vD (vVar 2)))) aNil))) ⟨some (.py d) :: some (.py e) :: some (.py (.int i)) :: sl, tm, g, bs⟩ = some (.py (.bool true)) := by
  rcases hd with rfl | rfl <;> rcases he with rfl | rfl <;> simp [Fx.Hd.own, Fx.TL.er, Fx.erAll, Fx.TL.get, Fx.TL.put, Fx.gget, Fx.gput, Fx.TL.addrs, Fx.TL.data, Fx.dataAll, Fx.msk, Fx.mulOk, Fx.addF, Fx.subF, Fx.mulF, Fx.fdivF, Fx.modF, Fx.powF, Fx.ltF, Fx.leF, Fx.gtF, Fx.geF, Fx.eqD, Fx.eqF, Fx.neF, Fx.isF, Fx.isntF, Fx.idxF, Fx.lenF, Fx.kindF, Fx.kitF, Fx.keyF, Fx.ixS, Fx.ixK, Fx.vVar, Fx.vC, Fx.vAt, Fx.dat, Fx.vD, Fx.vS, Fx.vPy, Fx.d2, Fx.dB, Fx.vB, Fx.bV, Fx.child, Fx.kidAt, Fx.vIdx, Fx.vGet, Fx.vFld, Fx.vLen, Fx.kindS, Fx.vIsi, Fx.vIsi2, Fx.aNil, Fx.aCons, Fx.vTup, Fx.nLst, Fx.vFz, Fx.bAnd, Fx.bOr, Fx.bNot, Fx.vIf, Fx.oNo, Fx.oI, Fx.cutF, Fx.vSlc, Fx.nSlc, Fx.negF, Fx.dNeg, Fx.rLenN, Fx.rIsiN, Fx.rIsiN2, Fx.nDct0, Fx.nDdt0, Fx.lendF, Fx.backF, Fx.headLt, Fx.voidF, Fx.tidy, Fx.callF, Fx.makeF, Fx.fP, Fx.fN, Fx.fB, Fx.rootF, Fx.dropLastF, Fx.fZ, Fx.push, Fx.gNo, Fx.gCo, Fx.fCall, Fx.fMake, Fx.fMeth, Fx.fBin2, Fx.fCmp2, Fx.fAnd, Fx.fOr, Fx.fNot, Fx.fBo, Fx.fMv, Fx.fOn, Fx.sNx, Fx.sBk, Fx.sCt, Fx.sRN, Fx.sSq, Fx.sDr, Fx.sRt, Fx.sIf, Fx.gN, Fx.gT0, Fx.gTC, Fx.gTu, Fx.takeRoot, Fx.sAs, Fx.sAt, Fx.childF, Fx.kidF, Fx.belowF, Fx.putAt, Fx.sFl, Fx.sPu, Fx.sSL, Fx.topPt, Fx.popTm, Fx.pushPt, Fx.sAp, Fx.sEx, Fx.fPop, Fx.sDe, Fx.pyAll, Fx.sEt, Fx.sFo, Fx.sFu, Fx.rngF, Fx.sFr, Fx.shiftS, Fx.lentF, Fx.dCall, Fx.nCall, Fx.iL, Fx.iLn, Fx.iT, Fx.iR, Fx.wipeR, Fx.bYes, Fx.nLc, Fx.boolsF, Fx.allF, Fx.d1, Fx.maxF, Fx.intF, Fx.nCopy, Fx.strsF, Fx.joinF, Fx.sRaise, Fx.intsF, Fx.inF, Fx.sAug, Fx.nDcp, Fx.keyD, Fx.iIt, Fx.nLock, Fx.wNo, Fx.wCo, Fx.vCallR, Fx.vMethR, Fx.key1, Fx.isK1, Fx.fSort1, Fx.fTupOf, Fx.aStar, Fx.nDc, Fx.dTup, Fx.dLst, Fx.gathF, Fx.dispF, Fx.allPy, Fx.popN, Fx.fTup, Fx.fLst, Fx.fDct, Fx.vGet2, Fx.keysF, Fx.kTup, Fx.vGetT2, Fx.vGetT, Fx.sPuT, Fx.sAt2, msk_py, msk_no, msk_pt, List.isPrefixOf, List.cons_prefix_cons, List.nil_prefix, atI_nat hi, atI_nat hj, ih, noList]
theorem alike_el2 (S : Sem) (d : PyData) (ds es : List PyData) (i : Nat) (sl : List (Option Sv)) (tm : List (Option Sv)) (g : List T) (bs : Nat) (hg : g[3]? = some (.nd () .lst (es.map .py))) (hd : d = .list ds ∨ d = .tuple ds) (hi : i < ds.length) (hj : i < es.length) (ih : S [.py ds[i], .py es[i]] [] = some (.vl (.s (.py (.bool true))) [])) : vS (dCall S (aCons (vD (vIdx (vVar 0) (vD (vVar 2)))) (aCons (vD (vIdx (vVar 1) (vD (vVar 2)))) aNil))) ⟨some (.py d) :: some (.pt [3]) :: some (.py (.int i)) :: sl, tm, g, bs⟩ = some (.py (.bool true)) := by
  have e : ixN (es.map (TL.py : PyData → T)).length (i : Int) = some i := Evl.ixN_nat (by simpa using hj)
  simp only [List.length_map] at e
  rcases hd with rfl | rfl <;> simp [Fx.Hd.own, Fx.TL.er, Fx.erAll, Fx.TL.get, Fx.TL.put, Fx.gget, Fx.gput, Fx.TL.addrs, Fx.TL.data, Fx.dataAll, Fx.msk, Fx.mulOk, Fx.addF, Fx.subF, Fx.mulF, Fx.fdivF, Fx.modF, Fx.powF, Fx.ltF, Fx.leF, Fx.gtF, Fx.geF, Fx.eqD, Fx.eqF, Fx.neF, Fx.isF, Fx.isntF, Fx.idxF, Fx.lenF, Fx.kindF, Fx.kitF, Fx.keyF, Fx.ixS, Fx.ixK, Fx.vVar, Fx.vC, Fx.vAt, Fx.dat, Fx.vD, Fx.vS, Fx.vPy, Fx.d2, Fx.dB, Fx.vB, Fx.bV, Fx.child, Fx.kidAt, Fx.vIdx, Fx.vGet, Fx.vFld, Fx.vLen, Fx.kindS, Fx.vIsi, Fx.vIsi2, Fx.aNil, Fx.aCons, Fx.vTup, Fx.nLst, Fx.vFz, Fx.bAnd, Fx.bOr, Fx.bNot, Fx.vIf, Fx.oNo, Fx.oI, Fx.cutF, Fx.vSlc, Fx.nSlc, Fx.negF, Fx.dNeg, Fx.rLenN, Fx.rIsiN, Fx.rIsiN2, Fx.nDct0, Fx.nDdt0, Fx.lendF, Fx.backF, Fx.headLt, Fx.voidF, Fx.tidy, Fx.callF, Fx.makeF, Fx.fP, Fx.fN, Fx.fB, Fx.rootF, Fx.dropLastF, Fx.fZ, Fx.push, Fx.gNo, Fx.gCo, Fx.fCall, Fx.fMake, Fx.fMeth, Fx.fBin2, Fx.fCmp2, Fx.fAnd, Fx.fOr, Fx.fNot, Fx.fBo, Fx.fMv, Fx.fOn, Fx.sNx, Fx.sBk, Fx.sCt, Fx.sRN, Fx.sSq, Fx.sDr, Fx.sRt, Fx.sIf, Fx.gN, Fx.gT0, Fx.gTC, Fx.gTu, Fx.takeRoot, Fx.sAs, Fx.sAt, Fx.childF, Fx.kidF, Fx.belowF, Fx.putAt, Fx.sFl, Fx.sPu, Fx.sSL, Fx.topPt, Fx.popTm, Fx.pushPt, Fx.sAp, Fx.sEx, Fx.fPop, Fx.sDe, Fx.pyAll, Fx.sEt, Fx.sFo, Fx.sFu, Fx.rngF, Fx.sFr, Fx.shiftS, Fx.lentF, Fx.dCall, Fx.nCall, Fx.iL, Fx.iLn, Fx.iT, Fx.iR, Fx.wipeR, Fx.bYes, Fx.nLc, Fx.boolsF, Fx.allF, Fx.d1, Fx.maxF, Fx.intF, Fx.nCopy, Fx.strsF, Fx.joinF, Fx.sRaise, Fx.intsF, Fx.inF, Fx.sAug, Fx.nDcp, Fx.keyD, Fx.iIt, Fx.nLock, Fx.wNo, Fx.wCo, Fx.vCallR, Fx.vMethR, Fx.key1, Fx.isK1, Fx.fSort1, Fx.fTupOf, Fx.aStar, Fx.nDc, Fx.dTup, Fx.dLst, Fx.gathF, Fx.dispF, Fx.allPy, Fx.popN, Fx.fTup, Fx.fLst, Fx.fDct, Fx.vGet2, Fx.keysF, Fx.kTup, Fx.vGetT2, Fx.vGetT, Fx.sPuT, Fx.sAt2, msk_py, msk_no, msk_pt, List.isPrefixOf, List.cons_prefix_cons, List.nil_prefix, atI_nat hi, hg, e, hj, ih, noList]
theorem alike_bod (S : Sem) (f : Rh → Option (Hd × List PyData)) (hf : h__law_alike_1 S = f) (n : Nat) (d : PyData) (ds : List PyData) (hd : d = .list ds ∨ d = .tuple ds) (hc : f ⟨[some (.py d), some (.py d), none], [], [.un (), .un (), .un ()], 3⟩ = some (.lst, (List.range n).map fun i : Nat => PyData.bool true)) : runF 2 3 (b__law_alike S) [.py d, .py d] [] = some (.vl (.s (.py (.bool true))) []) := by
  unfold b__law_alike
  rw [hf]
  rcases hd with rfl | rfl <;> simp [runF, Fx.Hd.own, Fx.TL.er, Fx.erAll, Fx.TL.get, Fx.TL.put, Fx.gget, Fx.gput, Fx.TL.addrs, Fx.TL.data, Fx.dataAll, Fx.msk, Fx.mulOk, Fx.addF, Fx.subF, Fx.mulF, Fx.fdivF, Fx.modF, Fx.powF, Fx.ltF, Fx.leF, Fx.gtF, Fx.geF, Fx.eqD, Fx.eqF, Fx.neF, Fx.isF, Fx.isntF, Fx.idxF, Fx.lenF, Fx.kindF, Fx.kitF, Fx.keyF, Fx.ixS, Fx.ixK, Fx.vVar, Fx.vC, Fx.vAt, Fx.dat, Fx.vD, Fx.vS, Fx.vPy, Fx.d2, Fx.dB, Fx.vB, Fx.bV, Fx.child, Fx.kidAt, Fx.vIdx, Fx.vGet, Fx.vFld, Fx.vLen, Fx.kindS, Fx.vIsi, Fx.vIsi2, Fx.aNil, Fx.aCons, Fx.vTup, Fx.nLst, Fx.vFz, Fx.bAnd, Fx.bOr, Fx.bNot, Fx.vIf, Fx.oNo, Fx.oI, Fx.cutF, Fx.vSlc, Fx.nSlc, Fx.negF, Fx.dNeg, Fx.rLenN, Fx.rIsiN, Fx.rIsiN2, Fx.nDct0, Fx.nDdt0, Fx.lendF, Fx.backF, Fx.headLt, Fx.voidF, Fx.tidy, Fx.callF, Fx.makeF, Fx.fP, Fx.fN, Fx.fB, Fx.rootF, Fx.dropLastF, Fx.fZ, Fx.push, Fx.gNo, Fx.gCo, Fx.fCall, Fx.fMake, Fx.fMeth, Fx.fBin2, Fx.fCmp2, Fx.fAnd, Fx.fOr, Fx.fNot, Fx.fBo, Fx.fMv, Fx.fOn, Fx.sNx, Fx.sBk, Fx.sCt, Fx.sRN, Fx.sSq, Fx.sDr, Fx.sRt, Fx.sIf, Fx.gN, Fx.gT0, Fx.gTC, Fx.gTu, Fx.takeRoot, Fx.sAs, Fx.sAt, Fx.childF, Fx.kidF, Fx.belowF, Fx.putAt, Fx.sFl, Fx.sPu, Fx.sSL, Fx.topPt, Fx.popTm, Fx.pushPt, Fx.sAp, Fx.sEx, Fx.fPop, Fx.sDe, Fx.pyAll, Fx.sEt, Fx.sFo, Fx.sFu, Fx.rngF, Fx.sFr, Fx.shiftS, Fx.lentF, Fx.dCall, Fx.nCall, Fx.iL, Fx.iLn, Fx.iT, Fx.iR, Fx.wipeR, Fx.bYes, Fx.nLc, Fx.boolsF, Fx.allF, Fx.d1, Fx.maxF, Fx.intF, Fx.nCopy, Fx.strsF, Fx.joinF, Fx.sRaise, Fx.intsF, Fx.inF, Fx.sAug, Fx.nDcp, Fx.keyD, Fx.iIt, Fx.nLock, Fx.wNo, Fx.wCo, Fx.vCallR, Fx.vMethR, Fx.key1, Fx.isK1, Fx.fSort1, Fx.fTupOf, Fx.aStar, Fx.nDc, Fx.dTup, Fx.dLst, Fx.gathF, Fx.dispF, Fx.allPy, Fx.popN, Fx.fTup, Fx.fLst, Fx.fDct, Fx.vGet2, Fx.keysF, Fx.kTup, Fx.vGetT2, Fx.vGetT, Fx.sPuT, Fx.sAt2, msk_py, msk_no, msk_pt, List.isPrefixOf, List.cons_prefix_cons, List.nil_prefix, hc, yes_all, noList]
theorem alike_bod2 (S : Sem) (f : Rh → Option (Hd × List PyData)) (hf : h__law_alike_1 S = f) (n : Nat) (ds : List PyData) (hc : f ⟨[some (.py (.list ds)), some (.pt [3]), none], [], [.un (), .un (), .un (), .nd () .lst (ds.map .py)], 4⟩ = some (.lst, (List.range n).map fun i : Nat => PyData.bool true)) : runF 2 3 (b__law_alike S) [.py (.list ds), .pt [0]] [.nd () .lst (ds.map .py)] = some (.vl (.s (.py (.bool true))) [.nd () .lst (ds.map .py)]) := by
  unfold b__law_alike
  rw [hf]
  simp [runF, Fx.Hd.own, Fx.TL.er, Fx.erAll, Fx.TL.get, Fx.TL.put, Fx.gget, Fx.gput, Fx.TL.addrs, Fx.TL.data, Fx.dataAll, Fx.msk, Fx.mulOk, Fx.addF, Fx.subF, Fx.mulF, Fx.fdivF, Fx.modF, Fx.powF, Fx.ltF, Fx.leF, Fx.gtF, Fx.geF, Fx.eqD, Fx.eqF, Fx.neF, Fx.isF, Fx.isntF, Fx.idxF, Fx.lenF, Fx.kindF, Fx.kitF, Fx.keyF, Fx.ixS, Fx.ixK, Fx.vVar, Fx.vC, Fx.vAt, Fx.dat, Fx.vD, Fx.vS, Fx.vPy, Fx.d2, Fx.dB, Fx.vB, Fx.bV, Fx.child, Fx.kidAt, Fx.vIdx, Fx.vGet, Fx.vFld, Fx.vLen, Fx.kindS, Fx.vIsi, Fx.vIsi2, Fx.aNil, Fx.aCons, Fx.vTup, Fx.nLst, Fx.vFz, Fx.bAnd, Fx.bOr, Fx.bNot, Fx.vIf, Fx.oNo, Fx.oI, Fx.cutF, Fx.vSlc, Fx.nSlc, Fx.negF, Fx.dNeg, Fx.rLenN, Fx.rIsiN, Fx.rIsiN2, Fx.nDct0, Fx.nDdt0, Fx.lendF, Fx.backF, Fx.headLt, Fx.voidF, Fx.tidy, Fx.callF, Fx.makeF, Fx.fP, Fx.fN, Fx.fB, Fx.rootF, Fx.dropLastF, Fx.fZ, Fx.push, Fx.gNo, Fx.gCo, Fx.fCall, Fx.fMake, Fx.fMeth, Fx.fBin2, Fx.fCmp2, Fx.fAnd, Fx.fOr, Fx.fNot, Fx.fBo, Fx.fMv, Fx.fOn, Fx.sNx, Fx.sBk, Fx.sCt, Fx.sRN, Fx.sSq, Fx.sDr, Fx.sRt, Fx.sIf, Fx.gN, Fx.gT0, Fx.gTC, Fx.gTu, Fx.takeRoot, Fx.sAs, Fx.sAt, Fx.childF, Fx.kidF, Fx.belowF, Fx.putAt, Fx.sFl, Fx.sPu, Fx.sSL, Fx.topPt, Fx.popTm, Fx.pushPt, Fx.sAp, Fx.sEx, Fx.fPop, Fx.sDe, Fx.pyAll, Fx.sEt, Fx.sFo, Fx.sFu, Fx.rngF, Fx.sFr, Fx.shiftS, Fx.lentF, Fx.dCall, Fx.nCall, Fx.iL, Fx.iLn, Fx.iT, Fx.iR, Fx.wipeR, Fx.bYes, Fx.nLc, Fx.boolsF, Fx.allF, Fx.d1, Fx.maxF, Fx.intF, Fx.nCopy, Fx.strsF, Fx.joinF, Fx.sRaise, Fx.intsF, Fx.inF, Fx.sAug, Fx.nDcp, Fx.keyD, Fx.iIt, Fx.nLock, Fx.wNo, Fx.wCo, Fx.vCallR, Fx.vMethR, Fx.key1, Fx.isK1, Fx.fSort1, Fx.fTupOf, Fx.aStar, Fx.nDc, Fx.dTup, Fx.dLst, Fx.gathF, Fx.dispF, Fx.allPy, Fx.popN, Fx.fTup, Fx.fLst, Fx.fDct, Fx.vGet2, Fx.keysF, Fx.kTup, Fx.vGetT2, Fx.vGetT, Fx.sPuT, Fx.sAt2, msk_py, msk_no, msk_pt, List.isPrefixOf, List.cons_prefix_cons, List.nil_prefix, hc, yes_all, noList]
theorem alike_seq (S : Sem) (d : PyData) (ds : List PyData) (hd : d = .list ds ∨ d = .tuple ds) (h : ds.length ≤ 100000) (ih : ∀ d ∈ ds, S [.py d, .py d] [] = some (.vl (.s (.py (.bool true))) [])) : runF 2 3 (b__law_alike S) [.py d, .py d] [] = some (.vl (.s (.py (.bool true))) []) := by
  refine alike_bod S _ rfl ds.length d ds hd ?_
  unfold h__law_alike_1
  have e := nLc_some (vs := [2]) (it := iR (aCons (vD (vLen (vVar 1))) aNil)) (tg := gN 2) (c := bYes) (e := vS (dCall S (aCons (vD (vIdx (vVar 0) (vD (vVar 2)))) (aCons (vD (vIdx (vVar 1) (vD (vVar 2)))) aNil)))) (ρ := ⟨[some (.py d), some (.py d), none], [], [.un (), .un (), .un ()], 3⟩) (ds := (List.range ds.length).map fun i : Nat => PyData.int (i : Int)) (xs := ((List.range ds.length).map fun i : Nat => PyData.int (i : Int)).map fun _ => .bool true) ?_ (by simpa using h) (collect_map _ fun x hx => ?_)
  · rw [List.map_map] at e; exact e
  · rcases hd with rfl | rfl <;> simp [Fx.Hd.own, Fx.TL.er, Fx.erAll, Fx.TL.get, Fx.TL.put, Fx.gget, Fx.gput, Fx.TL.addrs, Fx.TL.data, Fx.dataAll, Fx.msk, Fx.mulOk, Fx.addF, Fx.subF, Fx.mulF, Fx.fdivF, Fx.modF, Fx.powF, Fx.ltF, Fx.leF, Fx.gtF, Fx.geF, Fx.eqD, Fx.eqF, Fx.neF, Fx.isF, Fx.isntF, Fx.idxF, Fx.lenF, Fx.kindF, Fx.kitF, Fx.keyF, Fx.ixS, Fx.ixK, Fx.vVar, Fx.vC, Fx.vAt, Fx.dat, Fx.vD, Fx.vS, Fx.vPy, Fx.d2, Fx.dB, Fx.vB, Fx.bV, Fx.child, Fx.kidAt, Fx.vIdx, Fx.vGet, Fx.vFld, Fx.vLen, Fx.kindS, Fx.vIsi, Fx.vIsi2, Fx.aNil, Fx.aCons, Fx.vTup, Fx.nLst, Fx.vFz, Fx.bAnd, Fx.bOr, Fx.bNot, Fx.vIf, Fx.oNo, Fx.oI, Fx.cutF, Fx.vSlc, Fx.nSlc, Fx.negF, Fx.dNeg, Fx.rLenN, Fx.rIsiN, Fx.rIsiN2, Fx.nDct0, Fx.nDdt0, Fx.lendF, Fx.backF, Fx.headLt, Fx.voidF, Fx.tidy, Fx.callF, Fx.makeF, Fx.fP, Fx.fN, Fx.fB, Fx.rootF, Fx.dropLastF, Fx.fZ, Fx.push, Fx.gNo, Fx.gCo, Fx.fCall, Fx.fMake, Fx.fMeth, Fx.fBin2, Fx.fCmp2, Fx.fAnd, Fx.fOr, Fx.fNot, Fx.fBo, Fx.fMv, Fx.fOn, Fx.sNx, Fx.sBk, Fx.sCt, Fx.sRN, Fx.sSq, Fx.sDr, Fx.sRt, Fx.sIf, Fx.gN, Fx.gT0, Fx.gTC, Fx.gTu, Fx.takeRoot, Fx.sAs, Fx.sAt, Fx.childF, Fx.kidF, Fx.belowF, Fx.putAt, Fx.sFl, Fx.sPu, Fx.sSL, Fx.topPt, Fx.popTm, Fx.pushPt, Fx.sAp, Fx.sEx, Fx.fPop, Fx.sDe, Fx.pyAll, Fx.sEt, Fx.sFo, Fx.sFu, Fx.sFr, Fx.shiftS, Fx.lentF, Fx.dCall, Fx.nCall, Fx.iL, Fx.iLn, Fx.iT, Fx.iR, Fx.wipeR, Fx.bYes, Fx.nLc, Fx.boolsF, Fx.allF, Fx.d1, Fx.maxF, Fx.intF, Fx.nCopy, Fx.strsF, Fx.joinF, Fx.sRaise, Fx.intsF, Fx.inF, Fx.sAug, Fx.nDcp, Fx.keyD, Fx.iIt, Fx.nLock, Fx.wNo, Fx.wCo, Fx.vCallR, Fx.vMethR, Fx.key1, Fx.isK1, Fx.fSort1, Fx.fTupOf, Fx.aStar, Fx.nDc, Fx.dTup, Fx.dLst, Fx.gathF, Fx.dispF, Fx.allPy, Fx.popN, Fx.fTup, Fx.fLst, Fx.fDct, Fx.vGet2, Fx.keysF, Fx.kTup, Fx.vGetT2, Fx.vGetT, Fx.sPuT, Fx.sAt2, msk_py, msk_no, msk_pt, List.isPrefixOf, List.cons_prefix_cons, List.nil_prefix, rngF_nat h]
  · obtain ⟨i, hi, rfl⟩ := List.mem_map.mp hx
    have hi : i < ds.length := by simpa using hi
    exact ⟨_, rfl, rfl, alike_el S d d ds ds i [] _ _ _ hd hd hi hi (ih _ (by simp))⟩
theorem alike_tree (S : Sem) (ds : List PyData) (h : ds.length ≤ 100000) (ih : ∀ d ∈ ds, S [.py d, .py d] [] = some (.vl (.s (.py (.bool true))) [])) : runF 2 3 (b__law_alike S) [.py (.list ds), .pt [0]] [.nd () .lst (ds.map .py)] = some (.vl (.s (.py (.bool true))) [.nd () .lst (ds.map .py)]) := by
  refine alike_bod2 S _ rfl ds.length ds ?_
  unfold h__law_alike_1
  have e := nLc_some (vs := [2]) (it := iR (aCons (vD (vLen (vVar 1))) aNil)) (tg := gN 2) (c := bYes) (e := vS (dCall S (aCons (vD (vIdx (vVar 0) (vD (vVar 2)))) (aCons (vD (vIdx (vVar 1) (vD (vVar 2)))) aNil)))) (ρ := ⟨[some (.py (.list ds)), some (.pt [3]), none], [], [.un (), .un (), .un (), .nd () .lst (ds.map .py)], 4⟩) (ds := (List.range ds.length).map fun i : Nat => PyData.int (i : Int)) (xs := ((List.range ds.length).map fun i : Nat => PyData.int (i : Int)).map fun _ => .bool true) ?_ (by simpa using h) (collect_map _ fun x hx => ?_)
  · rw [List.map_map] at e; exact e
  · simp [Fx.Hd.own, Fx.TL.er, Fx.erAll, Fx.TL.get, Fx.TL.put, Fx.gget, Fx.gput, Fx.TL.addrs, Fx.TL.data, Fx.dataAll, Fx.msk, Fx.mulOk, Fx.addF, Fx.subF, Fx.mulF, Fx.fdivF, Fx.modF, Fx.powF, Fx.ltF, Fx.leF, Fx.gtF, Fx.geF, Fx.eqD, Fx.eqF, Fx.neF, Fx.isF, Fx.isntF, Fx.idxF, Fx.lenF, Fx.kindF, Fx.kitF, Fx.keyF, Fx.ixS, Fx.ixK, Fx.vVar, Fx.vC, Fx.vAt, Fx.dat, Fx.vD, Fx.vS, Fx.vPy, Fx.d2, Fx.dB, Fx.vB, Fx.bV, Fx.child, Fx.kidAt, Fx.vIdx, Fx.vGet, Fx.vFld, Fx.vLen, Fx.kindS, Fx.vIsi, Fx.vIsi2, Fx.aNil, Fx.aCons, Fx.vTup, Fx.nLst, Fx.vFz, Fx.bAnd, Fx.bOr, Fx.bNot, Fx.vIf, Fx.oNo, Fx.oI, Fx.cutF, Fx.vSlc, Fx.nSlc, Fx.negF, Fx.dNeg, Fx.rLenN, Fx.rIsiN, Fx.rIsiN2, Fx.nDct0, Fx.nDdt0, Fx.lendF, Fx.backF, Fx.headLt, Fx.voidF, Fx.tidy, Fx.callF, Fx.makeF, Fx.fP, Fx.fN, Fx.fB, Fx.rootF, Fx.dropLastF, Fx.fZ, Fx.push, Fx.gNo, Fx.gCo, Fx.fCall, Fx.fMake, Fx.fMeth, Fx.fBin2, Fx.fCmp2, Fx.fAnd, Fx.fOr, Fx.fNot, Fx.fBo, Fx.fMv, Fx.fOn, Fx.sNx, Fx.sBk, Fx.sCt, Fx.sRN, Fx.sSq, Fx.sDr, Fx.sRt, Fx.sIf, Fx.gN, Fx.gT0, Fx.gTC, Fx.gTu, Fx.takeRoot, Fx.sAs, Fx.sAt, Fx.childF, Fx.kidF, Fx.belowF, Fx.putAt, Fx.sFl, Fx.sPu, Fx.sSL, Fx.topPt, Fx.popTm, Fx.pushPt, Fx.sAp, Fx.sEx, Fx.fPop, Fx.sDe, Fx.pyAll, Fx.sEt, Fx.sFo, Fx.sFu, Fx.sFr, Fx.shiftS, Fx.lentF, Fx.dCall, Fx.nCall, Fx.iL, Fx.iLn, Fx.iT, Fx.iR, Fx.wipeR, Fx.bYes, Fx.nLc, Fx.boolsF, Fx.allF, Fx.d1, Fx.maxF, Fx.intF, Fx.nCopy, Fx.strsF, Fx.joinF, Fx.sRaise, Fx.intsF, Fx.inF, Fx.sAug, Fx.nDcp, Fx.keyD, Fx.iIt, Fx.nLock, Fx.wNo, Fx.wCo, Fx.vCallR, Fx.vMethR, Fx.key1, Fx.isK1, Fx.fSort1, Fx.fTupOf, Fx.aStar, Fx.nDc, Fx.dTup, Fx.dLst, Fx.gathF, Fx.dispF, Fx.allPy, Fx.popN, Fx.fTup, Fx.fLst, Fx.fDct, Fx.vGet2, Fx.keysF, Fx.kTup, Fx.vGetT2, Fx.vGetT, Fx.sPuT, Fx.sAt2, msk_py, msk_no, msk_pt, List.isPrefixOf, List.cons_prefix_cons, List.nil_prefix, rngF_nat h]
  · obtain ⟨i, hi, rfl⟩ := List.mem_map.mp hx
    have hi : i < ds.length := by simpa using hi
    exact ⟨_, rfl, rfl, alike_el2 S _ ds ds i [] _ _ _ rfl (.inl rfl) hi hi (ih _ (by simp))⟩
theorem alike_ok {n : Nat} {d : PyData} (h : Plain n d) : SL__law_alike (n + 1) [.py d, .py d] [] = some (.vl (.s (.py (.bool true))) []) := by
  induction h with
  | int n i => exact alike_int n i
  | str n x h => exact alike_str n x
  | lst n ds h _ ih => exact alike_seq _ _ ds (.inl rfl) h ih
  | tup n ds h _ ih => exact alike_seq _ _ ds (.inr rfl) h ih
theorem alike_okT {n : Nat} {ds : List PyData} (h : ds.length ≤ 100000) (hd : ∀ d ∈ ds, Plain n d) : SL__law_alike (n + 2) [.py (.list ds), .pt [0]] [.nd () .lst (ds.map .py)] = some (.vl (.s (.py (.bool true))) [.nd () .lst (ds.map .py)]) :=
  alike_tree _ ds h fun d h => alike_ok (hd d h)
/-! ### the wish -/
def wishOf (c : Int) : Mv.Wish :=
  let n := if c / 3 % 2 = 1 then c / 6 % (2 * 10 ^ 30 + 1) - 10 ^ 30 else c / 6 % 7 - 3
  if c % 3 = 0 then .get else if c % 3 = 1 then .set n else .add n
theorem wish_ok (c : Int) : S__law_wish [.py (.int c)] [] = some (.vl (.s (.py (wishD (wishOf c)))) []) := by
  have h3 : c % 3 = 0 ∨ c % 3 = 1 ∨ c % 3 = 2 := by omega
  by_cases h : c / 3 % 2 = 1
  · rcases h3 with h3 | h3 | h3 <;> simp [S__law_wish, b__law_wish, runF, Fx.Hd.own, Fx.TL.er, Fx.erAll, Fx.TL.get, Fx.TL.put, Fx.gget, Fx.gput, Fx.TL.addrs, Fx.TL.data, Fx.dataAll, Fx.msk, Fx.mulOk, Fx.addF, Fx.subF, Fx.mulF, Fx.fdivF, Fx.modF, Fx.powF, Fx.ltF, Fx.leF, Fx.gtF, Fx.geF, Fx.eqD, Fx.eqF, Fx.neF, Fx.isF, Fx.isntF, Fx.idxF, Fx.lenF, Fx.kindF, Fx.kitF, Fx.keyF, Fx.ixS, Fx.ixK, Fx.vVar, Fx.vC, Fx.vAt, Fx.dat, Fx.vD, Fx.vS, Fx.vPy, Fx.d2, Fx.dB, Fx.vB, Fx.bV, Fx.child, Fx.kidAt, Fx.vIdx, Fx.vGet, Fx.vFld, Fx.vLen, Fx.kindS, Fx.vIsi, Fx.vIsi2, Fx.aNil, Fx.aCons, Fx.vTup, Fx.nLst, Fx.vFz, Fx.bAnd, Fx.bOr, Fx.bNot, Fx.vIf, Fx.oNo, Fx.oI, Fx.cutF, Fx.vSlc, Fx.nSlc, Fx.negF, Fx.dNeg, Fx.rLenN, Fx.rIsiN, Fx.rIsiN2, Fx.nDct0, Fx.nDdt0, Fx.lendF, Fx.backF, Fx.headLt, Fx.voidF, Fx.tidy, Fx.callF, Fx.makeF, Fx.fP, Fx.fN, Fx.fB, Fx.rootF, Fx.dropLastF, Fx.fZ, Fx.push, Fx.gNo, Fx.gCo, Fx.fCall, Fx.fMake, Fx.fMeth, Fx.fBin2, Fx.fCmp2, Fx.fAnd, Fx.fOr, Fx.fNot, Fx.fBo, Fx.fMv, Fx.fOn, Fx.sNx, Fx.sBk, Fx.sCt, Fx.sRN, Fx.sSq, Fx.sDr, Fx.sRt, Fx.sIf, Fx.gN, Fx.gT0, Fx.gTC, Fx.gTu, Fx.takeRoot, Fx.sAs, Fx.sAt, Fx.childF, Fx.kidF, Fx.belowF, Fx.putAt, Fx.sFl, Fx.sPu, Fx.sSL, Fx.topPt, Fx.popTm, Fx.pushPt, Fx.sAp, Fx.sEx, Fx.fPop, Fx.sDe, Fx.pyAll, Fx.sEt, Fx.sFo, Fx.sFu, Fx.rngF, Fx.sFr, Fx.shiftS, Fx.lentF, Fx.dCall, Fx.nCall, Fx.iL, Fx.iLn, Fx.iT, Fx.iR, Fx.wipeR, Fx.bYes, Fx.nLc, Fx.boolsF, Fx.allF, Fx.d1, Fx.maxF, Fx.intF, Fx.nCopy, Fx.strsF, Fx.joinF, Fx.sRaise, Fx.intsF, Fx.inF, Fx.sAug, Fx.nDcp, Fx.keyD, Fx.iIt, Fx.nLock, Fx.wNo, Fx.wCo, Fx.vCallR, Fx.vMethR, Fx.key1, Fx.isK1, Fx.fSort1, Fx.fTupOf, Fx.aStar, Fx.nDc, Fx.dTup, Fx.dLst, Fx.gathF, Fx.dispF, Fx.allPy, Fx.popN, Fx.fTup, Fx.fLst, Fx.fDct, Fx.vGet2, Fx.keysF, Fx.kTup, Fx.vGetT2, Fx.vGetT, Fx.sPuT, Fx.sAt2, msk_py, msk_no, msk_pt, List.isPrefixOf, List.cons_prefix_cons, List.nil_prefix, noList, noLists, atI, ixN, h, h3, wishOf, wishD]
  · rcases h3 with h3 | h3 | h3 <;> simp [S__law_wish, b__law_wish, runF, Fx.Hd.own, Fx.TL.er, Fx.erAll, Fx.TL.get, Fx.TL.put, Fx.gget, Fx.gput, Fx.TL.addrs, Fx.TL.data, Fx.dataAll, Fx.msk, Fx.mulOk, Fx.addF, Fx.subF, Fx.mulF, Fx.fdivF, Fx.modF, Fx.powF, Fx.ltF, Fx.leF, Fx.gtF, Fx.geF, Fx.eqD, Fx.eqF, Fx.neF, Fx.isF, Fx.isntF, Fx.idxF, Fx.lenF, Fx.kindF, Fx.kitF, Fx.keyF, Fx.ixS, Fx.ixK, Fx.vVar, Fx.vC, Fx.vAt, Fx.dat, Fx.vD, Fx.vS, Fx.vPy, Fx.d2, Fx.dB, Fx.vB, Fx.bV, Fx.child, Fx.kidAt, Fx.vIdx, Fx.vGet, Fx.vFld, Fx.vLen, Fx.kindS, Fx.vIsi, Fx.vIsi2, Fx.aNil, Fx.aCons, Fx.vTup, Fx.nLst, Fx.vFz, Fx.bAnd, Fx.bOr, Fx.bNot, Fx.vIf, Fx.oNo, Fx.oI, Fx.cutF, Fx.vSlc, Fx.nSlc, Fx.negF, Fx.dNeg, Fx.rLenN, Fx.rIsiN, Fx.rIsiN2, Fx.nDct0, Fx.nDdt0, Fx.lendF, Fx.backF, Fx.headLt, Fx.voidF, Fx.tidy, Fx.callF, Fx.makeF, Fx.fP, Fx.fN, Fx.fB, Fx.rootF, Fx.dropLastF, Fx.fZ, Fx.push, Fx.gNo, Fx.gCo, Fx.fCall, Fx.fMake, Fx.fMeth, Fx.fBin2, Fx.fCmp2, Fx.fAnd, Fx.fOr, Fx.fNot, Fx.fBo, Fx.fMv, Fx.fOn, Fx.sNx, Fx.sBk, Fx.sCt, Fx.sRN, Fx.sSq, Fx.sDr, Fx.sRt, Fx.sIf, Fx.gN, Fx.gT0, Fx.gTC, Fx.gTu, Fx.takeRoot, Fx.sAs, Fx.sAt, Fx.childF, Fx.kidF, Fx.belowF, Fx.putAt, Fx.sFl, Fx.sPu, Fx.sSL, Fx.topPt, Fx.popTm, Fx.pushPt, Fx.sAp, Fx.sEx, Fx.fPop, Fx.sDe, Fx.pyAll, Fx.sEt, Fx.sFo, Fx.sFu, Fx.rngF, Fx.sFr, Fx.shiftS, Fx.lentF, Fx.dCall, Fx.nCall, Fx.iL, Fx.iLn, Fx.iT, Fx.iR, Fx.wipeR, Fx.bYes, Fx.nLc, Fx.boolsF, Fx.allF, Fx.d1, Fx.maxF, Fx.intF, Fx.nCopy, Fx.strsF, Fx.joinF, Fx.sRaise, Fx.intsF, Fx.inF, Fx.sAug, Fx.nDcp, Fx.keyD, Fx.iIt, Fx.nLock, Fx.wNo, Fx.wCo, Fx.vCallR, Fx.vMethR, Fx.key1, Fx.isK1, Fx.fSort1, Fx.fTupOf, Fx.aStar, Fx.nDc, Fx.dTup, Fx.dLst, Fx.gathF, Fx.dispF, Fx.allPy, Fx.popN, Fx.fTup, Fx.fLst, Fx.fDct, Fx.vGet2, Fx.keysF, Fx.kTup, Fx.vGetT2, Fx.vGetT, Fx.sPuT, Fx.sAt2, msk_py, msk_no, msk_pt, List.isPrefixOf, List.cons_prefix_cons, List.nil_prefix, noList, noLists, atI, ixN, h, h3, wishOf, wishD]
theorem ldone_ok (a : Int) (w : Mv.Wish) : S__law_done [.py (.int a), .py (wishD w)] [] = some (.vl (.s (.py (.tuple [.int (w.done a).1, .int (w.done a).2]))) []) := by
  cases w <;> simp [S__law_done, b__law_done, runF, wishD, Mv.Wish.done, Fx.Hd.own, Fx.TL.er, Fx.erAll, Fx.TL.get, Fx.TL.put, Fx.gget, Fx.gput, Fx.TL.addrs, Fx.TL.data, Fx.dataAll, Fx.msk, Fx.mulOk, Fx.addF, Fx.subF, Fx.mulF, Fx.fdivF, Fx.modF, Fx.powF, Fx.ltF, Fx.leF, Fx.gtF, Fx.geF, Fx.eqD, Fx.eqF, Fx.neF, Fx.isF, Fx.isntF, Fx.idxF, Fx.lenF, Fx.kindF, Fx.kitF, Fx.keyF, Fx.ixS, Fx.ixK, Fx.vVar, Fx.vC, Fx.vAt, Fx.dat, Fx.vD, Fx.vS, Fx.vPy, Fx.d2, Fx.dB, Fx.vB, Fx.bV, Fx.child, Fx.kidAt, Fx.vIdx, Fx.vGet, Fx.vFld, Fx.vLen, Fx.kindS, Fx.vIsi, Fx.vIsi2, Fx.aNil, Fx.aCons, Fx.vTup, Fx.nLst, Fx.vFz, Fx.bAnd, Fx.bOr, Fx.bNot, Fx.vIf, Fx.oNo, Fx.oI, Fx.cutF, Fx.vSlc, Fx.nSlc, Fx.negF, Fx.dNeg, Fx.rLenN, Fx.rIsiN, Fx.rIsiN2, Fx.nDct0, Fx.nDdt0, Fx.lendF, Fx.backF, Fx.headLt, Fx.voidF, Fx.tidy, Fx.callF, Fx.makeF, Fx.fP, Fx.fN, Fx.fB, Fx.rootF, Fx.dropLastF, Fx.fZ, Fx.push, Fx.gNo, Fx.gCo, Fx.fCall, Fx.fMake, Fx.fMeth, Fx.fBin2, Fx.fCmp2, Fx.fAnd, Fx.fOr, Fx.fNot, Fx.fBo, Fx.fMv, Fx.fOn, Fx.sNx, Fx.sBk, Fx.sCt, Fx.sRN, Fx.sSq, Fx.sDr, Fx.sRt, Fx.sIf, Fx.gN, Fx.gT0, Fx.gTC, Fx.gTu, Fx.takeRoot, Fx.sAs, Fx.sAt, Fx.childF, Fx.kidF, Fx.belowF, Fx.putAt, Fx.sFl, Fx.sPu, Fx.sSL, Fx.topPt, Fx.popTm, Fx.pushPt, Fx.sAp, Fx.sEx, Fx.fPop, Fx.sDe, Fx.pyAll, Fx.sEt, Fx.sFo, Fx.sFu, Fx.rngF, Fx.sFr, Fx.shiftS, Fx.lentF, Fx.dCall, Fx.nCall, Fx.iL, Fx.iLn, Fx.iT, Fx.iR, Fx.wipeR, Fx.bYes, Fx.nLc, Fx.boolsF, Fx.allF, Fx.d1, Fx.maxF, Fx.intF, Fx.nCopy, Fx.strsF, Fx.joinF, Fx.sRaise, Fx.intsF, Fx.inF, Fx.sAug, Fx.nDcp, Fx.keyD, Fx.iIt, Fx.nLock, Fx.wNo, Fx.wCo, Fx.vCallR, Fx.vMethR, Fx.key1, Fx.isK1, Fx.fSort1, Fx.fTupOf, Fx.aStar, Fx.nDc, Fx.dTup, Fx.dLst, Fx.gathF, Fx.dispF, Fx.allPy, Fx.popN, Fx.fTup, Fx.fLst, Fx.fDct, Fx.vGet2, Fx.keysF, Fx.kTup, Fx.vGetT2, Fx.vGetT, Fx.sPuT, Fx.sAt2, msk_py, msk_no, msk_pt, List.isPrefixOf, List.cons_prefix_cons, List.nil_prefix, ofString_inj, at0, at1, noList]
/-! ### the keys -/
open SX (S S_len join_S)
theorem lit_letters : (("abcdefghijklmnopqrstuvwxyz" : Str)) = S ((List.range 26).map (97 + ·)) := by decide +kernel
theorem lit_empty : (("" : Str)) = S [] := by decide +kernel
theorem lit_q : (("qwertyui" : Str)) = S [113, 119, 101, 114, 116, 121, 117, 105] := by decide +kernel
/-- the sign of a number -/
def sign (i : Int) : Nat := 97 + (i % 26).toNat
theorem mulOk_bits {i j : Int} {m n : Nat} (a : Builtin.Int.intBits i ≤ m) (b : Builtin.Int.intBits j ≤ n) (h : m + n ≤ 134217728) : mulOk i j = true := by
  unfold mulOk
  have : (Builtin.Int.intBits i : Int) + (Builtin.Int.intBits j : Int) ≤ 134217728 := by omega
  simp [this]
theorem mulOk_r {i j : Int} (h : -(2 ^ 64) < j ∧ j < 2 ^ 64) : mulOk i j = true := by
  unfold mulOk
  simp only [Bool.or_eq_true, Bool.and_eq_true, decide_eq_true_eq]
  exact .inl (.inr h)
theorem mulOk_l {i j : Int} (h : -(2 ^ 64) < i ∧ i < 2 ^ 64) : mulOk i j = true := by
  unfold mulOk
  simp only [Bool.or_eq_true, Bool.and_eq_true, decide_eq_true_eq]
  exact .inl (.inl h)
theorem letter_at (i : Int) : idxF (.str ("abcdefghijklmnopqrstuvwxyz" : Str)) (.int (i % 26)) = some (.str (S [sign i])) := by
  have h1 : 0 ≤ i % 26 := Int.emod_nonneg _ (by decide)
  have h2 : i % 26 < 26 := Int.emod_lt_of_pos _ (by decide)
  rw [lit_letters]
  have e : atI (S ((List.range 26).map (97 + ·))).cps.toList (i % 26) = some (sign i) := by
    rw [atI_of h1 (by show _ < (((List.range 26).map (97 + ·)).length : Int); simpa using h2)]
    show ((List.range 26).map (97 + ·))[(i % 26).toNat]? = some (sign i)
    rw [List.getElem?_map, List.getElem?_range (by omega)]
    rfl
  show (if (S ((List.range 26).map (97 + ·))).length ≤ 16777216 then match atI (S ((List.range 26).map (97 + ·))).cps.toList (i % 26) with | some c => some (PyData.str ⟨#[c]⟩) | none => none else none) = _
  rw [if_pos (by rw [S_len]; decide +kernel), e]
theorem joinL_ones : ∀ l : List Nat, TL.joinL [] (l.map fun c => [c]) = l
  | [] => rfl
  | [_] => rfl
  | a :: b :: r => by
    have := joinL_ones (b :: r)
    simp only [List.map_cons, TL.joinL] at this ⊢
    rw [this]; rfl
theorem join_ones (l : List Nat) : Txt.join ("" : Str) ((l.map fun c => [c]).map S) = S l := by
  rw [lit_empty, join_S, joinL_ones]
theorem cut_to (l : List Nat) (k : Nat) : cutS (S l) none (some (k : Int)) = S (l.take k) := by
  unfold cutS
  rw [HT.sIx_none, HT.sIx_nat, S_len]
  simp only [Nat.sub_zero, List.drop_zero]
  rw [← List.take_eq_take_min]
theorem cut_from (l : List Nat) (k : Nat) : cutS (S l) (some (k : Int)) none = S (l.drop k) := by
  unfold cutS
  rw [HT.sIx_none, HT.sIx_nat, S_len]
  show (⟨((l.drop (min k l.length)).take (l.length - min k l.length)).toArray⟩ : Str) = ⟨(l.drop k).toArray⟩
  rw [List.take_of_length_le (by rw [List.length_drop]; omega)]
  by_cases h : k ≤ l.length
  · rw [Nat.min_eq_left h]
  · rw [Nat.min_eq_right (by omega), List.drop_length, List.drop_eq_nil_of_le (by omega)]
def restL (c : Int) : List Nat := (List.range (c / 6 % 8).toNat).map fun (k : Nat) => sign (c / 432 / 26 + 5 * (k : Int))
def keysL (c : Int) : List (List Nat) :=
  if c / 432 % 3 = 1 then (List.range (1 + c % 6).toNat).map fun k => (restL c ++ [113, 119, 101, 114, 116, 121, 117, 105]).take (k + 1)
  else (List.range (1 + c % 6).toNat).map fun (k : Nat) => (restL c).take (c / 48 % (c / 6 % 8 + 1)).toNat ++ [sign (c / 432 + (k : Int))] ++ (restL c).drop (c / 48 % (c / 6 % 8 + 1)).toNat
def keysOf (c : Int) : List Str := (keysL c).map S
theorem restL_len (c : Int) : (restL c).length ≤ 7 := by
  have h2 : c / 6 % 8 < 8 := Int.emod_lt_of_pos _ (by decide)
  unfold restL
  rw [List.length_map, List.length_range]
  omega
theorem map_sum_ones : ∀ l : List Nat, (((l.map fun c => [c]).map S).map (·.length)).sum = l.length
  | [] => rfl
  | a :: l => by
    have := map_sum_ones l
    simp only [List.map_cons, List.sum_cons, List.length_cons, S_len, List.length_nil] at this ⊢
    omega
theorem S_add (a b : List Nat) : S a ++ S b = S (a ++ b) := by
  show (⟨a.toArray ++ b.toArray⟩ : Str) = ⟨(a ++ b).toArray⟩
  rw [List.append_toArray]
theorem sign_az (i : Int) : 97 ≤ sign i ∧ sign i ≤ 122 := by
  have h1 : 0 ≤ i % 26 := Int.emod_nonneg _ (by decide)
  have h2 : i % 26 < 26 := Int.emod_lt_of_pos _ (by decide)
  unfold sign
  omega
theorem restL_az {c : Int} {x : Nat} (h : x ∈ restL c) : 97 ≤ x ∧ x ≤ 122 := by
  unfold restL at h
  obtain ⟨k, _, rfl⟩ := List.mem_map.mp h
  exact sign_az _
theorem keysL_az {c : Int} {l : List Nat} (hl : l ∈ keysL c) {x : Nat} (h : x ∈ l) : 97 ≤ x ∧ x ≤ 122 := by
  unfold keysL at hl
  split at hl
  · obtain ⟨k, _, rfl⟩ := List.mem_map.mp hl
    rcases List.mem_append.mp (List.mem_of_mem_take h) with h | h
    · exact restL_az h
    · simp only [List.mem_cons, List.not_mem_nil, or_false] at h
      omega
  · obtain ⟨k, _, rfl⟩ := List.mem_map.mp hl
    rcases List.mem_append.mp h with h | h
    · rcases List.mem_append.mp h with h | h
      · exact restL_az (List.mem_of_mem_take h)
      · rw [List.mem_singleton.mp h]; exact sign_az _
    · exact restL_az (List.mem_of_mem_drop h)
theorem keysL_len (c : Int) : ((keysL c).length : Int) = 1 + c % 6 := by
  have m0 : 0 ≤ c % 6 := Int.emod_nonneg _ (by decide)
  unfold keysL
  split <;> rw [List.length_map, List.length_range] <;> omega
theorem keysOf_len (c : Int) : ((keysOf c).length : Int) = 1 + c % 6 := by unfold keysOf; rw [List.length_map]; exact keysL_len c
theorem collect_all {α : Type} {tg : Sv → Rh → Option Rh} {c : Rh → Option Bool} {e : Rh → Option Sv} {ρ : Rh} {v : α → PyData} {f : α → PyData} : ∀ (ds : List α), (∀ d ∈ ds, ∃ ρ1, tg (.py (v d)) ρ = some ρ1 ∧ c ρ1 = some true ∧ e ρ1 = some (.py (f d))) → collect tg c e ρ (ds.map v) = some (ds.map f)
  | [], _ => rfl
  | d :: ds, h => by
    obtain ⟨ρ1, h1, h2, h3⟩ := h d (by simp)
    simp [Fx.collect, h1, h2, h3, collect_all ds fun x hx => h x (by simp [hx])]
def kSt (c : Int) (s6 : Option Sv) : Rh := ⟨[some (.py (.int c)), some (.py (.str "abcdefghijklmnopqrstuvwxyz")), some (.py (.int (1 + c % 6))), some (.py (.int (c / 6 % 8))), some (.py (.int (c / 48 % (c / 6 % 8 + 1)))), some (.py (.int (c / 432))), s6, none], [], [.un (), .un (), .un (), .un (), .un (), .un (), .un (), .un ()], 8⟩
theorem rng_of {n : Int} (h0 : 0 ≤ n) (h : n ≤ 100000) : rngF [.int n] = some ((List.range n.toNat).map fun i : Nat => .int (i : Int)) := by
  have := rngF_nat (n := n.toNat) (by omega)
  rw [show ((n.toNat : Nat) : Int) = n by omega] at this
  exact this
theorem keys_1 (c : Int) : h__law_keys_1 (kSt c none) = some (.lst, ((restL c).map fun x => [x]).map fun l => .str (S l)) := by
  have s0 : 0 ≤ c / 6 % 8 := Int.emod_nonneg _ (by decide)
  have s1 : c / 6 % 8 < 8 := Int.emod_lt_of_pos _ (by decide)
  have er := rng_of (n := c / 6 % 8) s0 (by omega)
  unfold h__law_keys_1
  have hc := collect_all (tg := gN 7) (c := bYes) (e := vIdx (vVar 1) (d2 modF (d2 addF (d2 fdivF (vD (vVar 5)) (vPy (vC (.int 26)))) (d2 mulF (vPy (vC (.int 5))) (vD (vVar 7)))) (vPy (vC (.int 26))))) (ρ := kSt c none) (v := fun i : Nat => PyData.int (i : Int)) (f := fun k : Nat => .str (S [sign (c / 432 / 26 + 5 * (k : Int))])) (List.range (c / 6 % 8).toNat) fun k hk => ⟨_, rfl, rfl, by
    have h1 := letter_at (c / 432 / 26 + 5 * (k : Int))
    have m1 : mulOk 5 k = true := mulOk_l (by decide)
    simp [kSt, Fx.Hd.own, Fx.TL.er, Fx.erAll, Fx.TL.get, Fx.TL.put, Fx.gget, Fx.gput, Fx.TL.addrs, Fx.TL.data, Fx.dataAll, Fx.msk, Fx.addF, Fx.subF, Fx.mulF, Fx.fdivF, Fx.modF, Fx.powF, Fx.ltF, Fx.leF, Fx.gtF, Fx.geF, Fx.eqD, Fx.eqF, Fx.neF, Fx.isF, Fx.isntF, Fx.lenF, Fx.kindF, Fx.kitF, Fx.keyF, Fx.ixS, Fx.ixK, Fx.vVar, Fx.vC, Fx.vAt, Fx.dat, Fx.vD, Fx.vS, Fx.vPy, Fx.d2, Fx.dB, Fx.vB, Fx.bV, Fx.child, Fx.kidAt, Fx.vIdx, Fx.vGet, Fx.vFld, Fx.vLen, Fx.kindS, Fx.vIsi, Fx.vIsi2, Fx.aNil, Fx.aCons, Fx.vTup, Fx.nLst, Fx.vFz, Fx.bAnd, Fx.bOr, Fx.bNot, Fx.vIf, Fx.oNo, Fx.oI, Fx.cutF, Fx.vSlc, Fx.nSlc, Fx.negF, Fx.dNeg, Fx.rLenN, Fx.rIsiN, Fx.rIsiN2, Fx.nDct0, Fx.nDdt0, Fx.lendF, Fx.backF, Fx.headLt, Fx.voidF, Fx.tidy, Fx.callF, Fx.makeF, Fx.fP, Fx.fN, Fx.fB, Fx.rootF, Fx.dropLastF, Fx.fZ, Fx.push, Fx.gNo, Fx.gCo, Fx.fCall, Fx.fMake, Fx.fMeth, Fx.fBin2, Fx.fCmp2, Fx.fAnd, Fx.fOr, Fx.fNot, Fx.fBo, Fx.fMv, Fx.fOn, Fx.sNx, Fx.sBk, Fx.sCt, Fx.sRN, Fx.sSq, Fx.sDr, Fx.sRt, Fx.sIf, Fx.gN, Fx.gT0, Fx.gTC, Fx.gTu, Fx.takeRoot, Fx.sAs, Fx.sAt, Fx.childF, Fx.kidF, Fx.belowF, Fx.putAt, Fx.sFl, Fx.sPu, Fx.sSL, Fx.topPt, Fx.popTm, Fx.pushPt, Fx.sAp, Fx.sEx, Fx.fPop, Fx.sDe, Fx.pyAll, Fx.sEt, Fx.sFo, Fx.sFu, Fx.rngF, Fx.sFr, Fx.shiftS, Fx.lentF, Fx.dCall, Fx.nCall, Fx.iL, Fx.iLn, Fx.iT, Fx.iR, Fx.wipeR, Fx.bYes, Fx.nLc, Fx.boolsF, Fx.allF, Fx.d1, Fx.maxF, Fx.intF, Fx.nCopy, Fx.strsF, Fx.joinF, Fx.sRaise, Fx.intsF, Fx.inF, Fx.sAug, Fx.nDcp, Fx.keyD, Fx.iIt, Fx.nLock, Fx.wNo, Fx.wCo, Fx.vCallR, Fx.vMethR, Fx.key1, Fx.isK1, Fx.fSort1, Fx.fTupOf, Fx.aStar, Fx.nDc, Fx.dTup, Fx.dLst, Fx.gathF, Fx.dispF, Fx.allPy, Fx.popN, Fx.fTup, Fx.fLst, Fx.fDct, Fx.vGet2, Fx.keysF, Fx.kTup, Fx.vGetT2, Fx.vGetT, Fx.sPuT, Fx.sAt2, msk_py, msk_no, msk_pt, List.isPrefixOf, List.cons_prefix_cons, List.nil_prefix, h1, m1]⟩
  have e : (((restL c).map fun x => [x]).map fun l => PyData.str (S l)) = (List.range (c / 6 % 8).toNat).map fun k : Nat => .str (S [sign (c / 432 / 26 + 5 * (k : Int))]) := by
    unfold restL
    simp only [List.map_map]; rfl
  rw [e]
  refine nLc_some (ds := (List.range (c / 6 % 8).toNat).map fun i : Nat => PyData.int (i : Int)) ?_ (by simp; omega) hc
  simp [kSt, Fx.Hd.own, Fx.TL.er, Fx.erAll, Fx.TL.get, Fx.TL.put, Fx.gget, Fx.gput, Fx.TL.addrs, Fx.TL.data, Fx.dataAll, Fx.msk, Fx.mulOk, Fx.addF, Fx.subF, Fx.mulF, Fx.fdivF, Fx.modF, Fx.powF, Fx.ltF, Fx.leF, Fx.gtF, Fx.geF, Fx.eqD, Fx.eqF, Fx.neF, Fx.isF, Fx.isntF, Fx.idxF, Fx.lenF, Fx.kindF, Fx.kitF, Fx.keyF, Fx.ixS, Fx.ixK, Fx.vVar, Fx.vC, Fx.vAt, Fx.dat, Fx.vD, Fx.vS, Fx.vPy, Fx.d2, Fx.dB, Fx.vB, Fx.bV, Fx.child, Fx.kidAt, Fx.vIdx, Fx.vGet, Fx.vFld, Fx.vLen, Fx.kindS, Fx.vIsi, Fx.vIsi2, Fx.aNil, Fx.aCons, Fx.vTup, Fx.nLst, Fx.vFz, Fx.bAnd, Fx.bOr, Fx.bNot, Fx.vIf, Fx.oNo, Fx.oI, Fx.cutF, Fx.vSlc, Fx.nSlc, Fx.negF, Fx.dNeg, Fx.rLenN, Fx.rIsiN, Fx.rIsiN2, Fx.nDct0, Fx.nDdt0, Fx.lendF, Fx.backF, Fx.headLt, Fx.voidF, Fx.tidy, Fx.callF, Fx.makeF, Fx.fP, Fx.fN, Fx.fB, Fx.rootF, Fx.dropLastF, Fx.fZ, Fx.push, Fx.gNo, Fx.gCo, Fx.fCall, Fx.fMake, Fx.fMeth, Fx.fBin2, Fx.fCmp2, Fx.fAnd, Fx.fOr, Fx.fNot, Fx.fBo, Fx.fMv, Fx.fOn, Fx.sNx, Fx.sBk, Fx.sCt, Fx.sRN, Fx.sSq, Fx.sDr, Fx.sRt, Fx.sIf, Fx.gN, Fx.gT0, Fx.gTC, Fx.gTu, Fx.takeRoot, Fx.sAs, Fx.sAt, Fx.childF, Fx.kidF, Fx.belowF, Fx.putAt, Fx.sFl, Fx.sPu, Fx.sSL, Fx.topPt, Fx.popTm, Fx.pushPt, Fx.sAp, Fx.sEx, Fx.fPop, Fx.sDe, Fx.pyAll, Fx.sEt, Fx.sFo, Fx.sFu, Fx.sFr, Fx.shiftS, Fx.lentF, Fx.dCall, Fx.nCall, Fx.iL, Fx.iLn, Fx.iT, Fx.iR, Fx.wipeR, Fx.bYes, Fx.nLc, Fx.boolsF, Fx.allF, Fx.d1, Fx.maxF, Fx.intF, Fx.nCopy, Fx.strsF, Fx.joinF, Fx.sRaise, Fx.intsF, Fx.inF, Fx.sAug, Fx.nDcp, Fx.keyD, Fx.iIt, Fx.nLock, Fx.wNo, Fx.wCo, Fx.vCallR, Fx.vMethR, Fx.key1, Fx.isK1, Fx.fSort1, Fx.fTupOf, Fx.aStar, Fx.nDc, Fx.dTup, Fx.dLst, Fx.gathF, Fx.dispF, Fx.allPy, Fx.popN, Fx.fTup, Fx.fLst, Fx.fDct, Fx.vGet2, Fx.keysF, Fx.kTup, Fx.vGetT2, Fx.vGetT, Fx.sPuT, Fx.sAt2, msk_py, msk_no, msk_pt, List.isPrefixOf, List.cons_prefix_cons, List.nil_prefix, er]
theorem keys_2 (c : Int) (h : c / 432 % 3 = 1) : h__law_keys_2 (kSt c (some (.py (.str (S (restL c)))))) = some (.lst, (keysOf c).map .str) := by
  have m0 : 0 ≤ c % 6 := Int.emod_nonneg _ (by decide)
  have m1 : c % 6 < 6 := Int.emod_lt_of_pos _ (by decide)
  have er := rng_of (n := 1 + c % 6) (by omega) (by omega)
  have rl := restL_len c
  unfold h__law_keys_2
  have hc := collect_all (tg := gN 7) (c := bYes) (e := vSlc (vS (d2 addF (vD (vVar 6)) (vPy (vC (.str "qwertyui"))))) oNo (oI (d2 addF (vD (vVar 7)) (vPy (vC (.int 1)))))) (ρ := kSt c (some (.py (.str (S (restL c)))))) (v := fun i : Nat => PyData.int (i : Int)) (f := fun k : Nat => .str (S ((restL c ++ [113, 119, 101, 114, 116, 121, 117, 105]).take (k + 1)))) (List.range (1 + c % 6).toNat) fun k hk => ⟨_, rfl, rfl, by
    have h1 := cut_to (restL c ++ [113, 119, 101, 114, 116, 121, 117, 105]) (k + 1)
    have h1 : cutS (S (restL c ++ [113, 119, 101, 114, 116, 121, 117, 105])) none (some ((k : Int) + 1)) = _ := h1
    have a1 : (restL c).length + 8 ≤ 16777216 := by omega
    simp [kSt, Fx.Hd.own, Fx.TL.er, Fx.erAll, Fx.TL.get, Fx.TL.put, Fx.gget, Fx.gput, Fx.TL.addrs, Fx.TL.data, Fx.dataAll, Fx.msk, Fx.mulOk, Fx.addF, Fx.subF, Fx.mulF, Fx.fdivF, Fx.modF, Fx.powF, Fx.ltF, Fx.leF, Fx.gtF, Fx.geF, Fx.eqD, Fx.eqF, Fx.neF, Fx.isF, Fx.isntF, Fx.idxF, Fx.lenF, Fx.kindF, Fx.kitF, Fx.keyF, Fx.ixS, Fx.ixK, Fx.vVar, Fx.vC, Fx.vAt, Fx.dat, Fx.vD, Fx.vS, Fx.vPy, Fx.d2, Fx.dB, Fx.vB, Fx.bV, Fx.child, Fx.kidAt, Fx.vIdx, Fx.vGet, Fx.vFld, Fx.vLen, Fx.kindS, Fx.vIsi, Fx.vIsi2, Fx.aNil, Fx.aCons, Fx.vTup, Fx.nLst, Fx.vFz, Fx.bAnd, Fx.bOr, Fx.bNot, Fx.vIf, Fx.oNo, Fx.oI, Fx.vSlc, Fx.nSlc, Fx.negF, Fx.dNeg, Fx.rLenN, Fx.rIsiN, Fx.rIsiN2, Fx.nDct0, Fx.nDdt0, Fx.lendF, Fx.backF, Fx.headLt, Fx.voidF, Fx.tidy, Fx.callF, Fx.makeF, Fx.fP, Fx.fN, Fx.fB, Fx.rootF, Fx.dropLastF, Fx.fZ, Fx.push, Fx.gNo, Fx.gCo, Fx.fCall, Fx.fMake, Fx.fMeth, Fx.fBin2, Fx.fCmp2, Fx.fAnd, Fx.fOr, Fx.fNot, Fx.fBo, Fx.fMv, Fx.fOn, Fx.sNx, Fx.sBk, Fx.sCt, Fx.sRN, Fx.sSq, Fx.sDr, Fx.sRt, Fx.sIf, Fx.gN, Fx.gT0, Fx.gTC, Fx.gTu, Fx.takeRoot, Fx.sAs, Fx.sAt, Fx.childF, Fx.kidF, Fx.belowF, Fx.putAt, Fx.sFl, Fx.sPu, Fx.sSL, Fx.topPt, Fx.popTm, Fx.pushPt, Fx.sAp, Fx.sEx, Fx.fPop, Fx.sDe, Fx.pyAll, Fx.sEt, Fx.sFo, Fx.sFu, Fx.rngF, Fx.sFr, Fx.shiftS, Fx.lentF, Fx.dCall, Fx.nCall, Fx.iL, Fx.iLn, Fx.iT, Fx.iR, Fx.wipeR, Fx.bYes, Fx.nLc, Fx.boolsF, Fx.allF, Fx.d1, Fx.maxF, Fx.intF, Fx.nCopy, Fx.strsF, Fx.joinF, Fx.sRaise, Fx.intsF, Fx.inF, Fx.sAug, Fx.nDcp, Fx.keyD, Fx.iIt, Fx.nLock, Fx.wNo, Fx.wCo, Fx.vCallR, Fx.vMethR, Fx.key1, Fx.isK1, Fx.fSort1, Fx.fTupOf, Fx.aStar, Fx.nDc, Fx.dTup, Fx.dLst, Fx.gathF, Fx.dispF, Fx.allPy, Fx.popN, Fx.fTup, Fx.fLst, Fx.fDct, Fx.vGet2, Fx.keysF, Fx.kTup, Fx.vGetT2, Fx.vGetT, Fx.sPuT, Fx.sAt2, msk_py, msk_no, msk_pt, List.isPrefixOf, List.cons_prefix_cons, List.nil_prefix, lit_q, S_add, S_len, h1, a1, noList]⟩
  have e : (keysOf c).map PyData.str = (List.range (1 + c % 6).toNat).map fun k : Nat => .str (S ((restL c ++ [113, 119, 101, 114, 116, 121, 117, 105]).take (k + 1))) := by
    unfold keysOf keysL
    rw [if_pos h]
    simp only [List.map_map]; rfl
  rw [e]
  refine nLc_some (ds := (List.range (1 + c % 6).toNat).map fun i : Nat => PyData.int (i : Int)) ?_ (by simp; omega) hc
  simp [kSt, Fx.Hd.own, Fx.TL.er, Fx.erAll, Fx.TL.get, Fx.TL.put, Fx.gget, Fx.gput, Fx.TL.addrs, Fx.TL.data, Fx.dataAll, Fx.msk, Fx.mulOk, Fx.addF, Fx.subF, Fx.mulF, Fx.fdivF, Fx.modF, Fx.powF, Fx.ltF, Fx.leF, Fx.gtF, Fx.geF, Fx.eqD, Fx.eqF, Fx.neF, Fx.isF, Fx.isntF, Fx.idxF, Fx.lenF, Fx.kindF, Fx.kitF, Fx.keyF, Fx.ixS, Fx.ixK, Fx.vVar, Fx.vC, Fx.vAt, Fx.dat, Fx.vD, Fx.vS, Fx.vPy, Fx.d2, Fx.dB, Fx.vB, Fx.bV, Fx.child, Fx.kidAt, Fx.vIdx, Fx.vGet, Fx.vFld, Fx.vLen, Fx.kindS, Fx.vIsi, Fx.vIsi2, Fx.aNil, Fx.aCons, Fx.vTup, Fx.nLst, Fx.vFz, Fx.bAnd, Fx.bOr, Fx.bNot, Fx.vIf, Fx.oNo, Fx.oI, Fx.cutF, Fx.vSlc, Fx.nSlc, Fx.negF, Fx.dNeg, Fx.rLenN, Fx.rIsiN, Fx.rIsiN2, Fx.nDct0, Fx.nDdt0, Fx.lendF, Fx.backF, Fx.headLt, Fx.voidF, Fx.tidy, Fx.callF, Fx.makeF, Fx.fP, Fx.fN, Fx.fB, Fx.rootF, Fx.dropLastF, Fx.fZ, Fx.push, Fx.gNo, Fx.gCo, Fx.fCall, Fx.fMake, Fx.fMeth, Fx.fBin2, Fx.fCmp2, Fx.fAnd, Fx.fOr, Fx.fNot, Fx.fBo, Fx.fMv, Fx.fOn, Fx.sNx, Fx.sBk, Fx.sCt, Fx.sRN, Fx.sSq, Fx.sDr, Fx.sRt, Fx.sIf, Fx.gN, Fx.gT0, Fx.gTC, Fx.gTu, Fx.takeRoot, Fx.sAs, Fx.sAt, Fx.childF, Fx.kidF, Fx.belowF, Fx.putAt, Fx.sFl, Fx.sPu, Fx.sSL, Fx.topPt, Fx.popTm, Fx.pushPt, Fx.sAp, Fx.sEx, Fx.fPop, Fx.sDe, Fx.pyAll, Fx.sEt, Fx.sFo, Fx.sFu, Fx.sFr, Fx.shiftS, Fx.lentF, Fx.dCall, Fx.nCall, Fx.iL, Fx.iLn, Fx.iT, Fx.iR, Fx.wipeR, Fx.bYes, Fx.nLc, Fx.boolsF, Fx.allF, Fx.d1, Fx.maxF, Fx.intF, Fx.nCopy, Fx.strsF, Fx.joinF, Fx.sRaise, Fx.intsF, Fx.inF, Fx.sAug, Fx.nDcp, Fx.keyD, Fx.iIt, Fx.nLock, Fx.wNo, Fx.wCo, Fx.vCallR, Fx.vMethR, Fx.key1, Fx.isK1, Fx.fSort1, Fx.fTupOf, Fx.aStar, Fx.nDc, Fx.dTup, Fx.dLst, Fx.gathF, Fx.dispF, Fx.allPy, Fx.popN, Fx.fTup, Fx.fLst, Fx.fDct, Fx.vGet2, Fx.keysF, Fx.kTup, Fx.vGetT2, Fx.vGetT, Fx.sPuT, Fx.sAt2, msk_py, msk_no, msk_pt, List.isPrefixOf, List.cons_prefix_cons, List.nil_prefix, er]
theorem keys_3 (c : Int) (h : ¬ c / 432 % 3 = 1) : h__law_keys_3 (kSt c (some (.py (.str (S (restL c)))))) = some (.lst, (keysOf c).map .str) := by
  have m0 : 0 ≤ c % 6 := Int.emod_nonneg _ (by decide)
  have m1 : c % 6 < 6 := Int.emod_lt_of_pos _ (by decide)
  have s0 : 0 ≤ c / 6 % 8 := Int.emod_nonneg _ (by decide)
  have a0 : 0 ≤ c / 48 % (c / 6 % 8 + 1) := Int.emod_nonneg _ (by omega)
  have er := rng_of (n := 1 + c % 6) (by omega) (by omega)
  have rl := restL_len c
  unfold h__law_keys_3
  have hc := collect_all (tg := gN 7) (c := bYes) (e := vS (d2 addF (d2 addF (vD (vSlc (vVar 6) oNo (oI (vD (vVar 4))))) (vD (vIdx (vVar 1) (d2 modF (d2 addF (vD (vVar 5)) (vD (vVar 7))) (vPy (vC (.int 26))))))) (vD (vSlc (vVar 6) (oI (vD (vVar 4))) oNo)))) (ρ := kSt c (some (.py (.str (S (restL c)))))) (v := fun i : Nat => PyData.int (i : Int)) (f := fun k : Nat => .str (S ((restL c).take (c / 48 % (c / 6 % 8 + 1)).toNat ++ [sign (c / 432 + (k : Int))] ++ (restL c).drop (c / 48 % (c / 6 % 8 + 1)).toNat))) (List.range (1 + c % 6).toNat) fun k hk => ⟨_, rfl, rfl, by
    have h0 := letter_at (c / 432 + (k : Int))
    have ea : c / 48 % (c / 6 % 8 + 1) = (((c / 48 % (c / 6 % 8 + 1)).toNat : Nat) : Int) := by omega
    have h1 := cut_to (restL c) (c / 48 % (c / 6 % 8 + 1)).toNat
    have h2 := cut_from (restL c) (c / 48 % (c / 6 % 8 + 1)).toNat
    rw [← ea] at h1 h2
    have l1 : ((restL c).take (c / 48 % (c / 6 % 8 + 1)).toNat).length ≤ 7 := by rw [List.length_take]; omega
    have l2 : ((restL c).drop (c / 48 % (c / 6 % 8 + 1)).toNat).length ≤ 7 := by rw [List.length_drop]; omega
    generalize (restL c).take (c / 48 % (c / 6 % 8 + 1)).toNat = x1 at *
    generalize (restL c).drop (c / 48 % (c / 6 % 8 + 1)).toNat = x2 at *
    have a1 : (restL c).length ≤ 16777216 := by omega
    have a2 : x1.length + 1 ≤ 16777216 := by omega
    have a3 : x1.length + 1 + x2.length ≤ 16777216 := by omega
    simp [kSt, Fx.Hd.own, Fx.TL.er, Fx.erAll, Fx.TL.get, Fx.TL.put, Fx.gget, Fx.gput, Fx.TL.addrs, Fx.TL.data, Fx.dataAll, Fx.msk, Fx.mulOk, Fx.addF, Fx.subF, Fx.mulF, Fx.fdivF, Fx.modF, Fx.powF, Fx.ltF, Fx.leF, Fx.gtF, Fx.geF, Fx.eqD, Fx.eqF, Fx.neF, Fx.isF, Fx.isntF, Fx.lenF, Fx.kindF, Fx.kitF, Fx.keyF, Fx.ixS, Fx.ixK, Fx.vVar, Fx.vC, Fx.vAt, Fx.dat, Fx.vD, Fx.vS, Fx.vPy, Fx.d2, Fx.dB, Fx.vB, Fx.bV, Fx.child, Fx.kidAt, Fx.vIdx, Fx.vGet, Fx.vFld, Fx.vLen, Fx.kindS, Fx.vIsi, Fx.vIsi2, Fx.aNil, Fx.aCons, Fx.vTup, Fx.nLst, Fx.vFz, Fx.bAnd, Fx.bOr, Fx.bNot, Fx.vIf, Fx.oNo, Fx.oI, Fx.vSlc, Fx.nSlc, Fx.negF, Fx.dNeg, Fx.rLenN, Fx.rIsiN, Fx.rIsiN2, Fx.nDct0, Fx.nDdt0, Fx.lendF, Fx.backF, Fx.headLt, Fx.voidF, Fx.tidy, Fx.callF, Fx.makeF, Fx.fP, Fx.fN, Fx.fB, Fx.rootF, Fx.dropLastF, Fx.fZ, Fx.push, Fx.gNo, Fx.gCo, Fx.fCall, Fx.fMake, Fx.fMeth, Fx.fBin2, Fx.fCmp2, Fx.fAnd, Fx.fOr, Fx.fNot, Fx.fBo, Fx.fMv, Fx.fOn, Fx.sNx, Fx.sBk, Fx.sCt, Fx.sRN, Fx.sSq, Fx.sDr, Fx.sRt, Fx.sIf, Fx.gN, Fx.gT0, Fx.gTC, Fx.gTu, Fx.takeRoot, Fx.sAs, Fx.sAt, Fx.childF, Fx.kidF, Fx.belowF, Fx.putAt, Fx.sFl, Fx.sPu, Fx.sSL, Fx.topPt, Fx.popTm, Fx.pushPt, Fx.sAp, Fx.sEx, Fx.fPop, Fx.sDe, Fx.pyAll, Fx.sEt, Fx.sFo, Fx.sFu, Fx.rngF, Fx.sFr, Fx.shiftS, Fx.lentF, Fx.dCall, Fx.nCall, Fx.iL, Fx.iLn, Fx.iT, Fx.iR, Fx.wipeR, Fx.bYes, Fx.nLc, Fx.boolsF, Fx.allF, Fx.d1, Fx.maxF, Fx.intF, Fx.nCopy, Fx.strsF, Fx.joinF, Fx.sRaise, Fx.intsF, Fx.inF, Fx.sAug, Fx.nDcp, Fx.keyD, Fx.iIt, Fx.nLock, Fx.wNo, Fx.wCo, Fx.vCallR, Fx.vMethR, Fx.key1, Fx.isK1, Fx.fSort1, Fx.fTupOf, Fx.aStar, Fx.nDc, Fx.dTup, Fx.dLst, Fx.gathF, Fx.dispF, Fx.allPy, Fx.popN, Fx.fTup, Fx.fLst, Fx.fDct, Fx.vGet2, Fx.keysF, Fx.kTup, Fx.vGetT2, Fx.vGetT, Fx.sPuT, Fx.sAt2, msk_py, msk_no, msk_pt, List.isPrefixOf, List.cons_prefix_cons, List.nil_prefix, S_add, S_len, h0, h1, h2, a1, a2, a3, noList]⟩
  have e : (keysOf c).map PyData.str = (List.range (1 + c % 6).toNat).map fun k : Nat => .str (S ((restL c).take (c / 48 % (c / 6 % 8 + 1)).toNat ++ [sign (c / 432 + (k : Int))] ++ (restL c).drop (c / 48 % (c / 6 % 8 + 1)).toNat)) := by
    unfold keysOf keysL
    rw [if_neg h]
    simp only [List.map_map]; rfl
  rw [e]
  refine nLc_some (ds := (List.range (1 + c % 6).toNat).map fun i : Nat => PyData.int (i : Int)) ?_ (by simp; omega) hc
  simp [kSt, Fx.Hd.own, Fx.TL.er, Fx.erAll, Fx.TL.get, Fx.TL.put, Fx.gget, Fx.gput, Fx.TL.addrs, Fx.TL.data, Fx.dataAll, Fx.msk, Fx.mulOk, Fx.addF, Fx.subF, Fx.mulF, Fx.fdivF, Fx.modF, Fx.powF, Fx.ltF, Fx.leF, Fx.gtF, Fx.geF, Fx.eqD, Fx.eqF, Fx.neF, Fx.isF, Fx.isntF, Fx.idxF, Fx.lenF, Fx.kindF, Fx.kitF, Fx.keyF, Fx.ixS, Fx.ixK, Fx.vVar, Fx.vC, Fx.vAt, Fx.dat, Fx.vD, Fx.vS, Fx.vPy, Fx.d2, Fx.dB, Fx.vB, Fx.bV, Fx.child, Fx.kidAt, Fx.vIdx, Fx.vGet, Fx.vFld, Fx.vLen, Fx.kindS, Fx.vIsi, Fx.vIsi2, Fx.aNil, Fx.aCons, Fx.vTup, Fx.nLst, Fx.vFz, Fx.bAnd, Fx.bOr, Fx.bNot, Fx.vIf, Fx.oNo, Fx.oI, Fx.cutF, Fx.vSlc, Fx.nSlc, Fx.negF, Fx.dNeg, Fx.rLenN, Fx.rIsiN, Fx.rIsiN2, Fx.nDct0, Fx.nDdt0, Fx.lendF, Fx.backF, Fx.headLt, Fx.voidF, Fx.tidy, Fx.callF, Fx.makeF, Fx.fP, Fx.fN, Fx.fB, Fx.rootF, Fx.dropLastF, Fx.fZ, Fx.push, Fx.gNo, Fx.gCo, Fx.fCall, Fx.fMake, Fx.fMeth, Fx.fBin2, Fx.fCmp2, Fx.fAnd, Fx.fOr, Fx.fNot, Fx.fBo, Fx.fMv, Fx.fOn, Fx.sNx, Fx.sBk, Fx.sCt, Fx.sRN, Fx.sSq, Fx.sDr, Fx.sRt, Fx.sIf, Fx.gN, Fx.gT0, Fx.gTC, Fx.gTu, Fx.takeRoot, Fx.sAs, Fx.sAt, Fx.childF, Fx.kidF, Fx.belowF, Fx.putAt, Fx.sFl, Fx.sPu, Fx.sSL, Fx.topPt, Fx.popTm, Fx.pushPt, Fx.sAp, Fx.sEx, Fx.fPop, Fx.sDe, Fx.pyAll, Fx.sEt, Fx.sFo, Fx.sFu, Fx.sFr, Fx.shiftS, Fx.lentF, Fx.dCall, Fx.nCall, Fx.iL, Fx.iLn, Fx.iT, Fx.iR, Fx.wipeR, Fx.bYes, Fx.nLc, Fx.boolsF, Fx.allF, Fx.d1, Fx.maxF, Fx.intF, Fx.nCopy, Fx.strsF, Fx.joinF, Fx.sRaise, Fx.intsF, Fx.inF, Fx.sAug, Fx.nDcp, Fx.keyD, Fx.iIt, Fx.nLock, Fx.wNo, Fx.wCo, Fx.vCallR, Fx.vMethR, Fx.key1, Fx.isK1, Fx.fSort1, Fx.fTupOf, Fx.aStar, Fx.nDc, Fx.dTup, Fx.dLst, Fx.gathF, Fx.dispF, Fx.allPy, Fx.popN, Fx.fTup, Fx.fLst, Fx.fDct, Fx.vGet2, Fx.keysF, Fx.kTup, Fx.vGetT2, Fx.vGetT, Fx.sPuT, Fx.sAt2, msk_py, msk_no, msk_pt, List.isPrefixOf, List.cons_prefix_cons, List.nil_prefix, er]
theorem strs_S (l : List Nat) : strsF ((l.map fun x => [x]).map fun l => PyData.str (S l)) = some ((l.map fun x => [x]).map S) := by
  induction l with
  | nil => rfl
  | cons a l ih => simp only [List.map_cons, strsF, ih]
theorem keys_ok (c : Int) : S__law_keys [.py (.int c)] [] = some (.vl .own [.nd () .lst ((keysOf c).map fun k => .py (.str k))]) := by
  have s0 : 0 ≤ c / 6 % 8 := Int.emod_nonneg _ (by decide)
  have e1 := keys_1 c
  have e2 := keys_2 c
  have e3 := keys_3 c
  have rl := restL_len c
  have a1 : 0 < c / 6 % 8 + 1 := by omega
  have ej := strs_S (restL c)
  have ek := join_ones (restL c)
  have el := map_sum_ones (restL c)
  have e0 : (Str.ofString "").length = 0 := by rw [lit_empty, S_len]; rfl
  unfold S__law_keys b__law_keys
  generalize h__law_keys_1 = b1 at *
  generalize h__law_keys_2 = b2 at *
  generalize h__law_keys_3 = b3 at *
  unfold kSt at *
  have em : ((keysOf c).map PyData.str).map (TL.py : PyData → T) = (keysOf c).map fun k => .py (.str k) := by rw [List.map_map]; rfl
  have a2 : (restL c).length ≤ 16777216 := by omega
  simp only [List.map_map, Function.comp_def] at ej ek el e1
  by_cases h : c / 432 % 3 = 1
  · have e2 := e2 h
    simp [runF, Fx.Hd.own, Fx.TL.er, Fx.erAll, Fx.TL.get, Fx.TL.put, Fx.gget, Fx.gput, Fx.TL.addrs, Fx.TL.data, Fx.dataAll, Fx.msk, Fx.mulOk, Fx.addF, Fx.subF, Fx.mulF, Fx.fdivF, Fx.modF, Fx.powF, Fx.ltF, Fx.leF, Fx.gtF, Fx.geF, Fx.eqD, Fx.eqF, Fx.neF, Fx.isF, Fx.isntF, Fx.idxF, Fx.lenF, Fx.kindF, Fx.kitF, Fx.keyF, Fx.ixS, Fx.ixK, Fx.vVar, Fx.vC, Fx.vAt, Fx.dat, Fx.vD, Fx.vS, Fx.vPy, Fx.d2, Fx.dB, Fx.vB, Fx.bV, Fx.child, Fx.kidAt, Fx.vIdx, Fx.vGet, Fx.vFld, Fx.vLen, Fx.kindS, Fx.vIsi, Fx.vIsi2, Fx.aNil, Fx.aCons, Fx.vTup, Fx.nLst, Fx.vFz, Fx.bAnd, Fx.bOr, Fx.bNot, Fx.vIf, Fx.oNo, Fx.oI, Fx.cutF, Fx.vSlc, Fx.nSlc, Fx.negF, Fx.dNeg, Fx.rLenN, Fx.rIsiN, Fx.rIsiN2, Fx.nDct0, Fx.nDdt0, Fx.lendF, Fx.backF, Fx.headLt, Fx.voidF, Fx.tidy, Fx.callF, Fx.makeF, Fx.fP, Fx.fN, Fx.fB, Fx.rootF, Fx.dropLastF, Fx.fZ, Fx.push, Fx.gNo, Fx.gCo, Fx.fCall, Fx.fMake, Fx.fMeth, Fx.fBin2, Fx.fCmp2, Fx.fAnd, Fx.fOr, Fx.fNot, Fx.fBo, Fx.fMv, Fx.fOn, Fx.sNx, Fx.sBk, Fx.sCt, Fx.sRN, Fx.sSq, Fx.sDr, Fx.sRt, Fx.sIf, Fx.gN, Fx.gT0, Fx.gTC, Fx.gTu, Fx.takeRoot, Fx.sAs, Fx.sAt, Fx.childF, Fx.kidF, Fx.belowF, Fx.putAt, Fx.sFl, Fx.sPu, Fx.sSL, Fx.topPt, Fx.popTm, Fx.pushPt, Fx.sAp, Fx.sEx, Fx.fPop, Fx.sDe, Fx.pyAll, Fx.sEt, Fx.sFo, Fx.sFu, Fx.rngF, Fx.sFr, Fx.shiftS, Fx.lentF, Fx.dCall, Fx.nCall, Fx.iL, Fx.iLn, Fx.iT, Fx.iR, Fx.wipeR, Fx.bYes, Fx.nLc, Fx.boolsF, Fx.allF, Fx.d1, Fx.maxF, Fx.intF, Fx.nCopy, Fx.strsF, Fx.sRaise, Fx.intsF, Fx.inF, Fx.sAug, Fx.nDcp, Fx.keyD, Fx.iIt, Fx.nLock, Fx.wNo, Fx.wCo, Fx.vCallR, Fx.vMethR, Fx.key1, Fx.isK1, Fx.fSort1, Fx.fTupOf, Fx.aStar, Fx.nDc, Fx.dTup, Fx.dLst, Fx.gathF, Fx.dispF, Fx.allPy, Fx.popN, Fx.fTup, Fx.fLst, Fx.fDct, Fx.vGet2, Fx.keysF, Fx.kTup, Fx.vGetT2, Fx.vGetT, Fx.sPuT, Fx.sAt2, msk_py, msk_no, msk_pt, List.isPrefixOf, List.cons_prefix_cons, List.nil_prefix, joinF, e1, e2, ej, ek, el, a1, a2, e0, h, noList, List.map_map, Function.comp_def]
  · have e3 := e3 h
    simp [runF, Fx.Hd.own, Fx.TL.er, Fx.erAll, Fx.TL.get, Fx.TL.put, Fx.gget, Fx.gput, Fx.TL.addrs, Fx.TL.data, Fx.dataAll, Fx.msk, Fx.mulOk, Fx.addF, Fx.subF, Fx.mulF, Fx.fdivF, Fx.modF, Fx.powF, Fx.ltF, Fx.leF, Fx.gtF, Fx.geF, Fx.eqD, Fx.eqF, Fx.neF, Fx.isF, Fx.isntF, Fx.idxF, Fx.lenF, Fx.kindF, Fx.kitF, Fx.keyF, Fx.ixS, Fx.ixK, Fx.vVar, Fx.vC, Fx.vAt, Fx.dat, Fx.vD, Fx.vS, Fx.vPy, Fx.d2, Fx.dB, Fx.vB, Fx.bV, Fx.child, Fx.kidAt, Fx.vIdx, Fx.vGet, Fx.vFld, Fx.vLen, Fx.kindS, Fx.vIsi, Fx.vIsi2, Fx.aNil, Fx.aCons, Fx.vTup, Fx.nLst, Fx.vFz, Fx.bAnd, Fx.bOr, Fx.bNot, Fx.vIf, Fx.oNo, Fx.oI, Fx.cutF, Fx.vSlc, Fx.nSlc, Fx.negF, Fx.dNeg, Fx.rLenN, Fx.rIsiN, Fx.rIsiN2, Fx.nDct0, Fx.nDdt0, Fx.lendF, Fx.backF, Fx.headLt, Fx.voidF, Fx.tidy, Fx.callF, Fx.makeF, Fx.fP, Fx.fN, Fx.fB, Fx.rootF, Fx.dropLastF, Fx.fZ, Fx.push, Fx.gNo, Fx.gCo, Fx.fCall, Fx.fMake, Fx.fMeth, Fx.fBin2, Fx.fCmp2, Fx.fAnd, Fx.fOr, Fx.fNot, Fx.fBo, Fx.fMv, Fx.fOn, Fx.sNx, Fx.sBk, Fx.sCt, Fx.sRN, Fx.sSq, Fx.sDr, Fx.sRt, Fx.sIf, Fx.gN, Fx.gT0, Fx.gTC, Fx.gTu, Fx.takeRoot, Fx.sAs, Fx.sAt, Fx.childF, Fx.kidF, Fx.belowF, Fx.putAt, Fx.sFl, Fx.sPu, Fx.sSL, Fx.topPt, Fx.popTm, Fx.pushPt, Fx.sAp, Fx.sEx, Fx.fPop, Fx.sDe, Fx.pyAll, Fx.sEt, Fx.sFo, Fx.sFu, Fx.rngF, Fx.sFr, Fx.shiftS, Fx.lentF, Fx.dCall, Fx.nCall, Fx.iL, Fx.iLn, Fx.iT, Fx.iR, Fx.wipeR, Fx.bYes, Fx.nLc, Fx.boolsF, Fx.allF, Fx.d1, Fx.maxF, Fx.intF, Fx.nCopy, Fx.strsF, Fx.sRaise, Fx.intsF, Fx.inF, Fx.sAug, Fx.nDcp, Fx.keyD, Fx.iIt, Fx.nLock, Fx.wNo, Fx.wCo, Fx.vCallR, Fx.vMethR, Fx.key1, Fx.isK1, Fx.fSort1, Fx.fTupOf, Fx.aStar, Fx.nDc, Fx.dTup, Fx.dLst, Fx.gathF, Fx.dispF, Fx.allPy, Fx.popN, Fx.fTup, Fx.fLst, Fx.fDct, Fx.vGet2, Fx.keysF, Fx.kTup, Fx.vGetT2, Fx.vGetT, Fx.sPuT, Fx.sAt2, msk_py, msk_no, msk_pt, List.isPrefixOf, List.cons_prefix_cons, List.nil_prefix, joinF, e1, e3, ej, ek, el, a1, a2, e0, h, noList, List.map_map, Function.comp_def]
end Mo


namespace Mo
open PySem L2 Fx
open SX (S S_len)
/-- a loop whose turns go on -/
theorem loopD_nx {tg : Sv → Rh → Option Rh} {b : Rh → Option Oc} (I : List PyData → Rh → Prop) (h : ∀ d ds ρ, I (d :: ds) ρ → ∃ ρ1 ρ2, tg (.py d) ρ = some ρ1 ∧ (b ρ1 = some (.nx ρ2) ∨ b ρ1 = some (.ct ρ2)) ∧ I ds ρ2) : ∀ ds ρ, I ds ρ → ∃ ρ', loopD tg b ds ρ = some (.nx ρ') ∧ I [] ρ'
  | [], ρ, i => ⟨ρ, rfl, i⟩
  | d :: ds, ρ, i => by
    obtain ⟨ρ1, ρ2, h1, h2, h3⟩ := h d ds ρ i
    obtain ⟨ρ', h4, h5⟩ := loopD_nx I h ds ρ2 h3
    refine ⟨ρ', ?_, h5⟩
    rcases h2 with h2 | h2 <;> simp [loopD, h1, h2, h4]
theorem bits_div {z : Int} {n : Nat} (h : Builtin.Int.intBits z ≤ n) (k : Int) (hk : 0 < k) : Builtin.Int.intBits (z / k) ≤ n := by
  have := intBits_fdiv_le (y := k) h
  rwa [Int.fdiv_eq_ediv_of_nonneg _ (by omega)] at this
theorem S_inj {a b : List Nat} (h : S a = S b) : a = b := by
  have : a.toArray = b.toArray := congrArg Str.cps h
  simpa using congrArg Array.toList this
theorem keysL_nodup (c : Int) : (keysL c).Nodup := by
  have m0 : 0 ≤ c % 6 := Int.emod_nonneg _ (by decide)
  have m1 : c % 6 < 6 := Int.emod_lt_of_pos _ (by decide)
  unfold keysL
  split
  · refine List.pairwise_map.mpr ((List.nodup_range (n := (1 + c % 6).toNat)).imp_of_mem fun {a b} ha hb hab e => hab ?_)
    have ha : a < (1 + c % 6).toNat := by simpa using ha
    have hb : b < (1 + c % 6).toNat := by simpa using hb
    have := congrArg List.length e
    simp only [List.length_take, List.length_append, List.length_cons, List.length_nil] at this
    omega
  · refine List.pairwise_map.mpr ((List.nodup_range (n := (1 + c % 6).toNat)).imp_of_mem fun {a b} ha hb hab e => hab ?_)
    have ha : a < (1 + c % 6).toNat := by simpa using ha
    have hb : b < (1 + c % 6).toNat := by simpa using hb
    rw [List.append_assoc, List.append_assoc] at e
    have e := List.append_cancel_left e
    have e : sign (c / 432 + (a : Int)) = sign (c / 432 + (b : Int)) := (List.cons.inj e).1
    unfold sign at e
    have : (c / 432 + (a : Int)) % 26 = (c / 432 + (b : Int)) % 26 := by
      have h1 : 0 ≤ (c / 432 + (a : Int)) % 26 := Int.emod_nonneg _ (by decide)
      have h2 : 0 ≤ (c / 432 + (b : Int)) % 26 := Int.emod_nonneg _ (by decide)
      omega
    omega
theorem keys_nodup (c : Int) : (keysOf c).Nodup := by
  unfold keysOf
  exact List.pairwise_map.mpr ((keysL_nodup c).imp fun hab e => hab (S_inj e))
theorem keys_lt (c : Int) : (keysOf c).length ≤ 6 ∧ 0 < (keysOf c).length := by
  have := keysOf_len c
  have m0 : 0 ≤ c % 6 := Int.emod_nonneg _ (by decide)
  have m1 : c % 6 < 6 := Int.emod_lt_of_pos _ (by decide)
  omega
theorem key_len {c : Int} {k : Str} (h : k ∈ keysOf c) : 1 ≤ k.length ∧ k.length ≤ 8 := by
  obtain ⟨l, hl, rfl⟩ := List.mem_map.mp h
  rw [S_len]
  have rl := restL_len c
  unfold keysL at hl
  have m0 : 0 ≤ c % 6 := Int.emod_nonneg _ (by decide)
  have m1 : c % 6 < 6 := Int.emod_lt_of_pos _ (by decide)
  split at hl
  · obtain ⟨k, hk, rfl⟩ := List.mem_map.mp hl
    have hk : k < (1 + c % 6).toNat := by simpa using hk
    simp only [List.length_take, List.length_append, List.length_cons, List.length_nil]
    omega
  · obtain ⟨k, hk, rfl⟩ := List.mem_map.mp hl
    simp only [List.length_take, List.length_append, List.length_cons, List.length_nil, List.length_drop]
    omega
/-- the key that a cell picks -/
def pickKey (ks : List Str) (i : Int) : Str := (ks[(i % (ks.length : Int)).toNat]?).getD ⟨#[]⟩
theorem pickKey_mem {ks : List Str} (h : 0 < ks.length) (i : Int) : pickKey ks i ∈ ks := by
  have h0 : 0 ≤ i % (ks.length : Int) := Int.emod_nonneg _ (by omega)
  have h1 : i % (ks.length : Int) < ks.length := Int.emod_lt_of_pos _ (by omega)
  have hl : (i % (ks.length : Int)).toNat < ks.length := by omega
  unfold pickKey
  rw [List.getElem?_eq_getElem hl]
  exact List.getElem_mem hl
theorem pickKey_ix {ks : List Str} (h : 0 < ks.length) (i : Int) : ixN ks.length (i % (ks.length : Int)) = some (i % (ks.length : Int)).toNat ∧ ks[(i % (ks.length : Int)).toNat]? = some (pickKey ks i) := by
  have h0 : 0 ≤ i % (ks.length : Int) := Int.emod_nonneg _ (by omega)
  have h1 : i % (ks.length : Int) < ks.length := Int.emod_lt_of_pos _ (by omega)
  have hl : (i % (ks.length : Int)).toNat < ks.length := by omega
  refine ⟨ixN_of h0 h1, ?_⟩
  unfold pickKey
  rw [List.getElem?_eq_getElem hl]
  rfl
theorem plain_str {k : Str} (h : k.length ≤ 8) (n : Nat) : Plain n (.str k) := .str n k (by omega)
theorem plain_of {n : Nat} (ds : List PyData) (hl : ds.length ≤ 100000) (h : ∀ d ∈ ds, Plain n d) : Plain (n + 1) (.tuple ds) := .tup n ds hl h
theorem plain_wish (w : Mv.Wish) : Plain 1 (wishD w) := by
  cases w with
  | get => exact .tup _ _ (by simp) fun d hd => by simp at hd; subst hd; exact .str _ _ (by decide)
  | set n => exact .tup _ _ (by simp) fun d hd => by simp at hd; rcases hd with rfl | rfl; exact .str _ _ (by decide); exact .int _ _
  | add n => exact .tup _ _ (by simp) fun d hd => by simp at hd; rcases hd with rfl | rfl; exact .str _ _ (by decide); exact .int _ _
theorem plain_mark (m : Mv.Mark) : Plain 1 (markD m) := .tup _ _ (by simp) fun d hd => by simp at hd; rcases hd with rfl | rfl | rfl <;> exact .int _ _
theorem plain_marks (ms : List Mv.Mark) (h : ms.length ≤ 100000) : Plain 2 (.tuple (ms.map markD)) := .tup _ _ (by simpa using h) fun d hd => by
  obtain ⟨m, _, rfl⟩ := List.mem_map.mp hd
  exact plain_mark m
def LetKey (ks : List Str) : Mv.Letter Str → Prop
  | .call _ _ _ k _ => k ∈ ks
  | .answer _ _ _ => True
  | .parcel _ k _ _ ms => k ∈ ks ∧ ms.length ≤ 100000
  | .taken _ k _ => k ∈ ks
theorem plain_let {ks : List Str} (hks : ∀ k ∈ ks, k.length ≤ 8) (l : Mv.Letter Str) (h : LetKey ks l) : Plain 3 (letD l) := by
  cases l with
  | call g c n k w =>
    refine .tup _ _ (by simp) fun d hd => ?_
    simp at hd
    rcases hd with rfl | rfl | rfl | rfl | rfl | rfl
    · exact .str _ _ (by decide)
    · exact .int _ _
    · exact .int _ _
    · exact .int _ _
    · exact plain_str (hks k h) _
    · exact (plain_wish w).up (by omega)
  | answer c n t =>
    refine .tup _ _ (by simp) fun d hd => ?_
    simp at hd
    rcases hd with rfl | rfl | rfl | rfl
    · exact .str _ _ (by decide)
    · exact .int _ _
    · exact .int _ _
    · exact .int _ _
  | parcel g k t a ms =>
    refine .tup _ _ (by simp) fun d hd => ?_
    simp only [List.mem_cons, List.not_mem_nil, or_false] at hd
    rcases hd with rfl | rfl | rfl | rfl | rfl | rfl
    · exact .str _ _ (by decide)
    · exact .int _ _
    · exact plain_str (hks k h.1) _
    · exact .int _ _
    · exact .int _ _
    · exact plain_marks ms h.2
  | taken g k t =>
    refine .tup _ _ (by simp) fun d hd => ?_
    simp at hd
    rcases hd with rfl | rfl | rfl | rfl
    · exact .str _ _ (by decide)
    · exact .int _ _
    · exact plain_str (hks k h) _
    · exact .int _ _
theorem plain_lr {ks : List Str} (hks : ∀ k ∈ ks, k.length ≤ 8) (r : Mv.LRow Str) (h : r.k ∈ ks) : Plain 2 (lrD r) := .tup _ _ (by simp) fun d hd => by
  simp at hd
  rcases hd with rfl | rfl | rfl | rfl | rfl
  · exact .int _ _
  · exact .int _ _
  · exact plain_str (hks _ h) _
  · exact plain_wish _
  · exact .int _ _
end Mo


namespace Mo
open PySem L2 Fx
section
variable {κ : Type} [DecidableEq κ] {α : Type}
/-- what a dict's lists tell of a key -/
def lk (ks : List κ) (cs : List α) (k : κ) : Option α := match ixK ks k with
  | some i => cs[i]?
  | none => none
def putC (ks : List κ) (cs : List α) (k : κ) (x : α) : List κ × List α := match ixK ks k with
  | some i => (ks, cs.set i x)
  | none => (ks ++ [k], cs ++ [x])
theorem ixK_lt : ∀ {ks : List κ} {k : κ} {i : Nat}, ixK ks k = some i → i < ks.length := fun h => by
  have := ixK_mem h
  exact (List.getElem?_eq_some_iff.mp this).1
theorem ixK_in : ∀ {ks : List κ} {k : κ}, k ∈ ks → ∃ i, ixK ks k = some i
  | g :: r, k, h => by
    unfold ixK
    by_cases e : g = k
    · exact ⟨0, by rw [if_pos e]⟩
    · obtain ⟨i, hi⟩ := ixK_in (ks := r) (k := k) (by
        rcases List.mem_cons.mp h with h | h
        · exact absurd h.symm e
        · exact h)
      exact ⟨i + 1, by rw [if_neg e, hi]⟩
theorem ixK_app : ∀ {ks l : List κ} {k : κ} {i : Nat}, ixK ks k = some i → ixK (ks ++ l) k = some i
  | g :: r, l, k, i, h => by
    unfold ixK at h
    simp only [List.cons_append]
    unfold ixK
    by_cases e : g = k
    · rw [if_pos e] at h ⊢; exact h
    · rw [if_neg e] at h ⊢
      cases h1 : ixK r k with
      | none => rw [h1] at h; cases h
      | some j => rw [h1] at h; rw [ixK_app h1]; exact h
theorem ixK_app_new : ∀ {ks : List κ} {k : κ}, ixK ks k = none → ixK (ks ++ [k]) k = some ks.length
  | [], k, _ => by simp [ixK]
  | g :: r, k, h => by
    unfold ixK at h
    simp only [List.cons_append]
    unfold ixK
    by_cases e : g = k
    · rw [if_pos e] at h; cases h
    · rw [if_neg e] at h ⊢
      cases h1 : ixK r k with
      | none => rw [ixK_app_new h1]; rfl
      | some j => rw [h1] at h; cases h
theorem ixK_app_ne : ∀ {ks : List κ} {k j : κ}, j ≠ k → ixK (ks ++ [k]) j = ixK ks j
  | [], k, j, h => by simp [ixK, Ne.symm h]
  | g :: r, k, j, h => by
    simp only [List.cons_append]
    unfold ixK
    rw [ixK_app_ne h]
theorem putC_len {ks : List κ} {cs : List α} (hl : ks.length = cs.length) (k : κ) (x : α) : (putC ks cs k x).1.length = (putC ks cs k x).2.length := by
  unfold putC
  split <;> simp [hl]
theorem putC_le {ks : List κ} {cs : List α} (k : κ) (x : α) : (putC ks cs k x).1.length ≤ ks.length + 1 := by
  unfold putC
  split <;> simp
theorem lk_same {ks : List κ} {cs : List α} (hl : ks.length = cs.length) (k : κ) (x : α) : lk (putC ks cs k x).1 (putC ks cs k x).2 k = some x := by
  unfold putC lk
  cases e : ixK ks k with
  | some i =>
    have := ixK_lt e
    simp only [e]
    rw [List.getElem?_set_self (by omega)]
  | none =>
    simp only [ixK_app_new e]
    rw [hl]
    simp
theorem lk_ne {ks : List κ} {cs : List α} (hl : ks.length = cs.length) {k j : κ} (x : α) (h : j ≠ k) : lk (putC ks cs k x).1 (putC ks cs k x).2 j = lk ks cs j := by
  unfold putC lk
  cases e : ixK ks k with
  | some i =>
    simp only
    cases e2 : ixK ks j with
    | none => rfl
    | some m =>
      have : i ≠ m := by
        intro z
        subst z
        have h1 := ixK_mem e
        have h2 := ixK_mem e2
        rw [h1] at h2
        exact h (Option.some.inj h2).symm
      simp only
      rw [List.getElem?_set_ne this]
  | none =>
    simp only
    rw [ixK_app_ne h]
    cases e2 : ixK ks j with
    | none => rfl
    | some m =>
      have := ixK_lt e2
      simp only
      rw [List.getElem?_append_left (by omega)]
theorem lk_some {ks : List κ} {cs : List α} {k : κ} {i : Nat} (e : ixK ks k = some i) : lk ks cs k = cs[i]? := by unfold lk; rw [e]
theorem lk_none {ks : List κ} {cs : List α} {k : κ} (e : ixK ks k = none) : lk ks cs k = none := by unfold lk; rw [e]
theorem putC_some {ks : List κ} {cs : List α} {k : κ} {i : Nat} (x : α) (e : ixK ks k = some i) : putC ks cs k x = (ks, cs.set i x) := by unfold putC; rw [e]
theorem putC_none {ks : List κ} {cs : List α} {k : κ} (x : α) (e : ixK ks k = none) : putC ks cs k x = (ks ++ [k], cs ++ [x]) := by unfold putC; rw [e]
end
end Mo


namespace L
open PySem L2 Fx Mo
open Mv (Mark Row LRow Letter)
def pairD (p : Int × Int) : PyData := .tuple [.int p.1, .int p.2]
def ownC (ka : List Key) (ca : List T) (km : List (List Key)) (cm : List T) (H : Mv.House Str) : List T :=
  [.nd () (.dct ka) ca, .nd () (.ddt km) cm, .nd () .lst (H.fresh.map fun r => .py (lrD r)), .nd () .lst (H.laid.map fun l => .py (letD l))]
def ownT (ka : List Key) (ca : List T) (km : List (List Key)) (cm : List T) (H : Mv.House Str) : T := .nd () (.dct [.inr "amounts", .inr "marks", .inr "rows", .inr "letters"]) (ownC ka ca km cm H)
structure OwnOk (n : Nat) (H : Mv.House Str) (ka : List Key) (ca : List T) (km : List (List Key)) (cm : List T) : Prop where
  la : ka.length = ca.length
  lm : km.length = cm.length
  na : ka.length ≤ n
  nm : km.length ≤ n
  am : ∀ k, (lk ka ca (.inr k)).getD (.py (.int 0)) = .py (.int (H.known k).amount)
  mr : ∀ (c : Int) k, (lk km cm [.inl c, .inr k]).getD (.py (pairD (0, 0))) = .py (pairD (Mv.last (H.known k).marks c))
theorem lcame_ok (n : Nat) (H : Mv.House Str) (ka : List Key) (ca : List T) (km : List (List Key)) (cm : List T) (c m : Int) (k : Str) (w : Mv.Wish) (h : OwnOk n H ka ca km cm) (hs : (H.known k).st = .here) (hn : n < 100000) (hL : H.laid.length < 100000) (hf : H.fresh.length < 100000) :
   ∃ ka' ca' km' cm', S__law_came [.pt [0], .py (.int c), .py (.int m), .py (.str k), .py (wishD w)] [ownT ka ca km cm H] = some (.vl (.s (.py .none)) [ownT ka' ca' km' cm' (H.called c m k w)]) ∧ OwnOk (n + 1) (H.called c m k w) ka' ca' km' cm' := by
  have ha := h.am k
  have hm := h.mr c k
  have h1 := h.na
  have h2 := h.nm
  have ed := ldone_ok (H.known k).amount w
  unfold Mv.House.called
  rw [if_pos hs]
  have l1 : ∀ i, ixK ka (.inr k) = some i → ca[i]? = some (.py (.int (H.known k).amount)) := fun i e => by
    have hi := ixK_lt e
    have hi : i < ca.length := by have := h.la; omega
    rw [lk_some e, List.getElem?_eq_getElem hi] at ha
    rw [List.getElem?_eq_getElem hi]
    exact congrArg some ha
  have l2 : ixK ka (.inr k) = none → (H.known k).amount = 0 := fun e => by
    rw [lk_none e] at ha
    cases ha'' : (H.known k).amount <;> rw [ha''] at ha <;> cases ha <;> rfl
  have m1 : ∀ i, ixK km [.inl c, .inr k] = some i → cm[i]? = some (.py (pairD (Mv.last (H.known k).marks c))) := fun i e => by
    have hi := ixK_lt e
    have hi : i < cm.length := by have := h.lm; omega
    rw [lk_some e, List.getElem?_eq_getElem hi] at hm
    rw [List.getElem?_eq_getElem hi]
    exact congrArg some hm
  have m2 : ixK km [.inl c, .inr k] = none → Mv.last (H.known k).marks c = (0, 0) := fun e => by
    rw [lk_none e] at hm
    have : (TL.py (pairD (0, 0)) : T) = .py (pairD (Mv.last (H.known k).marks c)) := hm
    unfold pairD at this
    injection this with this
    injection this with this
    injection this with a b
    injection b with b _
    injection a with a
    injection b with b
    exact (Prod.ext a b).symm
  have ll : ∀ t, letD (.answer c m t) = .tuple [.str "answer", .int c, .int m, .int t] := fun t => rfl
  have lr : ∀ t, lrD ⟨c, m, k, w, t⟩ = .tuple [.int c, .int m, .str k, wishD w, .int t] := fun t => rfl
  have nw := noList_wish w
  generalize hl : Mv.last (H.known k).marks c = p at *
  obtain ⟨pn, pt⟩ := p
  simp only
  by_cases g1 : m < pn
  · refine ⟨ka, ca, km, cm, ?_, ?_⟩
    · rw [if_pos g1]
      unfold S__law_came b__law_came ownT ownC
      cases e2 : ixK km [.inl c, .inr k] with
      | some i =>
        have m1 := m1 i e2
        unfold pairD at m1
        simp [runF, Fx.Hd.own, Fx.TL.er, Fx.erAll, Fx.TL.get, Fx.TL.put, Fx.gget, Fx.gput, Fx.TL.addrs, Fx.TL.data, Fx.dataAll, Fx.msk, Fx.mulOk, Fx.addF, Fx.subF, Fx.mulF, Fx.fdivF, Fx.modF, Fx.powF, Fx.ltF, Fx.leF, Fx.gtF, Fx.geF, Fx.eqD, Fx.eqF, Fx.neF, Fx.isF, Fx.isntF, Fx.idxF, Fx.lenF, Fx.kindF, Fx.kitF, Fx.keyF, Fx.ixS, Fx.ixK, Fx.vVar, Fx.vC, Fx.vAt, Fx.dat, Fx.vD, Fx.vS, Fx.vPy, Fx.d2, Fx.dB, Fx.vB, Fx.bV, Fx.child, Fx.kidAt, Fx.vIdx, Fx.vGet, Fx.vFld, Fx.vLen, Fx.kindS, Fx.vIsi, Fx.vIsi2, Fx.aNil, Fx.aCons, Fx.vTup, Fx.nLst, Fx.vFz, Fx.bAnd, Fx.bOr, Fx.bNot, Fx.vIf, Fx.oNo, Fx.oI, Fx.cutF, Fx.vSlc, Fx.nSlc, Fx.negF, Fx.dNeg, Fx.rLenN, Fx.rIsiN, Fx.rIsiN2, Fx.nDct0, Fx.nDdt0, Fx.lendF, Fx.backF, Fx.headLt, Fx.voidF, Fx.tidy, Fx.callF, Fx.makeF, Fx.fP, Fx.fN, Fx.fB, Fx.rootF, Fx.dropLastF, Fx.fZ, Fx.push, Fx.gNo, Fx.gCo, Fx.fCall, Fx.fMake, Fx.fMeth, Fx.fBin2, Fx.fCmp2, Fx.fAnd, Fx.fOr, Fx.fNot, Fx.fBo, Fx.fMv, Fx.fOn, Fx.sNx, Fx.sBk, Fx.sCt, Fx.sRN, Fx.sSq, Fx.sDr, Fx.sRt, Fx.sIf, Fx.gN, Fx.gT0, Fx.gTC, Fx.gTu, Fx.takeRoot, Fx.sAs, Fx.sAt, Fx.childF, Fx.kidF, Fx.belowF, Fx.putAt, Fx.sFl, Fx.sPu, Fx.sSL, Fx.topPt, Fx.popTm, Fx.pushPt, Fx.sAp, Fx.sEx, Fx.fPop, Fx.sDe, Fx.pyAll, Fx.sEt, Fx.sFo, Fx.sFu, Fx.rngF, Fx.sFr, Fx.shiftS, Fx.lentF, Fx.dCall, Fx.nCall, Fx.iL, Fx.iLn, Fx.iT, Fx.iR, Fx.wipeR, Fx.bYes, Fx.nLc, Fx.boolsF, Fx.allF, Fx.d1, Fx.maxF, Fx.intF, Fx.nCopy, Fx.strsF, Fx.joinF, Fx.sRaise, Fx.intsF, Fx.inF, Fx.sAug, Fx.nDcp, Fx.keyD, Fx.iIt, Fx.nLock, Fx.wNo, Fx.wCo, Fx.vCallR, Fx.vMethR, Fx.key1, Fx.isK1, Fx.fSort1, Fx.fTupOf, Fx.aStar, Fx.nDc, Fx.dTup, Fx.dLst, Fx.gathF, Fx.dispF, Fx.allPy, Fx.popN, Fx.fTup, Fx.fLst, Fx.fDct, Fx.vGet2, Fx.keysF, Fx.kTup, Fx.vGetT2, Fx.vGetT, Fx.sPuT, Fx.sAt2, msk_py, msk_no, msk_pt, List.isPrefixOf, List.cons_prefix_cons, List.nil_prefix, ofString_inj, e2, m1, g1, noList, noLists]
      | none =>
        have m2 := m2 e2
        cases m2
        simp [runF, Fx.Hd.own, Fx.TL.er, Fx.erAll, Fx.TL.get, Fx.TL.put, Fx.gget, Fx.gput, Fx.TL.addrs, Fx.TL.data, Fx.dataAll, Fx.msk, Fx.mulOk, Fx.addF, Fx.subF, Fx.mulF, Fx.fdivF, Fx.modF, Fx.powF, Fx.ltF, Fx.leF, Fx.gtF, Fx.geF, Fx.eqD, Fx.eqF, Fx.neF, Fx.isF, Fx.isntF, Fx.idxF, Fx.lenF, Fx.kindF, Fx.kitF, Fx.keyF, Fx.ixS, Fx.ixK, Fx.vVar, Fx.vC, Fx.vAt, Fx.dat, Fx.vD, Fx.vS, Fx.vPy, Fx.d2, Fx.dB, Fx.vB, Fx.bV, Fx.child, Fx.kidAt, Fx.vIdx, Fx.vGet, Fx.vFld, Fx.vLen, Fx.kindS, Fx.vIsi, Fx.vIsi2, Fx.aNil, Fx.aCons, Fx.vTup, Fx.nLst, Fx.vFz, Fx.bAnd, Fx.bOr, Fx.bNot, Fx.vIf, Fx.oNo, Fx.oI, Fx.cutF, Fx.vSlc, Fx.nSlc, Fx.negF, Fx.dNeg, Fx.rLenN, Fx.rIsiN, Fx.rIsiN2, Fx.nDct0, Fx.nDdt0, Fx.lendF, Fx.backF, Fx.headLt, Fx.voidF, Fx.tidy, Fx.callF, Fx.makeF, Fx.fP, Fx.fN, Fx.fB, Fx.rootF, Fx.dropLastF, Fx.fZ, Fx.push, Fx.gNo, Fx.gCo, Fx.fCall, Fx.fMake, Fx.fMeth, Fx.fBin2, Fx.fCmp2, Fx.fAnd, Fx.fOr, Fx.fNot, Fx.fBo, Fx.fMv, Fx.fOn, Fx.sNx, Fx.sBk, Fx.sCt, Fx.sRN, Fx.sSq, Fx.sDr, Fx.sRt, Fx.sIf, Fx.gN, Fx.gT0, Fx.gTC, Fx.gTu, Fx.takeRoot, Fx.sAs, Fx.sAt, Fx.childF, Fx.kidF, Fx.belowF, Fx.putAt, Fx.sFl, Fx.sPu, Fx.sSL, Fx.topPt, Fx.popTm, Fx.pushPt, Fx.sAp, Fx.sEx, Fx.fPop, Fx.sDe, Fx.pyAll, Fx.sEt, Fx.sFo, Fx.sFu, Fx.rngF, Fx.sFr, Fx.shiftS, Fx.lentF, Fx.dCall, Fx.nCall, Fx.iL, Fx.iLn, Fx.iT, Fx.iR, Fx.wipeR, Fx.bYes, Fx.nLc, Fx.boolsF, Fx.allF, Fx.d1, Fx.maxF, Fx.intF, Fx.nCopy, Fx.strsF, Fx.joinF, Fx.sRaise, Fx.intsF, Fx.inF, Fx.sAug, Fx.nDcp, Fx.keyD, Fx.iIt, Fx.nLock, Fx.wNo, Fx.wCo, Fx.vCallR, Fx.vMethR, Fx.key1, Fx.isK1, Fx.fSort1, Fx.fTupOf, Fx.aStar, Fx.nDc, Fx.dTup, Fx.dLst, Fx.gathF, Fx.dispF, Fx.allPy, Fx.popN, Fx.fTup, Fx.fLst, Fx.fDct, Fx.vGet2, Fx.keysF, Fx.kTup, Fx.vGetT2, Fx.vGetT, Fx.sPuT, Fx.sAt2, msk_py, msk_no, msk_pt, List.isPrefixOf, List.cons_prefix_cons, List.nil_prefix, ofString_inj, e2, g1, noList, noLists]
    · rw [if_pos g1]
      exact ⟨h.la, h.lm, by omega, by omega, h.am, h.mr⟩
  · rw [if_neg g1]
    by_cases g2 : pn < m
    · rw [if_pos g2]
      have o := h.la
      have o2 := h.lm
      refine ⟨(putC ka ca (.inr k) (.py (.int (w.done (H.known k).amount).1))).1, (putC ka ca (.inr k) (.py (.int (w.done (H.known k).amount).1))).2, (putC km cm [.inl c, .inr k] (.py (pairD (m, (w.done (H.known k).amount).2)))).1, (putC km cm [.inl c, .inr k] (.py (pairD (m, (w.done (H.known k).amount).2)))).2, ?_, ?_⟩
      · unfold S__law_came b__law_came ownT ownC
        generalize (w.done (H.known k).amount).1 = d1 at *
        generalize (w.done (H.known k).amount).2 = d2 at *
        have n1 : ka.length < 100000 := by omega
        have n2 : km.length < 100000 := by omega
        cases e1 : ixK ka (.inr k) with
        | some i =>
          have l1 := l1 i e1
          rw [putC_some _ e1]
          cases e2 : ixK km [.inl c, .inr k] with
          | some i =>
            have m1 := m1 i e2
            rw [putC_some _ e2]
            unfold pairD at *
            simp [runF, Fx.Hd.own, Fx.TL.er, Fx.erAll, Fx.TL.get, Fx.TL.put, Fx.gget, Fx.gput, Fx.TL.addrs, Fx.TL.data, Fx.dataAll, Fx.msk, Fx.mulOk, Fx.addF, Fx.subF, Fx.mulF, Fx.fdivF, Fx.modF, Fx.powF, Fx.ltF, Fx.leF, Fx.gtF, Fx.geF, Fx.eqD, Fx.eqF, Fx.neF, Fx.isF, Fx.isntF, Fx.idxF, Fx.lenF, Fx.kindF, Fx.kitF, Fx.keyF, Fx.ixS, Fx.ixK, Fx.vVar, Fx.vC, Fx.vAt, Fx.dat, Fx.vD, Fx.vS, Fx.vPy, Fx.d2, Fx.dB, Fx.vB, Fx.bV, Fx.child, Fx.kidAt, Fx.vIdx, Fx.vGet, Fx.vFld, Fx.vLen, Fx.kindS, Fx.vIsi, Fx.vIsi2, Fx.aNil, Fx.aCons, Fx.vTup, Fx.nLst, Fx.vFz, Fx.bAnd, Fx.bOr, Fx.bNot, Fx.vIf, Fx.oNo, Fx.oI, Fx.cutF, Fx.vSlc, Fx.nSlc, Fx.negF, Fx.dNeg, Fx.rLenN, Fx.rIsiN, Fx.rIsiN2, Fx.nDct0, Fx.nDdt0, Fx.lendF, Fx.backF, Fx.headLt, Fx.voidF, Fx.tidy, Fx.callF, Fx.makeF, Fx.fP, Fx.fN, Fx.fB, Fx.rootF, Fx.dropLastF, Fx.fZ, Fx.push, Fx.gNo, Fx.gCo, Fx.fCall, Fx.fMake, Fx.fMeth, Fx.fBin2, Fx.fCmp2, Fx.fAnd, Fx.fOr, Fx.fNot, Fx.fBo, Fx.fMv, Fx.fOn, Fx.sNx, Fx.sBk, Fx.sCt, Fx.sRN, Fx.sSq, Fx.sDr, Fx.sRt, Fx.sIf, Fx.gN, Fx.gT0, Fx.gTC, Fx.gTu, Fx.takeRoot, Fx.sAs, Fx.sAt, Fx.childF, Fx.kidF, Fx.belowF, Fx.putAt, Fx.sFl, Fx.sPu, Fx.sSL, Fx.topPt, Fx.popTm, Fx.pushPt, Fx.sAp, Fx.sEx, Fx.fPop, Fx.sDe, Fx.pyAll, Fx.sEt, Fx.sFo, Fx.sFu, Fx.rngF, Fx.sFr, Fx.shiftS, Fx.lentF, Fx.dCall, Fx.nCall, Fx.iL, Fx.iLn, Fx.iT, Fx.iR, Fx.wipeR, Fx.bYes, Fx.nLc, Fx.boolsF, Fx.allF, Fx.d1, Fx.maxF, Fx.intF, Fx.nCopy, Fx.strsF, Fx.joinF, Fx.sRaise, Fx.intsF, Fx.inF, Fx.sAug, Fx.nDcp, Fx.keyD, Fx.iIt, Fx.nLock, Fx.wNo, Fx.wCo, Fx.vCallR, Fx.vMethR, Fx.key1, Fx.isK1, Fx.fSort1, Fx.fTupOf, Fx.aStar, Fx.nDc, Fx.dTup, Fx.dLst, Fx.gathF, Fx.dispF, Fx.allPy, Fx.popN, Fx.fTup, Fx.fLst, Fx.fDct, Fx.vGet2, Fx.keysF, Fx.kTup, Fx.vGetT2, Fx.vGetT, Fx.sPuT, Fx.sAt2, msk_py, msk_no, msk_pt, List.isPrefixOf, List.cons_prefix_cons, List.nil_prefix, ofString_inj, e1, e2, l1, m1, g1, g2, ed, ll, lr, nw, n1, n2, hL, hf, noList, noLists]
          | none =>
            have m2 := m2 e2
            cases m2
            rw [putC_none _ e2]
            unfold pairD at *
            simp [runF, Fx.Hd.own, Fx.TL.er, Fx.erAll, Fx.TL.get, Fx.TL.put, Fx.gget, Fx.gput, Fx.TL.addrs, Fx.TL.data, Fx.dataAll, Fx.msk, Fx.mulOk, Fx.addF, Fx.subF, Fx.mulF, Fx.fdivF, Fx.modF, Fx.powF, Fx.ltF, Fx.leF, Fx.gtF, Fx.geF, Fx.eqD, Fx.eqF, Fx.neF, Fx.isF, Fx.isntF, Fx.idxF, Fx.lenF, Fx.kindF, Fx.kitF, Fx.keyF, Fx.ixS, Fx.ixK, Fx.vVar, Fx.vC, Fx.vAt, Fx.dat, Fx.vD, Fx.vS, Fx.vPy, Fx.d2, Fx.dB, Fx.vB, Fx.bV, Fx.child, Fx.kidAt, Fx.vIdx, Fx.vGet, Fx.vFld, Fx.vLen, Fx.kindS, Fx.vIsi, Fx.vIsi2, Fx.aNil, Fx.aCons, Fx.vTup, Fx.nLst, Fx.vFz, Fx.bAnd, Fx.bOr, Fx.bNot, Fx.vIf, Fx.oNo, Fx.oI, Fx.cutF, Fx.vSlc, Fx.nSlc, Fx.negF, Fx.dNeg, Fx.rLenN, Fx.rIsiN, Fx.rIsiN2, Fx.nDct0, Fx.nDdt0, Fx.lendF, Fx.backF, Fx.headLt, Fx.voidF, Fx.tidy, Fx.callF, Fx.makeF, Fx.fP, Fx.fN, Fx.fB, Fx.rootF, Fx.dropLastF, Fx.fZ, Fx.push, Fx.gNo, Fx.gCo, Fx.fCall, Fx.fMake, Fx.fMeth, Fx.fBin2, Fx.fCmp2, Fx.fAnd, Fx.fOr, Fx.fNot, Fx.fBo, Fx.fMv, Fx.fOn, Fx.sNx, Fx.sBk, Fx.sCt, Fx.sRN, Fx.sSq, Fx.sDr, Fx.sRt, Fx.sIf, Fx.gN, Fx.gT0, Fx.gTC, Fx.gTu, Fx.takeRoot, Fx.sAs, Fx.sAt, Fx.childF, Fx.kidF, Fx.belowF, Fx.putAt, Fx.sFl, Fx.sPu, Fx.sSL, Fx.topPt, Fx.popTm, Fx.pushPt, Fx.sAp, Fx.sEx, Fx.fPop, Fx.sDe, Fx.pyAll, Fx.sEt, Fx.sFo, Fx.sFu, Fx.rngF, Fx.sFr, Fx.shiftS, Fx.lentF, Fx.dCall, Fx.nCall, Fx.iL, Fx.iLn, Fx.iT, Fx.iR, Fx.wipeR, Fx.bYes, Fx.nLc, Fx.boolsF, Fx.allF, Fx.d1, Fx.maxF, Fx.intF, Fx.nCopy, Fx.strsF, Fx.joinF, Fx.sRaise, Fx.intsF, Fx.inF, Fx.sAug, Fx.nDcp, Fx.keyD, Fx.iIt, Fx.nLock, Fx.wNo, Fx.wCo, Fx.vCallR, Fx.vMethR, Fx.key1, Fx.isK1, Fx.fSort1, Fx.fTupOf, Fx.aStar, Fx.nDc, Fx.dTup, Fx.dLst, Fx.gathF, Fx.dispF, Fx.allPy, Fx.popN, Fx.fTup, Fx.fLst, Fx.fDct, Fx.vGet2, Fx.keysF, Fx.kTup, Fx.vGetT2, Fx.vGetT, Fx.sPuT, Fx.sAt2, msk_py, msk_no, msk_pt, List.isPrefixOf, List.cons_prefix_cons, List.nil_prefix, ofString_inj, e1, e2, l1, g1, g2, ed, ll, lr, nw, n1, n2, hL, hf, noList, noLists]
        | none =>
          have l2 := l2 e1
          rw [l2] at ed
          rw [putC_none _ e1]
          cases e2 : ixK km [.inl c, .inr k] with
          | some i =>
            have m1 := m1 i e2
            rw [putC_some _ e2]
            unfold pairD at *
            simp [runF, Fx.Hd.own, Fx.TL.er, Fx.erAll, Fx.TL.get, Fx.TL.put, Fx.gget, Fx.gput, Fx.TL.addrs, Fx.TL.data, Fx.dataAll, Fx.msk, Fx.mulOk, Fx.addF, Fx.subF, Fx.mulF, Fx.fdivF, Fx.modF, Fx.powF, Fx.ltF, Fx.leF, Fx.gtF, Fx.geF, Fx.eqD, Fx.eqF, Fx.neF, Fx.isF, Fx.isntF, Fx.idxF, Fx.lenF, Fx.kindF, Fx.kitF, Fx.keyF, Fx.ixS, Fx.ixK, Fx.vVar, Fx.vC, Fx.vAt, Fx.dat, Fx.vD, Fx.vS, Fx.vPy, Fx.d2, Fx.dB, Fx.vB, Fx.bV, Fx.child, Fx.kidAt, Fx.vIdx, Fx.vGet, Fx.vFld, Fx.vLen, Fx.kindS, Fx.vIsi, Fx.vIsi2, Fx.aNil, Fx.aCons, Fx.vTup, Fx.nLst, Fx.vFz, Fx.bAnd, Fx.bOr, Fx.bNot, Fx.vIf, Fx.oNo, Fx.oI, Fx.cutF, Fx.vSlc, Fx.nSlc, Fx.negF, Fx.dNeg, Fx.rLenN, Fx.rIsiN, Fx.rIsiN2, Fx.nDct0, Fx.nDdt0, Fx.lendF, Fx.backF, Fx.headLt, Fx.voidF, Fx.tidy, Fx.callF, Fx.makeF, Fx.fP, Fx.fN, Fx.fB, Fx.rootF, Fx.dropLastF, Fx.fZ, Fx.push, Fx.gNo, Fx.gCo, Fx.fCall, Fx.fMake, Fx.fMeth, Fx.fBin2, Fx.fCmp2, Fx.fAnd, Fx.fOr, Fx.fNot, Fx.fBo, Fx.fMv, Fx.fOn, Fx.sNx, Fx.sBk, Fx.sCt, Fx.sRN, Fx.sSq, Fx.sDr, Fx.sRt, Fx.sIf, Fx.gN, Fx.gT0, Fx.gTC, Fx.gTu, Fx.takeRoot, Fx.sAs, Fx.sAt, Fx.childF, Fx.kidF, Fx.belowF, Fx.putAt, Fx.sFl, Fx.sPu, Fx.sSL, Fx.topPt, Fx.popTm, Fx.pushPt, Fx.sAp, Fx.sEx, Fx.fPop, Fx.sDe, Fx.pyAll, Fx.sEt, Fx.sFo, Fx.sFu, Fx.rngF, Fx.sFr, Fx.shiftS, Fx.lentF, Fx.dCall, Fx.nCall, Fx.iL, Fx.iLn, Fx.iT, Fx.iR, Fx.wipeR, Fx.bYes, Fx.nLc, Fx.boolsF, Fx.allF, Fx.d1, Fx.maxF, Fx.intF, Fx.nCopy, Fx.strsF, Fx.joinF, Fx.sRaise, Fx.intsF, Fx.inF, Fx.sAug, Fx.nDcp, Fx.keyD, Fx.iIt, Fx.nLock, Fx.wNo, Fx.wCo, Fx.vCallR, Fx.vMethR, Fx.key1, Fx.isK1, Fx.fSort1, Fx.fTupOf, Fx.aStar, Fx.nDc, Fx.dTup, Fx.dLst, Fx.gathF, Fx.dispF, Fx.allPy, Fx.popN, Fx.fTup, Fx.fLst, Fx.fDct, Fx.vGet2, Fx.keysF, Fx.kTup, Fx.vGetT2, Fx.vGetT, Fx.sPuT, Fx.sAt2, msk_py, msk_no, msk_pt, List.isPrefixOf, List.cons_prefix_cons, List.nil_prefix, ofString_inj, e1, e2, m1, g1, g2, ed, ll, lr, nw, n1, n2, hL, hf, noList, noLists]
          | none =>
            have m2 := m2 e2
            cases m2
            rw [putC_none _ e2]
            unfold pairD at *
            simp [runF, Fx.Hd.own, Fx.TL.er, Fx.erAll, Fx.TL.get, Fx.TL.put, Fx.gget, Fx.gput, Fx.TL.addrs, Fx.TL.data, Fx.dataAll, Fx.msk, Fx.mulOk, Fx.addF, Fx.subF, Fx.mulF, Fx.fdivF, Fx.modF, Fx.powF, Fx.ltF, Fx.leF, Fx.gtF, Fx.geF, Fx.eqD, Fx.eqF, Fx.neF, Fx.isF, Fx.isntF, Fx.idxF, Fx.lenF, Fx.kindF, Fx.kitF, Fx.keyF, Fx.ixS, Fx.ixK, Fx.vVar, Fx.vC, Fx.vAt, Fx.dat, Fx.vD, Fx.vS, Fx.vPy, Fx.d2, Fx.dB, Fx.vB, Fx.bV, Fx.child, Fx.kidAt, Fx.vIdx, Fx.vGet, Fx.vFld, Fx.vLen, Fx.kindS, Fx.vIsi, Fx.vIsi2, Fx.aNil, Fx.aCons, Fx.vTup, Fx.nLst, Fx.vFz, Fx.bAnd, Fx.bOr, Fx.bNot, Fx.vIf, Fx.oNo, Fx.oI, Fx.cutF, Fx.vSlc, Fx.nSlc, Fx.negF, Fx.dNeg, Fx.rLenN, Fx.rIsiN, Fx.rIsiN2, Fx.nDct0, Fx.nDdt0, Fx.lendF, Fx.backF, Fx.headLt, Fx.voidF, Fx.tidy, Fx.callF, Fx.makeF, Fx.fP, Fx.fN, Fx.fB, Fx.rootF, Fx.dropLastF, Fx.fZ, Fx.push, Fx.gNo, Fx.gCo, Fx.fCall, Fx.fMake, Fx.fMeth, Fx.fBin2, Fx.fCmp2, Fx.fAnd, Fx.fOr, Fx.fNot, Fx.fBo, Fx.fMv, Fx.fOn, Fx.sNx, Fx.sBk, Fx.sCt, Fx.sRN, Fx.sSq, Fx.sDr, Fx.sRt, Fx.sIf, Fx.gN, Fx.gT0, Fx.gTC, Fx.gTu, Fx.takeRoot, Fx.sAs, Fx.sAt, Fx.childF, Fx.kidF, Fx.belowF, Fx.putAt, Fx.sFl, Fx.sPu, Fx.sSL, Fx.topPt, Fx.popTm, Fx.pushPt, Fx.sAp, Fx.sEx, Fx.fPop, Fx.sDe, Fx.pyAll, Fx.sEt, Fx.sFo, Fx.sFu, Fx.rngF, Fx.sFr, Fx.shiftS, Fx.lentF, Fx.dCall, Fx.nCall, Fx.iL, Fx.iLn, Fx.iT, Fx.iR, Fx.wipeR, Fx.bYes, Fx.nLc, Fx.boolsF, Fx.allF, Fx.d1, Fx.maxF, Fx.intF, Fx.nCopy, Fx.strsF, Fx.joinF, Fx.sRaise, Fx.intsF, Fx.inF, Fx.sAug, Fx.nDcp, Fx.keyD, Fx.iIt, Fx.nLock, Fx.wNo, Fx.wCo, Fx.vCallR, Fx.vMethR, Fx.key1, Fx.isK1, Fx.fSort1, Fx.fTupOf, Fx.aStar, Fx.nDc, Fx.dTup, Fx.dLst, Fx.gathF, Fx.dispF, Fx.allPy, Fx.popN, Fx.fTup, Fx.fLst, Fx.fDct, Fx.vGet2, Fx.keysF, Fx.kTup, Fx.vGetT2, Fx.vGetT, Fx.sPuT, Fx.sAt2, msk_py, msk_no, msk_pt, List.isPrefixOf, List.cons_prefix_cons, List.nil_prefix, ofString_inj, e1, e2, g1, g2, ed, ll, lr, nw, n1, n2, hL, hf, noList, noLists]
      · refine ⟨putC_len o _ _, putC_len o2 _ _, Nat.le_trans (putC_le _ _) (by omega), Nat.le_trans (putC_le _ _) (by omega), fun j => ?_, fun d j => ?_⟩
        · by_cases z : j = k
          · subst z
            rw [lk_same o]
            simp
          · rw [lk_ne o _ (fun q => z (Sum.inr.inj q))]
            simp only [Mv.setK_ne _ _ z]
            exact h.am j
        · by_cases z : j = k
          · subst z
            by_cases y : d = c
            · subst y
              rw [lk_same o2]
              simp only [Mv.setK_same]
              rw [Mv.last_marked_same]
              rfl
            · rw [lk_ne o2 _ (fun q => y (by injection q with q; exact Sum.inl.inj q))]
              simp only [Mv.setK_same]
              rw [Mv.last_marked_ne _ _ _ (Ne.symm y)]
              exact h.mr d j
          · rw [lk_ne o2 _ (fun q => z (by injection q with _ q; injection q with q; exact Sum.inr.inj q))]
            simp only [Mv.setK_ne _ _ z]
            exact h.mr d j
    · rw [if_neg g2]
      refine ⟨ka, ca, km, cm, ?_, ?_⟩
      · unfold S__law_came b__law_came ownT ownC
        cases e2 : ixK km [.inl c, .inr k] with
        | some i =>
          have m1 := m1 i e2
          unfold pairD at m1
          simp [runF, Fx.Hd.own, Fx.TL.er, Fx.erAll, Fx.TL.get, Fx.TL.put, Fx.gget, Fx.gput, Fx.TL.addrs, Fx.TL.data, Fx.dataAll, Fx.msk, Fx.mulOk, Fx.addF, Fx.subF, Fx.mulF, Fx.fdivF, Fx.modF, Fx.powF, Fx.ltF, Fx.leF, Fx.gtF, Fx.geF, Fx.eqD, Fx.eqF, Fx.neF, Fx.isF, Fx.isntF, Fx.idxF, Fx.lenF, Fx.kindF, Fx.kitF, Fx.keyF, Fx.ixS, Fx.ixK, Fx.vVar, Fx.vC, Fx.vAt, Fx.dat, Fx.vD, Fx.vS, Fx.vPy, Fx.d2, Fx.dB, Fx.vB, Fx.bV, Fx.child, Fx.kidAt, Fx.vIdx, Fx.vGet, Fx.vFld, Fx.vLen, Fx.kindS, Fx.vIsi, Fx.vIsi2, Fx.aNil, Fx.aCons, Fx.vTup, Fx.nLst, Fx.vFz, Fx.bAnd, Fx.bOr, Fx.bNot, Fx.vIf, Fx.oNo, Fx.oI, Fx.cutF, Fx.vSlc, Fx.nSlc, Fx.negF, Fx.dNeg, Fx.rLenN, Fx.rIsiN, Fx.rIsiN2, Fx.nDct0, Fx.nDdt0, Fx.lendF, Fx.backF, Fx.headLt, Fx.voidF, Fx.tidy, Fx.callF, Fx.makeF, Fx.fP, Fx.fN, Fx.fB, Fx.rootF, Fx.dropLastF, Fx.fZ, Fx.push, Fx.gNo, Fx.gCo, Fx.fCall, Fx.fMake, Fx.fMeth, Fx.fBin2, Fx.fCmp2, Fx.fAnd, Fx.fOr, Fx.fNot, Fx.fBo, Fx.fMv, Fx.fOn, Fx.sNx, Fx.sBk, Fx.sCt, Fx.sRN, Fx.sSq, Fx.sDr, Fx.sRt, Fx.sIf, Fx.gN, Fx.gT0, Fx.gTC, Fx.gTu, Fx.takeRoot, Fx.sAs, Fx.sAt, Fx.childF, Fx.kidF, Fx.belowF, Fx.putAt, Fx.sFl, Fx.sPu, Fx.sSL, Fx.topPt, Fx.popTm, Fx.pushPt, Fx.sAp, Fx.sEx, Fx.fPop, Fx.sDe, Fx.pyAll, Fx.sEt, Fx.sFo, Fx.sFu, Fx.rngF, Fx.sFr, Fx.shiftS, Fx.lentF, Fx.dCall, Fx.nCall, Fx.iL, Fx.iLn, Fx.iT, Fx.iR, Fx.wipeR, Fx.bYes, Fx.nLc, Fx.boolsF, Fx.allF, Fx.d1, Fx.maxF, Fx.intF, Fx.nCopy, Fx.strsF, Fx.joinF, Fx.sRaise, Fx.intsF, Fx.inF, Fx.sAug, Fx.nDcp, Fx.keyD, Fx.iIt, Fx.nLock, Fx.wNo, Fx.wCo, Fx.vCallR, Fx.vMethR, Fx.key1, Fx.isK1, Fx.fSort1, Fx.fTupOf, Fx.aStar, Fx.nDc, Fx.dTup, Fx.dLst, Fx.gathF, Fx.dispF, Fx.allPy, Fx.popN, Fx.fTup, Fx.fLst, Fx.fDct, Fx.vGet2, Fx.keysF, Fx.kTup, Fx.vGetT2, Fx.vGetT, Fx.sPuT, Fx.sAt2, msk_py, msk_no, msk_pt, List.isPrefixOf, List.cons_prefix_cons, List.nil_prefix, ofString_inj, e2, m1, g1, g2, ll, hL, noList, noLists]
        | none =>
          have m2 := m2 e2
          cases m2
          simp [runF, Fx.Hd.own, Fx.TL.er, Fx.erAll, Fx.TL.get, Fx.TL.put, Fx.gget, Fx.gput, Fx.TL.addrs, Fx.TL.data, Fx.dataAll, Fx.msk, Fx.mulOk, Fx.addF, Fx.subF, Fx.mulF, Fx.fdivF, Fx.modF, Fx.powF, Fx.ltF, Fx.leF, Fx.gtF, Fx.geF, Fx.eqD, Fx.eqF, Fx.neF, Fx.isF, Fx.isntF, Fx.idxF, Fx.lenF, Fx.kindF, Fx.kitF, Fx.keyF, Fx.ixS, Fx.ixK, Fx.vVar, Fx.vC, Fx.vAt, Fx.dat, Fx.vD, Fx.vS, Fx.vPy, Fx.d2, Fx.dB, Fx.vB, Fx.bV, Fx.child, Fx.kidAt, Fx.vIdx, Fx.vGet, Fx.vFld, Fx.vLen, Fx.kindS, Fx.vIsi, Fx.vIsi2, Fx.aNil, Fx.aCons, Fx.vTup, Fx.nLst, Fx.vFz, Fx.bAnd, Fx.bOr, Fx.bNot, Fx.vIf, Fx.oNo, Fx.oI, Fx.cutF, Fx.vSlc, Fx.nSlc, Fx.negF, Fx.dNeg, Fx.rLenN, Fx.rIsiN, Fx.rIsiN2, Fx.nDct0, Fx.nDdt0, Fx.lendF, Fx.backF, Fx.headLt, Fx.voidF, Fx.tidy, Fx.callF, Fx.makeF, Fx.fP, Fx.fN, Fx.fB, Fx.rootF, Fx.dropLastF, Fx.fZ, Fx.push, Fx.gNo, Fx.gCo, Fx.fCall, Fx.fMake, Fx.fMeth, Fx.fBin2, Fx.fCmp2, Fx.fAnd, Fx.fOr, Fx.fNot, Fx.fBo, Fx.fMv, Fx.fOn, Fx.sNx, Fx.sBk, Fx.sCt, Fx.sRN, Fx.sSq, Fx.sDr, Fx.sRt, Fx.sIf, Fx.gN, Fx.gT0, Fx.gTC, Fx.gTu, Fx.takeRoot, Fx.sAs, Fx.sAt, Fx.childF, Fx.kidF, Fx.belowF, Fx.putAt, Fx.sFl, Fx.sPu, Fx.sSL, Fx.topPt, Fx.popTm, Fx.pushPt, Fx.sAp, Fx.sEx, Fx.fPop, Fx.sDe, Fx.pyAll, Fx.sEt, Fx.sFo, Fx.sFu, Fx.rngF, Fx.sFr, Fx.shiftS, Fx.lentF, Fx.dCall, Fx.nCall, Fx.iL, Fx.iLn, Fx.iT, Fx.iR, Fx.wipeR, Fx.bYes, Fx.nLc, Fx.boolsF, Fx.allF, Fx.d1, Fx.maxF, Fx.intF, Fx.nCopy, Fx.strsF, Fx.joinF, Fx.sRaise, Fx.intsF, Fx.inF, Fx.sAug, Fx.nDcp, Fx.keyD, Fx.iIt, Fx.nLock, Fx.wNo, Fx.wCo, Fx.vCallR, Fx.vMethR, Fx.key1, Fx.isK1, Fx.fSort1, Fx.fTupOf, Fx.aStar, Fx.nDc, Fx.dTup, Fx.dLst, Fx.gathF, Fx.dispF, Fx.allPy, Fx.popN, Fx.fTup, Fx.fLst, Fx.fDct, Fx.vGet2, Fx.keysF, Fx.kTup, Fx.vGetT2, Fx.vGetT, Fx.sPuT, Fx.sAt2, msk_py, msk_no, msk_pt, List.isPrefixOf, List.cons_prefix_cons, List.nil_prefix, ofString_inj, e2, g1, g2, ll, hL, noList, noLists]
      · exact ⟨h.la, h.lm, by omega, by omega, h.am, h.mr⟩
end L


namespace L
open PySem L2 Fx Mo
open Mv (Mark Row LRow Letter)
theorem marked_len : ∀ (ms : List Mark) (c n t : Int), (Mv.marked ms c n t).length ≤ ms.length + 1
  | [], c, n, t => by simp [Mv.marked]
  | m :: r, c, n, t => by
    unfold Mv.marked
    have := marked_len r c n t
    split
    · simp
    · split <;> simp <;> omega
structure LInv (b : Bool) (ks : List Str) (n : Nat) (H : Mv.House Str) (ka : List Key) (ca : List T) (km : List (List Key)) (cm : List T) : Prop where
  st : ∀ k, (H.known k).st = if b then .gone else .here
  wst : ∀ k, (H.written k).st = if b then .gone else .here
  ln : H.laid.length ≤ n
  fn : H.fresh.length ≤ n
  ris : ∀ k, Mv.Rising (H.known k).marks
  ml : ∀ k, (H.known k).marks.length ≤ n
  own : OwnOk n H ka ca km cm
  inl : ∀ l ∈ H.laid, LetKey ks l
  inf : ∀ r ∈ H.fresh, r.k ∈ ks
theorem called_gone (H : Mv.House Str) (c n : Int) (k : Str) (w : Mv.Wish) (h : (H.known k).st ≠ .here) : H.called c n k w = H := by unfold Mv.House.called; rw [if_neg h]
theorem LInv.called {b : Bool} {ks : List Str} {n : Nat} {H : Mv.House Str} {ka ka' : List Key} {ca ca' : List T} {km km' : List (List Key)} {cm cm' : List T} (I : LInv b ks n H ka ca km cm) (c m : Int) (k : Str) (w : Mv.Wish) (hk : k ∈ ks) (ho : OwnOk (n + 1) (H.called c m k w) ka' ca' km' cm') : LInv b ks (n + 1) (H.called c m k w) ka' ca' km' cm' := by
  have h1 := I.ln
  have h2 := I.fn
  have hs : ∀ (j : Str) (a : Int) (ms : List Mark), (Mv.setK H.known k { H.known k with amount := a, marks := ms } j).st = if b then .gone else .here := fun j a ms => by
    unfold Mv.setK
    split
    · exact I.st k
    · exact I.st j
  unfold Mv.House.called at ho ⊢
  split at ho <;> rename_i g0
  · rw [if_pos g0]
    split at ho <;> rename_i g1
    · rw [if_pos g1]
      exact ⟨I.st, I.wst, by omega, by omega, I.ris, fun j => by have := I.ml j; omega, ho, I.inl, I.inf⟩
    · rw [if_neg g1]
      split at ho <;> rename_i g2
      · rw [if_pos g2]
        refine ⟨fun j => hs j _ _, I.wst, by simp; omega, by simp; omega, fun j => ?_, fun j => ?_, ho, fun l hl => ?_, fun r hr => ?_⟩
        · simp only [Mv.setK]
          split
          · exact (I.ris k).marked
          · exact I.ris j
        · have := I.ml j
          have := I.ml k
          have := marked_len (H.known k).marks c m (w.done (H.known k).amount).2
          simp only [Mv.setK]
          split
          · show (Mv.marked _ _ _ _).length ≤ _
            omega
          · omega
        · rcases List.mem_append.mp hl with hl | hl
          · exact I.inl l hl
          · rw [List.mem_singleton.mp hl]; trivial
        · rcases List.mem_append.mp hr with hr | hr
          · exact I.inf r hr
          · rw [List.mem_singleton.mp hr]; exact hk
      · rw [if_neg g2]
        refine ⟨I.st, I.wst, by simp; omega, by simp; omega, I.ris, fun j => Nat.le_trans (I.ml j) (by omega), ho, fun l hl => ?_, I.inf⟩
        rcases List.mem_append.mp hl with hl | hl
        · exact I.inl l hl
        · rw [List.mem_singleton.mp hl]; trivial
  · rw [if_neg g0]
    exact ⟨I.st, I.wst, by omega, by omega, I.ris, fun j => by have := I.ml j; omega, ho, I.inl, I.inf⟩
theorem OwnOk.up {n m : Nat} {H : Mv.House Str} {ka : List Key} {ca : List T} {km : List (List Key)} {cm : List T} (h : OwnOk n H ka ca km cm) (hm : n ≤ m) : OwnOk m H ka ca km cm :=
  ⟨h.la, h.lm, Nat.le_trans h.na hm, Nat.le_trans h.nm hm, h.am, h.mr⟩
def lastT (ls : List Int) : T := .nd () .lst (ls.map fun i => .py (.int i))
/-- where the law's loop stands -/
def lawSt (sc : PyData) (b : Bool) (ks : List Str) (H : Mv.House Str) (ka : List Key) (ca : List T) (km : List (List Key)) (cm : List T) (ls : List Int) (c6 c7 c8 c9 c10 c11 : Option Sv) (tm : List (Option Sv)) : Rh :=
  ⟨[some (.py sc), some (.py (.int (hI b))), some (.py (.list (ks.map .str))), some (.pt [3]), some (.pt [4]), some (.pt [5]), c6, c7, c8, c9, c10, c11, none], tm,
   [.un (), .un (), .un (), houseT (hI b) ks H, ownT ka ca km cm H, lastT ls, .un (), .un (), .un (), .un (), .un (), .un (), .un ()], 13⟩
theorem hI_f : hI false = 0 := rfl
theorem hI_t : hI true = 1 := rfl
theorem eight (x : Int) (y : Int) : ∃ w : Int, atI [PyData.int 1, .int 1, .int 1, .int 0, .int 0, .int (-1), .int (2 + x), .int 1] (y % 8) = some (.int w) := by
  have : y % 8 = 0 ∨ y % 8 = 1 ∨ y % 8 = 2 ∨ y % 8 = 3 ∨ y % 8 = 4 ∨ y % 8 = 5 ∨ y % 8 = 6 ∨ y % 8 = 7 := by omega
  rcases this with h | h | h | h | h | h | h | h <;> rw [h] <;> exact ⟨_, rfl⟩
theorem turn4 (sc : PyData) (b : Bool) (ks : List Str) (n : Nat) (H : Mv.House Str) (ka : List Key) (ca : List T) (km : List (List Key)) (cm : List T) (ls : List Int) (z : Int) (c7 c8 c9 c10 c11 : Option Sv)
   (n10 : ∀ bad, msk1 bad c10 = c10) (n11 : ∀ bad, msk1 bad c11 = c11) (I : LInv b ks n H ka ca km cm) (hn : ks.Nodup) (hk0 : 0 < ks.length) (hk6 : ks.length ≤ 6) (hls : ls.length = 6) (hn63 : n ≤ 63) :
   ∃ a7 a8 a9 a10 a11 H' ka' ca' km' cm' ls', h_law_1 (lawSt sc b ks H ka ca km cm ls (some (.py (.int z))) c7 c8 c9 c10 c11 []) = some (.nx (lawSt sc b ks H' ka' ca' km' cm' ls' (some (.py (.int z))) (some (.py a7)) (some (.py a8)) (some (.py a9)) (some (.py a10)) (some (.py a11)) [])) ∧ LInv b ks (n + 1) H' ka' ca' km' cm' ∧ ls'.length = 6 := by
  have z0 : 0 ≤ z % 6 := Int.emod_nonneg _ (by decide)
  have z1 : z % 6 < 6 := Int.emod_lt_of_pos _ (by decide)
  obtain ⟨w8, h8⟩ := eight (z / 6 / 8 % 8) (z / 6)
  obtain ⟨p1, p2⟩ := pickKey_ix hk0 (z / 6 / 3)
  have pm := pickKey_mem hk0 (z / 6 / 3)
  have kl : (0 : Int) < ks.length := by omega
  have i6 : ixN 6 (z % 6) = some (z % 6).toNat := ixN_of z0 z1
  have hlt : (z % 6).toNat < ls.length := by omega
  have g6 : (ls.map fun i => (TL.py (.int i) : T))[(z % 6).toNat]? = some (.py (.int ls[(z % 6).toNat])) := by rw [List.getElem?_map, List.getElem?_eq_getElem hlt]; rfl
  have gk : atI (ks.map PyData.str) (z / 6 / 3 % (ks.length : Int)) = some (.str (pickKey ks (z / 6 / 3))) := by
    unfold atI
    rw [List.length_map, p1]
    show (ks.map PyData.str)[(z / 6 / 3 % (ks.length : Int)).toNat]? = _
    rw [List.getElem?_map, p2]; rfl
  have gs : ∀ v : Int, (ls.map fun i => (TL.py (.int i) : T)).set (z % 6).toNat (.py (.int v)) = (ls.set (z % 6).toNat v).map fun i => .py (.int i) := fun v => by rw [List.map_set]
  generalize ls[(z % 6).toNat] = lv at *
  generalize pickKey ks (z / 6 / 3) = k at *
  have ew := wish_ok ((z + 5) * 48271 / 11)
  generalize wishOf ((z + 5) * 48271 / 11) = w at *
  have m1 : mulOk (z + 5) 48271 = true := mulOk_r (by decide)
  have nw := noList_wish w
  generalize hcount : (if lv + w8 > 1 then lv + w8 else 1) = count at *
  have hc1 : 1 ≤ count := by rw [← hcount]; split <;> omega
  have h1 := I.ln
  have h2 := I.fn
  have ec := came_ok b ks H (.call b (z % 6) count k w) ⟨hn, by omega, by omega, by omega⟩ ⟨pm, I.ris k, by have := I.ml k; omega, hc1⟩
  simp only [let_call, brought] at ec
  cases b with
  | false =>
    have hs : (H.known k).st = .here := I.st k
    obtain ⟨ka', ca', km', cm', eo, ho⟩ := lcame_ok n H ka ca km cm (z % 6) count k w I.own hs (by omega) (by omega) (by omega)
    refine ⟨.int (z % 6), .int (z / 6), .int count, .str k, wishD w, H.called (z % 6) count k w, ka', ca', km', cm', ls.set (z % 6).toNat (if count > lv then count else lv), ?_, I.called _ _ _ _ pm ho, by simpa using hls⟩
    unfold h_law_1 lawSt
    unfold houseT lastT ownT at *
    simp only [hI_f] at ec ⊢
    simp (maxSteps := 2000000) [Fx.Hd.own, Fx.TL.er, Fx.erAll, Fx.TL.get, Fx.TL.put, Fx.gget, Fx.gput, Fx.TL.addrs, Fx.TL.data, Fx.dataAll, Fx.msk, Fx.addF, Fx.subF, Fx.mulF, Fx.fdivF, Fx.modF, Fx.powF, Fx.ltF, Fx.leF, Fx.gtF, Fx.geF, Fx.eqD, Fx.eqF, Fx.neF, Fx.isF, Fx.isntF, Fx.lenF, Fx.kindF, Fx.kitF, Fx.keyF, Fx.ixS, Fx.ixK, Fx.vVar, Fx.vC, Fx.vAt, Fx.dat, Fx.vD, Fx.vS, Fx.vPy, Fx.d2, Fx.dB, Fx.vB, Fx.bV, Fx.child, Fx.kidAt, Fx.vIdx, Fx.vGet, Fx.vFld, Fx.vLen, Fx.kindS, Fx.vIsi, Fx.vIsi2, Fx.aNil, Fx.aCons, Fx.vTup, Fx.nLst, Fx.vFz, Fx.bAnd, Fx.bOr, Fx.bNot, Fx.vIf, Fx.oNo, Fx.oI, Fx.cutF, Fx.vSlc, Fx.nSlc, Fx.negF, Fx.dNeg, Fx.rLenN, Fx.rIsiN, Fx.rIsiN2, Fx.nDct0, Fx.nDdt0, Fx.lendF, Fx.backF, Fx.headLt, Fx.voidF, Fx.tidy, Fx.callF, Fx.makeF, Fx.fP, Fx.fN, Fx.fB, Fx.rootF, Fx.dropLastF, Fx.fZ, Fx.push, Fx.gNo, Fx.gCo, Fx.fCall, Fx.fMake, Fx.fMeth, Fx.fBin2, Fx.fCmp2, Fx.fAnd, Fx.fOr, Fx.fNot, Fx.fBo, Fx.fMv, Fx.fOn, Fx.sNx, Fx.sBk, Fx.sCt, Fx.sRN, Fx.sSq, Fx.sDr, Fx.sRt, Fx.sIf, Fx.gN, Fx.gT0, Fx.gTC, Fx.gTu, Fx.takeRoot, Fx.sAs, Fx.sAt, Fx.childF, Fx.kidF, Fx.belowF, Fx.putAt, Fx.sFl, Fx.sPu, Fx.sSL, Fx.topPt, Fx.popTm, Fx.pushPt, Fx.sAp, Fx.sEx, Fx.fPop, Fx.sDe, Fx.pyAll, Fx.sEt, Fx.sFo, Fx.sFu, Fx.rngF, Fx.sFr, Fx.shiftS, Fx.lentF, Fx.dCall, Fx.nCall, Fx.iL, Fx.iLn, Fx.iT, Fx.iR, Fx.wipeR, Fx.bYes, Fx.nLc, Fx.boolsF, Fx.allF, Fx.d1, Fx.intF, Fx.nCopy, Fx.strsF, Fx.joinF, Fx.sRaise, Fx.intsF, Fx.inF, Fx.sAug, Fx.nDcp, Fx.keyD, Fx.iIt, Fx.nLock, Fx.wNo, Fx.wCo, Fx.vCallR, Fx.vMethR, Fx.key1, Fx.isK1, Fx.fSort1, Fx.fTupOf, Fx.aStar, Fx.nDc, Fx.dTup, Fx.dLst, Fx.gathF, Fx.dispF, Fx.allPy, Fx.popN, Fx.fTup, Fx.fLst, Fx.fDct, Fx.vGet2, Fx.keysF, Fx.kTup, Fx.vGetT2, Fx.vGetT, Fx.sPuT, Fx.sAt2, msk_py, msk_no, msk_pt, List.isPrefixOf, List.cons_prefix_cons, List.nil_prefix, maxF, idx_lst, hcount, i6, hls, g6, h8, p1, gk, kl, hk0, m1, ew, nw, ec, eo, n10, n11, noList, noLists, ofString_inj]
  | true =>
    have hs : (H.known k).st ≠ .here := by rw [I.st k]; decide
    have eg := called_gone H (z % 6) count k w hs
    have ho := I.called (ka' := ka) (ca' := ca) (km' := km) (cm' := cm) (z % 6) count k w pm (by rw [eg]; exact I.own.up (by omega))
    rw [eg] at ec ho
    refine ⟨.int (z % 6), .int (z / 6), .int count, .str k, wishD w, H, ka, ca, km, cm, ls.set (z % 6).toNat (if count > lv then count else lv), ?_, ho, by simpa using hls⟩
    unfold h_law_1 lawSt
    unfold houseT lastT ownT at *
    simp only [hI_t] at ec ⊢
    simp (maxSteps := 2000000) [Fx.Hd.own, Fx.TL.er, Fx.erAll, Fx.TL.get, Fx.TL.put, Fx.gget, Fx.gput, Fx.TL.addrs, Fx.TL.data, Fx.dataAll, Fx.msk, Fx.addF, Fx.subF, Fx.mulF, Fx.fdivF, Fx.modF, Fx.powF, Fx.ltF, Fx.leF, Fx.gtF, Fx.geF, Fx.eqD, Fx.eqF, Fx.neF, Fx.isF, Fx.isntF, Fx.lenF, Fx.kindF, Fx.kitF, Fx.keyF, Fx.ixS, Fx.ixK, Fx.vVar, Fx.vC, Fx.vAt, Fx.dat, Fx.vD, Fx.vS, Fx.vPy, Fx.d2, Fx.dB, Fx.vB, Fx.bV, Fx.child, Fx.kidAt, Fx.vIdx, Fx.vGet, Fx.vFld, Fx.vLen, Fx.kindS, Fx.vIsi, Fx.vIsi2, Fx.aNil, Fx.aCons, Fx.vTup, Fx.nLst, Fx.vFz, Fx.bAnd, Fx.bOr, Fx.bNot, Fx.vIf, Fx.oNo, Fx.oI, Fx.cutF, Fx.vSlc, Fx.nSlc, Fx.negF, Fx.dNeg, Fx.rLenN, Fx.rIsiN, Fx.rIsiN2, Fx.nDct0, Fx.nDdt0, Fx.lendF, Fx.backF, Fx.headLt, Fx.voidF, Fx.tidy, Fx.callF, Fx.makeF, Fx.fP, Fx.fN, Fx.fB, Fx.rootF, Fx.dropLastF, Fx.fZ, Fx.push, Fx.gNo, Fx.gCo, Fx.fCall, Fx.fMake, Fx.fMeth, Fx.fBin2, Fx.fCmp2, Fx.fAnd, Fx.fOr, Fx.fNot, Fx.fBo, Fx.fMv, Fx.fOn, Fx.sNx, Fx.sBk, Fx.sCt, Fx.sRN, Fx.sSq, Fx.sDr, Fx.sRt, Fx.sIf, Fx.gN, Fx.gT0, Fx.gTC, Fx.gTu, Fx.takeRoot, Fx.sAs, Fx.sAt, Fx.childF, Fx.kidF, Fx.belowF, Fx.putAt, Fx.sFl, Fx.sPu, Fx.sSL, Fx.topPt, Fx.popTm, Fx.pushPt, Fx.sAp, Fx.sEx, Fx.fPop, Fx.sDe, Fx.pyAll, Fx.sEt, Fx.sFo, Fx.sFu, Fx.rngF, Fx.sFr, Fx.shiftS, Fx.lentF, Fx.dCall, Fx.nCall, Fx.iL, Fx.iLn, Fx.iT, Fx.iR, Fx.wipeR, Fx.bYes, Fx.nLc, Fx.boolsF, Fx.allF, Fx.d1, Fx.intF, Fx.nCopy, Fx.strsF, Fx.joinF, Fx.sRaise, Fx.intsF, Fx.inF, Fx.sAug, Fx.nDcp, Fx.keyD, Fx.iIt, Fx.nLock, Fx.wNo, Fx.wCo, Fx.vCallR, Fx.vMethR, Fx.key1, Fx.isK1, Fx.fSort1, Fx.fTupOf, Fx.aStar, Fx.nDc, Fx.dTup, Fx.dLst, Fx.gathF, Fx.dispF, Fx.allPy, Fx.popN, Fx.fTup, Fx.fLst, Fx.fDct, Fx.vGet2, Fx.keysF, Fx.kTup, Fx.vGetT2, Fx.vGetT, Fx.sPuT, Fx.sAt2, msk_py, msk_no, msk_pt, List.isPrefixOf, List.cons_prefix_cons, List.nil_prefix, maxF, idx_lst, hcount, i6, hls, g6, h8, p1, gk, kl, hk0, m1, ew, nw, ec, n10, n11, noList, noLists, ofString_inj]
end L


namespace L
open PySem L2 Fx Mo
open Mv (Mark Row LRow Letter)
structure KsOk (ks : List Str) : Prop where
  nd : ks.Nodup
  pos : 0 < ks.length
  six : ks.length ≤ 6
  len : ∀ k ∈ ks, k.length ≤ 8
def Inv4 (sc : PyData) (b : Bool) (ks : List Str) (m : Nat) (ρ : Rh) : Prop := ∃ (n : Nat) (H : Mv.House Str) (ka : List Key) (ca : List T) (km : List (List Key)) (cm : List T) (ls : List Int) (c6 c7 c8 c9 c10 c11 : Option Sv), ρ = lawSt sc b ks H ka ca km cm ls c6 c7 c8 c9 c10 c11 [] ∧ LInv b ks n H ka ca km cm ∧ ls.length = 6 ∧ n + m ≤ 63 ∧
  (∀ bad, msk1 bad c6 = c6) ∧ (∀ bad, msk1 bad c7 = c7) ∧ (∀ bad, msk1 bad c8 = c8) ∧ (∀ bad, msk1 bad c9 = c9) ∧ (∀ bad, msk1 bad c10 = c10) ∧ (∀ bad, msk1 bad c11 = c11)
theorem loop4 {sc : PyData} {b : Bool} {ks : List Str} (S : KsOk ks) : ∀ (zs : List Int) {ρ : Rh}, Inv4 sc b ks zs.length ρ → ∃ ρ', loopD (gN 6) h_law_1 (zs.map .int) ρ = some (.nx ρ') ∧ Inv4 sc b ks 0 ρ'
  | [], ρ, h => ⟨ρ, rfl, h⟩
  | z :: zs, ρ, h => by
    obtain ⟨n, H, ka, ca, km, cm, ls, c6, c7, c8, c9, c10, c11, rfl, I, hl, hn, n6, n7, n8, n9, n10, n11⟩ := h
    simp only [List.length_cons] at hn
    obtain ⟨a7, a8, a9, a10, a11, H', ka', ca', km', cm', ls', e, I', hl'⟩ := turn4 sc b ks n H ka ca km cm ls z c7 c8 c9 c10 c11 n10 n11 I S.nd S.pos S.six hl (by omega)
    obtain ⟨ρ', e3, h3⟩ := loop4 S zs (ρ := lawSt sc b ks H' ka' ca' km' cm' ls' (some (.py (.int z))) (some (.py a7)) (some (.py a8)) (some (.py a9)) (some (.py a10)) (some (.py a11)) []) ⟨n + 1, H', ka', ca', km', cm', ls', _, _, _, _, _, _, rfl, I', hl', by omega, fun _ => rfl, fun _ => rfl, fun _ => rfl, fun _ => rfl, fun _ => rfl, fun _ => rfl⟩
    have e6 : gN 6 (.py (.int z)) (lawSt sc b ks H ka ca km cm ls c6 c7 c8 c9 c10 c11 []) = some (lawSt sc b ks H ka ca km cm ls (some (.py (.int z))) c7 c8 c9 c10 c11 []) := rfl
    exact ⟨ρ', by simp [loopD, e6, e, e3], h3⟩
/-! the keys that are here -/
def keySt (sc : PyData) (b : Bool) (ks : List Str) (H : Mv.House Str) (ka : List Key) (ca : List T) (km : List (List Key)) (cm : List T) (ls : List Int) (c6 c7 c8 c9 c10 c11 c12 : Option Sv) (tm : List (Option Sv)) : Rh :=
  ⟨[some (.py sc), some (.py (.int (hI b))), some (.py (.list (ks.map .str))), some (.pt [3]), some (.pt [4]), some (.pt [5]), c6, c7, c8, c9, c10, c11, c12], tm,
   [.un (), .un (), .un (), houseT (hI b) ks H, ownT ka ca km cm H, lastT ls, .un (), .un (), .un (), .un (), .un (), .un (), .un ()], 13⟩
theorem key_turn (sc : PyData) (b : Bool) (ks : List Str) (H : Mv.House Str) (ka : List Key) (ca : List T) (km : List (List Key)) (cm : List T) (ls : List Int) (c6 c7 c8 c9 c11 c12 : Option Sv) (tm : List (Option Sv)) (k : Str) (hk : k ∈ ks) (hs : (H.known k).st = if b then .gone else .here) :
   h_law_2 (keySt sc b ks H ka ca km cm ls c6 c7 c8 c9 (some (.py (.str k))) c11 c12 tm) = some (.nx (keySt sc b ks H ka ca km cm ls c6 c7 c8 c9 (some (.py (.str k))) c11 (some (.py (.bool (!b)))) tm)) := by
  have e := has_ok [.un (), .un (), .un (), houseT (hI b) ks H, ownT ka ca km cm H, lastT ls, .un (), .un (), .un (), .un (), .un (), .un (), .un ()] 3 [] (hI b) ks H k rfl hk
  rw [hs] at e
  unfold h_law_2 keySt
  unfold houseT ownT lastT at *
  cases b <;> simp [Fx.Hd.own, Fx.TL.er, Fx.erAll, Fx.TL.get, Fx.TL.put, Fx.gget, Fx.gput, Fx.TL.addrs, Fx.TL.data, Fx.dataAll, Fx.msk, Fx.mulOk, Fx.addF, Fx.subF, Fx.mulF, Fx.fdivF, Fx.modF, Fx.powF, Fx.ltF, Fx.leF, Fx.gtF, Fx.geF, Fx.eqD, Fx.eqF, Fx.neF, Fx.isF, Fx.isntF, Fx.idxF, Fx.lenF, Fx.kindF, Fx.kitF, Fx.keyF, Fx.ixS, Fx.ixK, Fx.vVar, Fx.vC, Fx.vAt, Fx.dat, Fx.vD, Fx.vS, Fx.vPy, Fx.d2, Fx.dB, Fx.vB, Fx.bV, Fx.child, Fx.kidAt, Fx.vIdx, Fx.vGet, Fx.vFld, Fx.vLen, Fx.kindS, Fx.vIsi, Fx.vIsi2, Fx.aNil, Fx.aCons, Fx.vTup, Fx.nLst, Fx.vFz, Fx.bAnd, Fx.bOr, Fx.bNot, Fx.vIf, Fx.oNo, Fx.oI, Fx.cutF, Fx.vSlc, Fx.nSlc, Fx.negF, Fx.dNeg, Fx.rLenN, Fx.rIsiN, Fx.rIsiN2, Fx.nDct0, Fx.nDdt0, Fx.lendF, Fx.backF, Fx.headLt, Fx.voidF, Fx.tidy, Fx.callF, Fx.makeF, Fx.fP, Fx.fN, Fx.fB, Fx.rootF, Fx.dropLastF, Fx.fZ, Fx.push, Fx.gNo, Fx.gCo, Fx.fCall, Fx.fMake, Fx.fMeth, Fx.fBin2, Fx.fCmp2, Fx.fAnd, Fx.fOr, Fx.fNot, Fx.fBo, Fx.fMv, Fx.fOn, Fx.sNx, Fx.sBk, Fx.sCt, Fx.sRN, Fx.sSq, Fx.sDr, Fx.sRt, Fx.sIf, Fx.gN, Fx.gT0, Fx.gTC, Fx.gTu, Fx.takeRoot, Fx.sAs, Fx.sAt, Fx.childF, Fx.kidF, Fx.belowF, Fx.putAt, Fx.sFl, Fx.sPu, Fx.sSL, Fx.topPt, Fx.popTm, Fx.pushPt, Fx.sAp, Fx.sEx, Fx.fPop, Fx.sDe, Fx.pyAll, Fx.sEt, Fx.sFo, Fx.sFu, Fx.rngF, Fx.sFr, Fx.shiftS, Fx.lentF, Fx.dCall, Fx.nCall, Fx.iL, Fx.iLn, Fx.iT, Fx.iR, Fx.wipeR, Fx.bYes, Fx.nLc, Fx.boolsF, Fx.allF, Fx.d1, Fx.maxF, Fx.intF, Fx.nCopy, Fx.strsF, Fx.joinF, Fx.sRaise, Fx.intsF, Fx.inF, Fx.sAug, Fx.nDcp, Fx.keyD, Fx.iIt, Fx.nLock, Fx.wNo, Fx.wCo, Fx.vCallR, Fx.vMethR, Fx.key1, Fx.isK1, Fx.fSort1, Fx.fTupOf, Fx.aStar, Fx.nDc, Fx.dTup, Fx.dLst, Fx.gathF, Fx.dispF, Fx.allPy, Fx.popN, Fx.fTup, Fx.fLst, Fx.fDct, Fx.vGet2, Fx.keysF, Fx.kTup, Fx.vGetT2, Fx.vGetT, Fx.sPuT, Fx.sAt2, msk_py, msk_no, msk_pt, List.isPrefixOf, List.cons_prefix_cons, List.nil_prefix, hI_f, hI_t, e, ofString_inj, noList] at * <;> simp [e]
theorem key_loop (sc : PyData) (b : Bool) (ks : List Str) (H : Mv.House Str) (ka : List Key) (ca : List T) (km : List (List Key)) (cm : List T) (ls : List Int) (c6 c7 c8 c9 c11 : Option Sv) (hs : ∀ k, (H.known k).st = if b then .gone else .here) : ∀ (js : List Str) (c10 c12 : Option Sv), (∀ k ∈ js, k ∈ ks) → (∀ bad, msk1 bad c10 = c10) → (∀ bad, msk1 bad c12 = c12) → ∃ d10 d12, loopD (gN 10) h_law_2 (js.map .str) (keySt sc b ks H ka ca km cm ls c6 c7 c8 c9 c10 c11 c12 []) = some (.nx (keySt sc b ks H ka ca km cm ls c6 c7 c8 c9 d10 c11 d12 [])) ∧ (∀ bad, msk1 bad d10 = d10) ∧ (∀ bad, msk1 bad d12 = d12)
  | [], c10, c12, h, n10, n12 => ⟨c10, c12, rfl, n10, n12⟩
  | k :: js, c10, c12, h, n10, n12 => by
    obtain ⟨d10, d12, e, h10, h12⟩ := key_loop sc b ks H ka ca km cm ls c6 c7 c8 c9 c11 hs js (some (.py (.str k))) (some (.py (.bool (!b)))) (fun j hj => h j (by simp [hj])) (fun _ => rfl) (fun _ => rfl)
    refine ⟨d10, d12, ?_, h10, h12⟩
    have et := key_turn sc b ks H ka ca km cm ls c6 c7 c8 c9 c11 c12 [] k (h k (by simp)) (hs _)
    have e3 : gN 10 (.py (.str k)) (keySt sc b ks H ka ca km cm ls c6 c7 c8 c9 c10 c11 c12 []) = some (keySt sc b ks H ka ca km cm ls c6 c7 c8 c9 (some (.py (.str k))) c11 c12 []) := rfl
    simp only [List.map_cons, loopD, e3, et, e]
end L


namespace L
open PySem L2 Fx Mo
open Mv (Mark Row LRow Letter)
theorem cut_map (ns : List Int) : cutF (ns.map PyData.int) (some 2) none = (ns.drop 2).map .int := by
  rw [cut2, List.map_drop]
theorem shaped_nil : SeqAt.shaped (.list []) = true := by decide
theorem eqv_nil : (PyData.list []).eqv (.list []) = true := by simp [PyData.eqv, PyData.eqvAll]
theorem noLists_lets (ls : List (Letter Str)) : noLists (ls.map letD) = true := noLists_map noList_let ls
theorem noLists_lrs (rs : List (LRow Str)) : noLists (rs.map lrD) = true := noLists_map noList_lr rs
theorem dat_lets (ls : List (Letter Str)) : dataAll (ls.map fun l => (TL.py (letD l) : T)) = some (ls.map letD) := by
  have := Fx.dataAll_py (α := Unit) (β := Unit) (ls.map letD)
  rw [List.map_map] at this
  exact this
theorem dat_lrs (rs : List (LRow Str)) : dataAll (rs.map fun r => (TL.py (lrD r) : T)) = some (rs.map lrD) := by
  have := Fx.dataAll_py (α := Unit) (β := Unit) (rs.map lrD)
  rw [List.map_map] at this
  exact this
theorem alike_wrote {ks : List Str} (hks : ∀ k ∈ ks, k.length ≤ 8) (H : Mv.House Str) (hl : H.laid.length ≤ 100000) (hf : H.fresh.length ≤ 100000) (il : ∀ l ∈ H.laid, LetKey ks l) (ir : ∀ r ∈ H.fresh, r.k ∈ ks) :
   S__law_alike [.py (.tuple [.list (H.laid.map letD), .list (H.fresh.map lrD)]), .py (.tuple [.list (H.laid.map letD), .list (H.fresh.map lrD)])] [] = some (.vl (.s (.py (.bool true))) []) :=
  alike_ok (n := 5) (.tup _ _ (by simp) fun d hd => by
    simp only [List.mem_cons, List.not_mem_nil, or_false] at hd
    rcases hd with rfl | rfl
    · refine .lst _ _ (by simpa using hl) fun d hd => ?_
      obtain ⟨l, h, rfl⟩ := List.mem_map.mp hd
      exact plain_let hks l (il l h)
    · refine .lst _ _ (by simpa using hf) fun d hd => ?_
      obtain ⟨l, h, rfl⟩ := List.mem_map.mp hd
      exact (plain_lr hks l (ir l h)).up (by omega))
theorem alike_nils : S__law_alike [.py (.tuple [.list [], .list []]), .py (.tuple [.list [], .list []])] [] = some (.vl (.s (.py (.bool true))) []) :=
  alike_wrote (ks := []) (fun k h => nomatch h) (Mv.House.new true).wrote (by decide) (by decide) (fun l h => nomatch h) (fun l h => nomatch h)
theorem own_new (b : Bool) : OwnOk 0 (Mv.House.new b) [] [] [] [] := ⟨rfl, rfl, Nat.le_refl _, Nat.le_refl _, fun k => by cases b <;> rfl, fun c k => by cases b <;> rfl⟩
theorem linv_new (b : Bool) (ks : List Str) : LInv b ks 0 (Mv.House.new b) [] [] [] [] where
  st := fun k => by cases b <;> rfl
  wst := fun k => by cases b <;> rfl
  ln := Nat.le_refl _
  fn := Nat.le_refl _
  ris := fun k => by cases b <;> exact List.Pairwise.nil
  ml := fun k => by cases b <;> exact Nat.le_refl _
  own := own_new b
  inl := fun l h => nomatch h
  inf := fun l h => nomatch h
theorem law_true (ns : List Int) (hl : ns.length ≤ 63) (hb : ∀ z ∈ ns, Builtin.Int.intBits z ≤ 1048576) : S_law [.py (.list (ns.map .int))] [] = some (.vl (.s (.py (.bool true))) []) := by
  have c0 : S__law_cell_at [.py (.list (ns.map .int)), .py (.int 0)] [] = some (.vl (.s (.py (.int (cell ns 0)))) []) := cell_at ns 0
  have c1 : S__law_cell_at [.py (.list (ns.map .int)), .py (.int 1)] [] = some (.vl (.s (.py (.int (cell ns 1)))) []) := cell_at ns 1
  have ek := keys_ok (cell ns 1)
  have S : KsOk (keysOf (cell ns 1)) := ⟨keys_nodup _, (keys_lt _).2, (keys_lt _).1, fun k h => (key_len h).2⟩
  generalize keysOf (cell ns 1) = ks at *
  have eb : (if cell ns 0 % 5 = 4 then (1 : Int) else 0) = hI (decide (cell ns 0 % 5 = 4)) := by unfold hI; simp
  generalize decide (cell ns 0 % 5 = 4) = b at *
  have h6 := S.six
  have ei := house_init b ks S.nd (by omega)
  obtain ⟨ρ', e3, n, H, ka, ca, km, cm, ls, c6, c7, c8, c9, c10, c11, rfl, I, -, hn, n6, n7, n8, n9, n10, n11⟩ := loop4 (sc := .list (ns.map .int)) S (ns.drop 2) (ρ := lawSt (.list (ns.map .int)) b ks (Mv.House.new b) [] [] [] [] [0, 0, 0, 0, 0, 0] none none none none none none [])
    ⟨0, _, _, _, _, _, _, _, _, _, _, _, _, rfl, linv_new b ks, rfl, by rw [List.length_drop]; omega, fun _ => rfl, fun _ => rfl, fun _ => rfl, fun _ => rfl, fun _ => rfl, fun _ => rfl⟩
  obtain ⟨d10, d12, e4, -, n12⟩ := key_loop (.list (ns.map .int)) b ks H ka ca km cm ls c6 c7 c8 c9 c11 I.st ks c10 none (fun _ h => h) n10 fun _ => rfl
  have h1 := I.ln
  have h2 := I.fn
  have ew := write_ok (hI b) ks H
  have ew2 := write_ok (hI b) ks H.wrote
  have eo := owes_ok (hI b) ks H.wrote (by omega)
  have en := nudge_ok b ks H.wrote.wrote (by omega)
  have ho : H.wrote.owes ks = [] := List.filter_eq_nil_iff.mpr fun k _ => by
    have := I.st k
    show ¬ decide ((H.known k).st = .owed) = true
    rw [this]; cases b <;> decide
  have hnn : H.wrote.wrote.nudged b ks = [] := by
    unfold Mv.House.nudged
    rw [List.filter_eq_nil_iff.mpr fun k _ => by
      have := I.st k
      show ¬ decide ((H.known k).st = .owed) = true
      rw [this]; cases b <;> decide]
    rfl
  rw [ho] at eo
  rw [hnn] at en
  have ea := alike_wrote S.len H (by omega) (by omega) I.inl I.inf
  have ea2 := alike_nils
  have cm2 := cut_map ns
  have q1 := dat_lets H.laid
  have q2 := dat_lrs H.fresh
  have q3 := noLists_lets H.laid
  have q4 := noLists_lrs H.fresh
  have pk := Fx.pyAll_py (ks.map .str)
  have pk : pyAll (ks.map fun k => (TL.py (.str k) : T)) = some (ks.map .str) := by rw [List.map_map] at pk; exact pk
  have nk : noLists (ks.map PyData.str) = true := noLists_map (fun _ => rfl) ks
  have dk : dataAll (ks.map fun k => (TL.py (.str k) : T)) = some (ks.map .str) := by
    have := Fx.dataAll_py (α := Unit) (β := Unit) (ks.map PyData.str)
    rw [List.map_map] at this
    exact this
  have x0 : ixN 2 0 = some 0 := rfl
  have x1 : ixN 2 1 = some 1 := rfl
  have y1 : H.laid.length < 100000 := by omega
  have y2 : H.fresh.length < 100000 := by omega
  have z1 : H.wrote.laid = [] := rfl
  have z2 : H.wrote.fresh = [] := rfl
  unfold S_law b_law
  generalize h_law_1 = body1 at *
  generalize h_law_2 = body2 at *
  unfold lawSt keySt at *
  unfold lastT ownT ownC houseT wroteT at *
  rw [List.map_drop] at e3 cm2
  have w1 : (Mv.House.new b : Mv.House Str).fresh = [] := rfl
  have w2 : (Mv.House.new b : Mv.House Str).laid = [] := rfl
  simp only [w1, w2, List.map_cons, List.map_nil] at e3
  simp (maxSteps := 2000000) [runF, Fx.Hd.own, Fx.TL.er, Fx.erAll, Fx.TL.get, Fx.TL.put, Fx.gget, Fx.gput, Fx.TL.addrs, Fx.TL.data, Fx.dataAll, Fx.msk, Fx.addF, Fx.subF, Fx.mulF, Fx.fdivF, Fx.modF, Fx.powF, Fx.ltF, Fx.leF, Fx.gtF, Fx.geF, Fx.eqD, Fx.eqF, Fx.neF, Fx.isF, Fx.isntF, Fx.lenF, Fx.kindF, Fx.kitF, Fx.keyF, Fx.ixS, Fx.ixK, Fx.vVar, Fx.vC, Fx.vAt, Fx.dat, Fx.vD, Fx.vS, Fx.vPy, Fx.d2, Fx.dB, Fx.vB, Fx.bV, Fx.child, Fx.kidAt, Fx.vIdx, Fx.vGet, Fx.vFld, Fx.vLen, Fx.kindS, Fx.vIsi, Fx.vIsi2, Fx.aNil, Fx.aCons, Fx.vTup, Fx.nLst, Fx.vFz, Fx.bAnd, Fx.bOr, Fx.bNot, Fx.vIf, Fx.oNo, Fx.oI, Fx.vSlc, Fx.nSlc, Fx.negF, Fx.dNeg, Fx.rLenN, Fx.rIsiN, Fx.rIsiN2, Fx.nDct0, Fx.nDdt0, Fx.lendF, Fx.backF, Fx.headLt, Fx.voidF, Fx.tidy, Fx.callF, Fx.makeF, Fx.fP, Fx.fN, Fx.fB, Fx.rootF, Fx.dropLastF, Fx.fZ, Fx.push, Fx.gNo, Fx.gCo, Fx.fCall, Fx.fMake, Fx.fMeth, Fx.fBin2, Fx.fCmp2, Fx.fAnd, Fx.fOr, Fx.fNot, Fx.fBo, Fx.fMv, Fx.fOn, Fx.sNx, Fx.sBk, Fx.sCt, Fx.sRN, Fx.sSq, Fx.sDr, Fx.sRt, Fx.sIf, Fx.gN, Fx.gT0, Fx.gTC, Fx.gTu, Fx.takeRoot, Fx.sAs, Fx.sAt, Fx.childF, Fx.kidF, Fx.belowF, Fx.putAt, Fx.sFl, Fx.sPu, Fx.sSL, Fx.topPt, Fx.popTm, Fx.pushPt, Fx.sAp, Fx.sEx, Fx.fPop, Fx.sDe, Fx.pyAll, Fx.sEt, Fx.sFo, Fx.sFu, Fx.rngF, Fx.sFr, Fx.shiftS, Fx.lentF, Fx.dCall, Fx.nCall, Fx.iL, Fx.iLn, Fx.iT, Fx.iR, Fx.wipeR, Fx.bYes, Fx.nLc, Fx.boolsF, Fx.allF, Fx.d1, Fx.maxF, Fx.intF, Fx.nCopy, Fx.strsF, Fx.joinF, Fx.sRaise, Fx.intsF, Fx.inF, Fx.sAug, Fx.nDcp, Fx.keyD, Fx.iIt, Fx.nLock, Fx.wNo, Fx.wCo, Fx.vCallR, Fx.vMethR, Fx.key1, Fx.isK1, Fx.fSort1, Fx.fTupOf, Fx.aStar, Fx.nDc, Fx.dTup, Fx.dLst, Fx.gathF, Fx.dispF, Fx.allPy, Fx.popN, Fx.fTup, Fx.fLst, Fx.fDct, Fx.vGet2, Fx.keysF, Fx.kTup, Fx.vGetT2, Fx.vGetT, Fx.sPuT, Fx.sAt2, msk_py, msk_no, msk_pt, List.isPrefixOf, List.cons_prefix_cons, List.nil_prefix, idx_lst, c0, c1, ek, pk, nk, dk, eb, ei, cm2, e3, e4, ew, ew2, eo, en, ea, ea2, q1, q2, q3, q4, x0, x1, y1, y2, z1, z2, shaped_nil, eqv_nil, n6, n7, n8, n9, n10, n11, n12, noList, noLists, ofString_inj]
end L

namespace L
open PySem L2 Fx Mo
/-- what the law is handed: a script; it gives True -/
def spLaw (K : PySem.W.Frag) (t : List (Addr × Str)) : Sp := fun vs H Q _ => ∃ (a : Addr) (ns : List Int), vs = [.ref a] ∧ (∀ p ∈ t, H p.1 = some (.tbl #[])) ∧ SqL K H a (ns.map V.int) ∧ ns.length ≤ 63 ∧ (∀ z ∈ ns, Builtin.Int.intBits z ≤ 1048576) ∧ ∀ H', Q (.bl true) H'

theorem law_ok {P : Program} {w : World} {K : PySem.W.Frag} {mg : Str → Option Value} {A : Adr} {base : Heap} (T : Txt K mg A) (TB : LamX.TabB base mg A.lc A.lP) : FnOk P w K mg base (L2N.CX P w) 7 A.f_law A.d_law ["_law_script"] (spLaw K A.tabs) :=
  (ok_all T TB).imp fun vs H Q E ⟨a, ns, e, ht, hS, hl, hb, hq⟩ => law_in ⟨A.cl, A.tabs⟩ e ht hS (law_true ns hl hb) hq
theorem walk {l : PySem.W.OpenLaw} {q : Program} {loose : List Str} {XP : (Str → Option Value) → Heap → Prop} {YP : World → Heap → Prop} {d : DefRec} {K : Params → PySem.W.Frag} (hn : l.most = some 63) (hdf : d.params.defaults = [])
    (hY : ∀ (w : World) (h : Heap), YP w h → (K w.params).In h)
    (F : ∀ (w : World) (mg : Str → Option Value) (fa : Addr) (h : Heap), YP w h → (K w.params).In h → h.Ns mainGlobals mg → mg d.name = some (.ref fa) →
      ∃ A : Adr, Txt (K w.params) mg A ∧ fa = A.f_law ∧ (∀ (s : Shared) (v : Value), BindsTo s A.d_law ⟨[v], []⟩ [("_law_script", v)]) ∧ (K w.params).lookup A.lP = none ∧ PySem.W.codeHdIn (K w.params) A.lc A.lP = true ∧ h.get? A.lP = some (PySem.W.tabObj #[])) :
    PySem.W.WalkO q loose XP YP l.row.toRowW d [] (fun f vs => PySem.call f vs) := by
  refine LamX.walk_ofTs (n := 63) (k := 7) (x := "_law_script") (CX := fun w => L2N.CX l.prog w) hn (by decide) hdf ⟨rfl, by decide, by decide⟩ hY (fun w mg fa h Y KX G hmg => ?_) (fun _ _ _ _ _ ⟨_, _, _, _, _, _, _, _, _, _, _, _, z⟩ => z)
  obtain ⟨A, T, rfl, hb, tN, tH, tP⟩ := F w mg fa h Y KX G hmg
  refine ⟨A.d_law, [(A.lc, A.lP)], spLaw _ A.tabs, fun p hp => ?_, fun p hp => ?_, fun p hp => ?_, hb, fun H a ns hl hbits hT hS => ⟨a, ns, rfl, fun p hp => ?_, hS, hl, hbits, fun _ => rfl⟩, fun base _ _ hTB => law_ok T (hTB (A.lc, A.lP) (by simp))⟩
  · simp at hp; subst hp; exact tP
  · simp at hp; subst hp; exact tN
  · simp at hp; subst hp; exact PySem.W.codeHd_of_K KX tH
  · have hp : p ∈ [(A.lP, _)] := hp
    simp at hp; subst hp; exact hT (A.lc, A.lP) (by simp)
end L
open PySem PySem.W PyProof.Rows
theorem PySem.Challenge.cw_movehouse_k04_calls_at_a_house_holds : PySem.Challenge.rw_movehouse_k04_calls_at_a_house.Holds := by
  w_on; o_law; k_head; (case hw => w_witness2)
  k_fill
  refine L.walk (l := PySem.Challenge.rw_movehouse_k04_calls_at_a_house) rfl rfl (fun w h Y => PySem.W.km_in_of Y) ?F
  case F =>
    intro w mg fa h Y KX G hmg
    refine' L.all_mk (w := w) KX G hmg ?n_House ?a1 ?l1 ?c1 ?k1 ?a2 ?l2 ?c2 ?k2 ?a3 ?l3 ?c3 ?k3 ?a4 ?l4 ?c4 ?k4 ?a5 ?i5 ?l5 ?c5 ?k5 ?a6 ?i6 ?l6 ?c6 ?k6 ?a7 ?i7 ?l7 ?c7 ?k7 ?a8 ?i8 ?l8 ?c8 ?k8 ?a9 ?i9 ?l9 ?c9 ?k9 ?a10 ?i10 ?l10 ?c10 ?k10 ?a11 ?i11 ?l11 ?c11 ?k11 ?a12 ?i12 ?l12 ?c12 ?k12 ?a13 ?i13 ?l13 ?c13 ?k13 ?a14 ?i14 ?l14 ?c14 ?k14 ?a15 ?i15 ?l15 ?c15 ?k15 ?a16 ?i16 ?l16 ?c16 ?k16 ?a17 ?l17 ?c17 ?k17 ?a18 ?l18 ?c18 ?k18 ?a19 ?l19 ?c19 ?k19 ?a20 ?l20 ?c20 ?k20 ?a21 ?l21 ?c21 ?k21 ?a22 ?l22 ?c22 ?k22 ?a23 ?l23 ?c23 ?k23 ?pg_House ?hd_House ?po_House ?sa_House ?mk_House ?kc_House ?f_House_number ?f_House_known ?f_House_written ?f_House_laid_out ?f_House_new_rows ?z_all ?z_bool ?z_dict ?z_int ?z_isinstance ?z_len ?z_list ?z_max ?z_range ?z_sorted ?z_str ?z_tuple ?y_HERE ?y_OWED ?y_GONE ?tP ?tN ?tH
    (case n_House => k_is)
    (case a1 => k_is)
    (case l1 => k_is)
    (case c1 => k_is)
    (case k1 => k_is)
    (case a2 => k_is)
    (case l2 => k_is)
    (case c2 => k_is)
    (case k2 => k_is)
    (case a3 => k_is)
    (case l3 => k_is)
    (case c3 => k_is)
    (case k3 => k_is)
    (case a4 => k_is)
    (case l4 => k_is)
    (case c4 => k_is)
    (case k4 => k_is)
    (case a5 => k_is)
    (case i5 => k_is)
    (case l5 => k_is)
    (case c5 => k_is)
    (case k5 => k_is)
    (case a6 => k_is)
    (case i6 => k_is)
    (case l6 => k_is)
    (case c6 => k_is)
    (case k6 => k_is)
    (case a7 => k_is)
    (case i7 => k_is)
    (case l7 => k_is)
    (case c7 => k_is)
    (case k7 => k_is)
    (case a8 => k_is)
    (case i8 => k_is)
    (case l8 => k_is)
    (case c8 => k_is)
    (case k8 => k_is)
    (case a9 => k_is)
    (case i9 => k_is)
    (case l9 => k_is)
    (case c9 => k_is)
    (case k9 => k_is)
    (case a10 => k_is)
    (case i10 => k_is)
    (case l10 => k_is)
    (case c10 => k_is)
    (case k10 => k_is)
    (case a11 => k_is)
    (case i11 => k_is)
    (case l11 => k_is)
    (case c11 => k_is)
    (case k11 => k_is)
    (case a12 => k_is)
    (case i12 => k_is)
    (case l12 => k_is)
    (case c12 => k_is)
    (case k12 => k_is)
    (case a13 => k_is)
    (case i13 => k_is)
    (case l13 => k_is)
    (case c13 => k_is)
    (case k13 => k_is)
    (case a14 => k_is)
    (case i14 => k_is)
    (case l14 => k_is)
    (case c14 => k_is)
    (case k14 => k_is)
    (case a15 => k_is)
    (case i15 => k_is)
    (case l15 => k_is)
    (case c15 => k_is)
    (case k15 => k_is)
    (case a16 => k_is)
    (case i16 => k_is)
    (case l16 => k_is)
    (case c16 => k_is)
    (case k16 => k_is)
    (case a17 => k_is)
    (case l17 => k_is)
    (case c17 => k_is)
    (case k17 => k_is)
    (case a18 => k_is)
    (case l18 => k_is)
    (case c18 => k_is)
    (case k18 => k_is)
    (case a19 => k_is)
    (case l19 => k_is)
    (case c19 => k_is)
    (case k19 => k_is)
    (case a20 => k_is)
    (case l20 => k_is)
    (case c20 => k_is)
    (case k20 => k_is)
    (case a21 => k_is)
    (case l21 => k_is)
    (case c21 => k_is)
    (case k21 => k_is)
    (case a22 => k_is)
    (case l22 => k_is)
    (case c22 => k_is)
    (case k22 => k_is)
    (case a23 => k_is)
    (case l23 => k_is)
    (case c23 => k_is)
    (case k23 => k_is)
    (case pg_House => k_is)
    (case hd_House => k_is)
    (case po_House => k_is)
    (case sa_House => k_is)
    (case mk_House => k_is)
    (case kc_House => k_is)
    (case f_House_number => k_is)
    (case f_House_known => k_is)
    (case f_House_written => k_is)
    (case f_House_laid_out => k_is)
    (case f_House_new_rows => k_is)
    (case z_all => k_is)
    (case z_bool => k_is)
    (case z_dict => k_is)
    (case z_int => k_is)
    (case z_isinstance => k_is)
    (case z_len => k_is)
    (case z_list => k_is)
    (case z_max => k_is)
    (case z_range => k_is)
    (case z_sorted => k_is)
    (case z_str => k_is)
    (case z_tuple => k_is)
    (case y_HERE => k_is)
    (case y_OWED => k_is)
    (case y_GONE => k_is)
    (case tP => (exact PySem.W.km_tabs_of Y _ (List.Mem.head _)))
    (case tN => kernel_rfl)
    (case tH => kernel_rfl)

#print axioms PySem.Challenge.cw_movehouse_k04_calls_at_a_house_holds
