import PyProof.Rows.All
import Wide.All
import OpenK.AllK
import Wide.FinOn
import KE.Datum
import HandS.ForMost
import HandS.Exc
import HandS.TryOnly
import HandS.ExcOwn
import HandS.WordsExc
import HandS.Evl
import HandS.IsInst
import HandS.Wide
import HandS.Flow
import HandS.DictComp
import HandS.Codes
import HandS.ExcIs
import HandS.ExcCtx
import HandS.HotCalls
import HandS.SetFor
import HandS.EndBits
import PySem.Challenge.RW_movehouse_k01_a_wish_done
set_option Elab.async false
set_option linter.all false
set_option maxRecDepth 100000
set_option maxHeartbeats 4000000
/-! Readings over data: what an expression's reading gives, as plain data; what a body's reading hands back. -/
namespace Wk
open PySem L2
open Evl (Ex)

/-! ### data in the heap -/
section
variable {K : PySem.W.Frag} {H H' : Hp}
mutual
theorem Dp.mono (e : Ex H H') : ∀ (d : PyData) (v : V), Dp K H v d → Dp K H' v d
  | .none, _, h => by cases h; exact .non
  | .bool b, _, h => by cases h; exact .bl b
  | .int i, _, h => by cases h; exact .int i
  | .str x, _, h => by cases h; exact .str x
  | .list ds, _, h => by
    cases h with
    | lst s a => exact .lst (Evl.ex_l e s) (DpAll.mono e ds _ a)
  | .tuple ds, _, h => by
    cases h with
    | tup s a => exact .tup (Evl.ex_t e s) (DpAll.mono e ds _ a)
  | .dict _, _, h => nomatch h
theorem DpAll.mono (e : Ex H H') : ∀ (ds : List PyData) (vs : List V), DpAll K H vs ds → DpAll K H' vs ds
  | [], _, h => by cases h; exact .nil
  | d :: ds, _, h => by
    cases h with
    | cons a b => exact .cons (Dp.mono e d _ a) (DpAll.mono e ds _ b)
end
theorem DpAll.length : ∀ {vs : List V} {ds : List PyData}, DpAll K H vs ds → vs.length = ds.length
  | _, _, .nil => rfl
  | _, _, .cons _ b => congrArg (· + 1) (DpAll.length b)
theorem DpAll.get : ∀ {vs : List V} {ds : List PyData}, DpAll K H vs ds → ∀ {i : Nat} {d : PyData}, ds[i]? = some d → ∃ v, vs[i]? = some v ∧ Dp K H v d
  | _, _, .nil, i, d, h => by simp at h
  | _, _, .cons a b, 0, d, h => by
    simp at h; subst h
    exact ⟨_, rfl, a⟩
  | _, _, .cons a b, i + 1, d, h => by
    obtain ⟨v, h1, h2⟩ := DpAll.get b (i := i) (d := d) (by simpa using h)
    exact ⟨v, by simpa using h1, h2⟩
theorem DpAll.atI {vs : List V} {ds : List PyData} (a : DpAll K H vs ds) {i : Int} {d : PyData} (h : L2.atI ds i = some d) : ∃ v, L2.atI vs i = some v ∧ Dp K H v d := by
  unfold L2.atI at h ⊢
  rw [DpAll.length a]
  cases e : ixN ds.length i with
  | none => rw [e] at h; cases h
  | some j =>
    rw [e] at h
    exact DpAll.get a h
theorem DpAll.append : ∀ {vs us : List V} {ds es : List PyData}, DpAll K H vs ds → DpAll K H us es → DpAll K H (vs ++ us) (ds ++ es)
  | _, _, _, _, .nil, b => b
  | _, _, _, _, .cons a r, b => .cons a (DpAll.append r b)
theorem DpAll.one {v : V} {d : PyData} (h : Dp K H v d) : DpAll K H [v] [d] := .cons h .nil
theorem DpAll.snoc_of {vs : List V} {ds : List PyData} {v : V} {d : PyData} (a : DpAll K H vs ds) (h : Dp K H v d) : DpAll K H (vs ++ [v]) (ds ++ [d]) := DpAll.append a (DpAll.one h)
theorem DpAll.take : ∀ {vs : List V} {ds : List PyData} (n : Nat), DpAll K H vs ds → DpAll K H (vs.take n) (ds.take n)
  | _, _, 0, _ => .nil
  | _, _, _ + 1, .nil => .nil
  | _, _, n + 1, .cons a r => .cons a (DpAll.take n r)
theorem DpAll.drop : ∀ {vs : List V} {ds : List PyData} (n : Nat), DpAll K H vs ds → DpAll K H (vs.drop n) (ds.drop n)
  | _, _, 0, r => r
  | _, _, _ + 1, .nil => .nil
  | _, _, n + 1, .cons a r => DpAll.drop n r
theorem DpAll.ints : ∀ (ns : List Int), DpAll K H (ns.map V.int) (ns.map PyData.int)
  | [] => .nil
  | n :: r => .cons (.int n) (DpAll.ints r)
theorem DpAll.strs : ∀ (ns : List Str), DpAll K H (ns.map V.str) (ns.map PyData.str)
  | [] => .nil
  | n :: r => .cons (.str n) (DpAll.strs r)
theorem DpAll.bls : ∀ (ns : List Bool), DpAll K H (ns.map V.bl) (ns.map PyData.bool)
  | [] => .nil
  | n :: r => .cons (.bl n) (DpAll.bls r)
theorem DpAll.strs_inv : ∀ {ns : List Str} {vs : List V}, DpAll K H vs (ns.map PyData.str) → vs = ns.map V.str
  | [], _, .nil => rfl
  | n :: r, _, .cons a b => by cases a; rw [DpAll.strs_inv b]; rfl
theorem DpAll.bls_inv : ∀ {ns : List Bool} {vs : List V}, DpAll K H vs (ns.map PyData.bool) → vs = ns.map V.bl
  | [], _, .nil => rfl
  | n :: r, _, .cons a b => by cases a; rw [DpAll.bls_inv b]; rfl
theorem DpAll.ints_inv : ∀ {ns : List Int} {vs : List V}, DpAll K H vs (ns.map PyData.int) → vs = ns.map V.int
  | [], _, .nil => rfl
  | n :: r, _, .cons a b => by cases a; rw [DpAll.ints_inv b]; rfl
end

/-! ### data without lists: it stays whatever happens to lists, dicts, instances -/
mutual
def noList : PyData → Bool
  | .none => true
  | .bool _ => true
  | .int _ => true
  | .str _ => true
  | .tuple ds => noLists ds
  | .list _ => false
  | .dict _ => false
def noLists : List PyData → Bool
  | [] => true
  | d :: ds => noList d && noLists ds
end
/-- tuples are kept -/
def KeepT (K : PySem.W.Frag) (H H' : Hp) : Prop := ∀ a xs, SqT K H a xs → SqT K H' a xs
section
variable {K : PySem.W.Frag} {H H' : Hp}
mutual
theorem Dp.keepT (k : KeepT K H H') : ∀ (d : PyData) (v : V), noList d = true → Dp K H v d → Dp K H' v d
  | .none, _, _, h => by cases h; exact .non
  | .bool b, _, _, h => by cases h; exact .bl b
  | .int i, _, _, h => by cases h; exact .int i
  | .str x, _, _, h => by cases h; exact .str x
  | .list ds, _, n, _ => by simp [noList] at n
  | .tuple ds, _, n, h => by
    cases h with
    | tup s a => exact .tup (k _ _ s) (DpAll.keepT k ds _ (by simpa [noList] using n) a)
  | .dict _, _, _, h => nomatch h
theorem DpAll.keepT (k : KeepT K H H') : ∀ (ds : List PyData) (vs : List V), noLists ds = true → DpAll K H vs ds → DpAll K H' vs ds
  | [], _, _, h => by cases h; exact .nil
  | d :: ds, _, n, h => by
    simp only [noLists, Bool.and_eq_true] at n
    cases h with
    | cons a b => exact .cons (Dp.keepT k d _ n.1 a) (DpAll.keepT k ds _ n.2 b)
end
theorem noLists_append : ∀ (a b : List PyData), noLists (a ++ b) = (noLists a && noLists b)
  | [], b => by simp [noLists]
  | x :: a, b => by simp [noLists, noLists_append a b, Bool.and_assoc]
theorem noLists_map {α : Type} {f : α → PyData} (h : ∀ a, noList (f a) = true) : ∀ l : List α, noLists (l.map f) = true
  | [] => rfl
  | a :: l => by simp [noLists, h a, noLists_map h l]
theorem noLists_of {l : List PyData} (h : ∀ d ∈ l, noList d = true) : noLists l = true := by
  induction l with
  | nil => rfl
  | cons a l ih => simp [noLists, h a (by simp), ih fun d hd => h d (by simp [hd])]
theorem noLists_mem : ∀ {l : List PyData} {d : PyData}, noLists l = true → d ∈ l → noList d = true
  | a :: l, d, h, m => by
    simp only [noLists, Bool.and_eq_true] at h
    rcases List.mem_cons.mp m with e | m
    · rw [e]; exact h.1
    · exact noLists_mem h.2 m
theorem Ex.keepT (e : Ex H H') : KeepT K H H' := fun _ _ h => Evl.ex_t e h
theorem KeepT.trans {H2 : Hp} (a : KeepT K H H') (b : KeepT K H' H2) : KeepT K H H2 := fun x xs h => b x xs (a x xs h)
/-- what may be written: no tuple, nothing locked -/
theorem keepT_upd {p : Addr} {o u : HO} (h : H p = some o) (hm : L2.Mut (some o)) : KeepT K H (upd H p u) := fun a xs hs => by
  rcases hs with (h1 | ⟨ob, h1⟩) | h1
  · have : a ≠ p := fun z => by subst z; rw [h] at h1; cases h1; exact hm
    exact .inl (.inl (by rw [upd_ne this]; exact h1))
  · have : a ≠ p := fun z => by subst z; rw [h] at h1; cases h1; exact hm
    exact .inl (.inr ⟨ob, by rw [upd_ne this]; exact h1⟩)
  · exact .inr h1
end


/-! ### two heaps: B, what stays; H, all. What is in H alone are this body's own lists and dicts -/
def OwnO (o : HO) : Prop := (∃ xs, o = .lst xs) ∨ ∃ kvs, o = .dK kvs
structure Two (B H : Hp) : Prop where
  sub : Ex B H
  out : ∀ q o, H q = some o → B q = none → OwnO o
structure Grow (B H B' H' : Hp) : Prop where
  b : Ex B B'
  h : Ex H H'
  two : Two B' H'
  out : ∀ q, B q = none → H q ≠ none → B' q = none
section
variable {K : PySem.W.Frag} {B H B' H' B2 H2 : Hp}
theorem Grow.refl (t : Two B H) : Grow B H B H := ⟨Evl.Ex.refl B, Evl.Ex.refl H, t, fun _ h _ => h⟩
theorem Grow.trans (a : Grow B H B' H') (b : Grow B' H' B2 H2) : Grow B H B2 H2 :=
  ⟨a.b.trans b.b, a.h.trans b.h, b.two, fun q h1 h2 => b.out q (a.out q h1 h2) (by
    cases e : H q with
    | none => exact absurd e h2
    | some o => rw [a.h q o e]; simp)⟩
/-- a new object that stays -/
theorem Grow.new {p : Addr} {o : HO} (t : Two B H) (h : H p = none) : Grow B H (upd B p o) (upd H p o) where
  b := Evl.Ex.new (by
    cases e : B p with
    | none => rfl
    | some u => rw [t.sub p u e] at h; cases h)
  h := Evl.Ex.new h
  two := ⟨fun q u e => by
      by_cases z : q = p
      · subst z; rw [upd_same] at e ⊢; exact e
      · rw [upd_ne z] at e ⊢; exact t.sub q u e,
    fun q u e1 e2 => by
      by_cases z : q = p
      · subst z; rw [upd_same] at e2; cases e2
      · rw [upd_ne z] at e1 e2; exact t.out q u e1 e2⟩
  out := fun q h1 h2 => by
    have z : q ≠ p := fun z => by subst z; exact h2 h
    rw [upd_ne z]; exact h1
/-- a new list or dict of one's own -/
theorem Grow.own {p : Addr} {o : HO} (t : Two B H) (h : H p = none) (ho : OwnO o) : Grow B H B (upd H p o) where
  b := Evl.Ex.refl B
  h := Evl.Ex.new h
  two := ⟨fun q u e => by
      have z : q ≠ p := fun z => by subst z; rw [t.sub q u e] at h; cases h
      rw [upd_ne z]; exact t.sub q u e,
    fun q u e1 e2 => by
      by_cases z : q = p
      · subst z; rw [upd_same] at e1; cases e1; exact ho
      · rw [upd_ne z] at e1; exact t.out q u e1 e2⟩
  out := fun q h1 _ => h1
/-- all that is new stays -/
def growB (B H H' : Hp) : Hp := fun q => if (B q).isNone && (H q).isSome then none else H' q
theorem Grow.all (t : Two B H) (e : Ex H H') : Grow B H (growB B H H') H' where
  b := fun q o h => by
    unfold growB
    rw [h]
    exact e q o (t.sub q o h)
  h := e
  two := ⟨fun q o h => by
      unfold growB at h
      split at h
      · cases h
      · exact h,
    fun q o h1 h2 => by
      unfold growB at h2
      split at h2
      · rename_i c
        simp only [Bool.and_eq_true, Option.isNone_iff_eq_none, Option.isSome_iff_exists] at c
        obtain ⟨c1, u, c2⟩ := c
        have := e q u c2
        rw [this] at h1; cases h1
        exact t.out q o c2 c1
      · rw [h2] at h1; cases h1⟩
  out := fun q h1 h2 => by
    unfold growB
    cases e : H q with
    | none => exact absurd e h2
    | some o => simp [h1]
theorem Two.tup (t : Two B H) : KeepT K H B := fun a xs h => by
  rcases h with (h | ⟨o, h⟩) | h
  · refine .inl (.inl ?_)
    cases e : B a with
    | none => rcases t.out a _ h e with ⟨_, z⟩ | ⟨_, z⟩ <;> cases z
    | some u => rw [t.sub a u e] at h; exact h
  · refine .inl (.inr ⟨o, ?_⟩)
    cases e : B a with
    | none => rcases t.out a _ h e with ⟨_, z⟩ | ⟨_, z⟩ <;> cases z
    | some u => rw [t.sub a u e] at h; exact h
  · exact .inr h
/-- data without lists stands in B -/
theorem Dp.down (t : Two B H) {v : V} {d : PyData} (hn : noList d = true) (h : Dp K H v d) : Dp K B v d := Dp.keepT t.tup d v hn h
theorem Dp.up (t : Two B H) {v : V} {d : PyData} (h : Dp K B v d) : Dp K H v d := Dp.mono t.sub d v h
theorem DpAll.up (t : Two B H) {vs : List V} {ds : List PyData} (h : DpAll K B vs ds) : DpAll K H vs ds := DpAll.mono t.sub ds vs h
end

/-! ### what a slot, a result holds -/
/-- plain data; one very value; a list of one's own; a dict of one's own -/
inductive Sl where
  | py (d : PyData)
  | at (v : V)
  | own (ds : List PyData)
  | dct (kvs : List (Key × PyData))
def DpKV (K : PySem.W.Frag) (B : Hp) : List (Key × V) → List (Key × PyData) → Prop
  | [], [] => True
  | (k, v) :: r, (j, d) :: s => k = j ∧ Dp K B v d ∧ DpKV K B r s
  | _, _ => False
theorem DpKV.mono {K : PySem.W.Frag} {B B' : Hp} (e : Ex B B') : ∀ {r : List (Key × V)} {s : List (Key × PyData)}, DpKV K B r s → DpKV K B' r s
  | [], [], _ => trivial
  | (_, _) :: _, (_, _) :: _, h => ⟨h.1, Dp.mono e _ _ h.2.1, DpKV.mono e h.2.2⟩
  | [], (_, _) :: _, h => h
  | (_, _) :: _, [], h => h
def Is (K : PySem.W.Frag) (B H : Hp) (v : V) : Sl → Prop
  | .py d => Dp K B v d
  | .at u => v = u
  | .own ds => ∃ p xs, v = .ref p ∧ B p = none ∧ H p = some (.lst xs) ∧ DpAll K B xs ds
  | .dct kvs => ∃ p xs, v = .ref p ∧ B p = none ∧ H p = some (.dK xs) ∧ DpKV K B xs kvs
def Sl.isOwn : Sl → Bool
  | .own _ => true
  | .dct _ => true
  | _ => false
theorem Is.grow {K : PySem.W.Frag} {B H B' H' : Hp} (g : Grow B H B' H') {v : V} : ∀ {s : Sl}, Is K B H v s → Is K B' H' v s
  | .py d, h => Dp.mono g.b d v h
  | .at _, h => h
  | .own ds, ⟨p, xs, e, hb, hh, a⟩ => ⟨p, xs, e, g.out p hb (by rw [hh]; simp), g.h p _ hh, DpAll.mono g.b _ _ a⟩
  | .dct ds, ⟨p, xs, e, hb, hh, a⟩ => ⟨p, xs, e, g.out p hb (by rw [hh]; simp), g.h p _ hh, a.mono g.b⟩
/-- a result: what it is, and new where it is one's own -/
def Res (K : PySem.W.Frag) (H0 B H : Hp) (v : V) (s : Sl) : Prop := Is K B H v s ∧ (s.isOwn = true → ∃ p, v = .ref p ∧ H0 p = none)
def IsAll (K : PySem.W.Frag) (B H : Hp) : List V → List Sl → Prop
  | [], [] => True
  | v :: vs, s :: ss => Is K B H v s ∧ IsAll K B H vs ss
  | _, _ => False
theorem IsAll.grow {K : PySem.W.Frag} {B H B' H' : Hp} (g : Grow B H B' H') : ∀ {vs : List V} {ss : List Sl}, IsAll K B H vs ss → IsAll K B' H' vs ss
  | [], [], _ => trivial
  | _ :: _, _ :: _, h => ⟨h.1.grow g, IsAll.grow g h.2⟩
  | [], _ :: _, h => h
  | _ :: _, [], h => h
theorem IsAll.length {K : PySem.W.Frag} {B H : Hp} : ∀ {vs : List V} {ss : List Sl}, IsAll K B H vs ss → vs.length = ss.length
  | [], [], _ => rfl
  | _ :: _, _ :: _, h => congrArg (· + 1) (IsAll.length h.2)
  | [], _ :: _, h => h.elim
  | _ :: _, [], h => h.elim
theorem IsAll.py {K : PySem.W.Frag} {B H : Hp} : ∀ {vs : List V} {ds : List PyData}, IsAll K B H vs (ds.map Sl.py) → DpAll K B vs ds
  | [], [], _ => .nil
  | _ :: _, _ :: _, h => .cons h.1 (IsAll.py h.2)
  | [], _ :: _, h => h.elim
  | _ :: _, [], h => h.elim
theorem IsAll.get {K : PySem.W.Frag} {B H : Hp} : ∀ {vs : List V} {ss : List Sl} {i : Nat} {s : Sl}, IsAll K B H vs ss → ss[i]? = some s → ∃ v, vs[i]? = some v ∧ Is K B H v s
  | [], [], i, s, _, e => by simp at e
  | v :: _, t :: _, 0, s, h, e => by simp at e; subst e; exact ⟨v, rfl, h.1⟩
  | _ :: _, _ :: _, i + 1, s, h, e => by obtain ⟨u, h1, h2⟩ := IsAll.get h.2 (i := i) (by simpa using e); exact ⟨u, by simpa using h1, h2⟩
  | [], _ :: _, _, _, h, _ => h.elim
  | _ :: _, [], _, _, h, _ => h.elim
theorem is1 {K : PySem.W.Frag} {B H : Hp} {vs : List V} {s : Sl} (h : IsAll K B H vs [s]) : ∃ v, vs = [v] ∧ Is K B H v s := by
  cases vs with
  | nil => exact h.elim
  | cons a r => cases r with
    | nil => exact ⟨a, rfl, h.1⟩
    | cons => exact h.2.elim
abbrev Rho := List (Option Sl)
/-- the slots σ hold what ρ says; what is one's own stands in one slot alone -/
structure Sg (K : PySem.W.Frag) (B H : Hp) (σ : St) (ρ : Rho) : Prop where
  two : Two B H
  len : σ.length = ρ.length
  has : ∀ (i : Nat) (s : Sl), ρ[i]? = some (some s) → ∃ v, σ[i]? = some (some v) ∧ Is K B H v s
  one : ∀ (i j : Nat) (s t : Sl), ρ[i]? = some (some s) → ρ[j]? = some (some t) → s.isOwn = true → t.isOwn = true → σ[i]? = σ[j]? → i = j
section
variable {K : PySem.W.Frag} {B H B' H' : Hp} {σ : St} {ρ : Rho}
theorem Sg.grow (g : Grow B H B' H') (h : Sg K B H σ ρ) : Sg K B' H' σ ρ := ⟨g.two, h.len, fun i s hi => let ⟨v, h1, h2⟩ := h.has i s hi; ⟨v, h1, h2.grow g⟩, h.one⟩
theorem set_cases {α : Type} {l : List α} {i j : Nat} {a x : α} (h : (l.set i a)[j]? = some x) : (i = j ∧ x = a ∧ i < l.length) ∨ (i ≠ j ∧ l[j]? = some x) := by
  by_cases e : i = j
  · subst e
    have hl : i < l.length := by
      refine Classical.byContradiction fun hn => ?_
      rw [List.getElem?_eq_none (by rw [List.length_set]; omega)] at h
      cases h
    rw [List.getElem?_set_self hl] at h
    cases h
    exact .inl ⟨rfl, rfl, hl⟩
  · rw [List.getElem?_set_ne e] at h
    exact .inr ⟨e, h⟩
/-- a slot takes a result -/
theorem Sg.set {H0 : Hp} {v : V} {s : Sl} (i : Nat) (h : Sg K B H σ ρ) (hv : Is K B H v s) (hn : s.isOwn = true → ∀ (j : Nat) (t : Sl), ρ[j]? = some (some t) → t.isOwn = true → σ[j]? ≠ some (some v)) : Sg K B H (σ.set i (some v)) (ρ.set i (some s)) := by
  refine ⟨h.two, by rw [List.length_set, List.length_set]; exact h.len, fun j t hj => ?_, fun j k t u hj hk ht hu e => ?_⟩
  · rcases set_cases hj with ⟨rfl, e, hl⟩ | ⟨ne, hj⟩
    · cases e
      exact ⟨v, by rw [List.getElem?_set_self (h.len ▸ hl)], hv⟩
    · obtain ⟨u, h1, h2⟩ := h.has j t hj
      exact ⟨u, by rw [List.getElem?_set_ne ne]; exact h1, h2⟩
  · rcases set_cases hj with ⟨rfl, e1, hl⟩ | ⟨n1, hj⟩ <;> rcases set_cases hk with ⟨rfl, e2, hl2⟩ | ⟨n2, hk⟩
    · rfl
    · cases e1
      rw [List.getElem?_set_self (h.len ▸ hl), List.getElem?_set_ne n2] at e
      exact absurd e.symm (hn ht k u hk hu)
    · cases e2
      rw [List.getElem?_set_self (h.len ▸ hl2), List.getElem?_set_ne n1] at e
      exact absurd e (hn hu j t hj ht)
    · rw [List.getElem?_set_ne n1, List.getElem?_set_ne n2] at e
      exact h.one j k t u hj hk ht hu e
theorem Sg.forget (i : Nat) (h : Sg K B H σ ρ) : Sg K B H (σ.set i none) (ρ.set i none) := by
  refine ⟨h.two, by rw [List.length_set, List.length_set]; exact h.len, fun j t hj => ?_, fun j k t u hj hk ht hu e => ?_⟩
  · rcases set_cases hj with ⟨rfl, e, hl⟩ | ⟨ne, hj⟩
    · cases e
    · obtain ⟨u, h1, h2⟩ := h.has j t hj
      exact ⟨u, by rw [List.getElem?_set_ne ne]; exact h1, h2⟩
  · rcases set_cases hj with ⟨rfl, e1, hl⟩ | ⟨n1, hj⟩
    · cases e1
    rcases set_cases hk with ⟨rfl, e2, hl2⟩ | ⟨n2, hk⟩
    · cases e2
    rw [List.getElem?_set_ne n1, List.getElem?_set_ne n2] at e
    exact h.one j k t u hj hk ht hu e
/-- the result of an expression goes into a slot -/
theorem Sg.res {H0 : Hp} {v : V} {s : Sl} (i : Nat) (h0 : Ex H0 H) (h : Sg K B H σ ρ) (hold : ∀ (j : Nat) (t : Sl), ρ[j]? = some (some t) → t.isOwn = true → ∀ p : Addr, σ[j]? = some (some (V.ref p)) → H0 p ≠ none) (hv : Res K H0 B H v s) : Sg K B H (σ.set i (some v)) (ρ.set i (some s)) :=
  h.set (H0 := H0) i hv.1 fun ho j t hj ht e => by
    obtain ⟨p, rfl, hp⟩ := hv.2 ho
    exact hold j t hj ht p e hp
theorem Sg.owns (h : Sg K B H σ ρ) : ∀ (j : Nat) (t : Sl), ρ[j]? = some (some t) → t.isOwn = true → ∀ p : Addr, σ[j]? = some (some (V.ref p)) → H p ≠ none := fun j t hj ht p e z => by
  obtain ⟨v, h1, h2⟩ := h.has j t hj
  rw [h1] at e; cases e
  cases t with
  | py => cases ht
  | «at» => cases ht
  | own ds => obtain ⟨q, xs, e, _, hh, _⟩ := h2; cases e; rw [hh] at z; cases z
  | dct ds => obtain ⟨q, xs, e, _, hh, _⟩ := h2; cases e; rw [hh] at z; cases z
/-- a def's slots at its start -/
theorem Sg.start {N : List Str} {vs : List V} {ss : List Sl} (t : Two B H) (h : IsAll K B H vs ss) (hl : ss.length ≤ N.length) (hno : ∀ s ∈ ss, s.isOwn = false) : Sg K B H (L2.start N vs) (ss.map some ++ List.replicate (N.length - ss.length) none) := by
  have hlen := h.length
  have low : ∀ (i : Nat) (s : Sl), (ss.map some ++ List.replicate (N.length - ss.length) none)[i]? = some (some s) → ss[i]? = some s := fun i s hi => by
    have hil : i < ss.length := by
      refine Classical.byContradiction fun hn => ?_
      rw [List.getElem?_append_right (by simp; omega)] at hi
      simp only [List.length_map] at hi
      rw [List.getElem?_replicate] at hi
      split at hi <;> cases hi
    rw [List.getElem?_append_left (by simpa using hil), List.getElem?_map] at hi
    cases e : ss[i]? with
    | none => rw [e] at hi; cases hi
    | some t => rw [e] at hi; simp at hi; rw [hi]
  refine ⟨t, ?_, fun i s hi => ?_, fun i j s u hi _ hs _ _ => ?_⟩
  · simp [L2.start]; omega
  · obtain ⟨v, h1, h2⟩ := h.get (low i s hi)
    refine ⟨v, ?_, h2⟩
    have hiv : i < vs.length := (List.getElem?_eq_some_iff.mp h1).1
    show (vs.map some ++ _)[i]? = _
    rw [List.getElem?_append_left (by simpa using hiv), List.getElem?_map, h1]
    rfl
  · have := hno s (List.mem_of_getElem? (low i s hi))
    rw [this] at hs; cases hs
end
end Wk

/-! Operations, comparisons, places, calls of built-ins over data; what readings give. -/
namespace Wk
open PySem L2
open Evl (Ex)

theorem Ex.upd {H : Hp} {p : Addr} {o : HO} (h : H p = none) : Ex H (upd H p o) := Evl.Ex.new h

/-! ### two operands -/
inductive Bin : Operator → PyData → PyData → PyData → Prop where
  | add (i j : Int) : Bin .Add (.int i) (.int j) (.int (i + j))
  | sub (i j : Int) : Bin .Sub (.int i) (.int j) (.int (i - j))
  | mul (i j : Int) (h : CMul i j) : Bin .Mult (.int i) (.int j) (.int (i * j))
  | fdiv (i j : Int) (h : 0 < j ∧ j < 1073741824) : Bin .FloorDiv (.int i) (.int j) (.int (i / j))
  | mod (i j : Int) (h : 0 < j) : Bin .Mod (.int i) (.int j) (.int (i % j))
  | pow (i j : Int) (h : CPow i j) : Bin .Pow (.int i) (.int j) (.int (i ^ j.toNat))
  | cat (x y : Str) (h : x.length + y.length ≤ sizeLine) : Bin .Add (.str x) (.str y) (.str (x ++ y))
  | catT (xs ys : List PyData) (h : xs ≠ [] ∧ ys ≠ [] ∧ xs.length + ys.length ≤ sizeLine) : Bin .Add (.tuple xs) (.tuple ys) (.tuple (xs ++ ys))
def rBin (K : PySem.W.Frag) (op : Operator) : R2 := fun x y H Q => ∃ d e r, Dp K H x d ∧ Dp K H y e ∧ Bin op d e r ∧ ∀ v H', Ex H H' → Dp K H' v r → Q v H'
section
variable {X : Cx}
theorem op_bin (op : Operator) : OpR X (binaryOp op) (rBin X.K op) := by
  intro pins s σ H x y v u Q I rx ry h
  obtain ⟨d, e, r, hd, he, b, q⟩ := h
  cases b with
  | add i j => cases hd; cases he; exact op_add pins s σ H _ _ v u Q I rx ry ⟨i, j, rfl, rfl, q _ _ (Evl.Ex.refl H) (.int _)⟩
  | sub i j => cases hd; cases he; exact op_sub pins s σ H _ _ v u Q I rx ry ⟨i, j, rfl, rfl, q _ _ (Evl.Ex.refl H) (.int _)⟩
  | mul i j hc => cases hd; cases he; exact op_mul pins s σ H _ _ v u Q I rx ry ⟨i, j, rfl, rfl, hc, q _ _ (Evl.Ex.refl H) (.int _)⟩
  | fdiv i j hc => cases hd; cases he; exact op_fdiv pins s σ H _ _ v u Q I rx ry ⟨i, j, rfl, rfl, hc, q _ _ (Evl.Ex.refl H) (.int _)⟩
  | mod i j hc => cases hd; cases he; exact op_mod pins s σ H _ _ v u Q I rx ry ⟨i, j, rfl, rfl, hc, q _ _ (Evl.Ex.refl H) (.int _)⟩
  | pow i j hc => cases hd; cases he; exact op_pow pins s σ H _ _ v u Q I rx ry ⟨i, j, rfl, rfl, hc, q _ _ (Evl.Ex.refl H) (.int _)⟩
  | cat a b hc => cases hd; cases he; exact op_add_str pins s σ H _ _ v u Q I rx ry ⟨a, b, rfl, rfl, hc, q _ _ (Evl.Ex.refl H) (.str _)⟩
  | catT xs ys hc =>
    cases hd with
    | tup s1 a1 =>
      cases he with
      | tup s2 a2 =>
        obtain ⟨h1, h2, h3⟩ := hc
        have n1 := DpAll.length a1
        have n2 := DpAll.length a2
        refine op_catT pins s σ H _ _ v u Q I rx ry ⟨_, _, _, _, rfl, rfl, s1, s2, ?_, by omega, ?_, ?_⟩
        · intro z; subst z; cases xs with
          | nil => exact h1 rfl
          | cons => cases n1
        · intro z; subst z; cases ys with
          | nil => exact absurd rfl h2
          | cons => cases n2
        · intro _ p hp
          exact q _ _ (Ex.upd hp) (.tup (SqT.of upd_same) (DpAll.mono (Ex.upd hp) _ _ (DpAll.append a1 a2)))
end

/-! ### comparisons -/
inductive Cmp : CmpOp → PyData → PyData → Bool → Prop where
  | lt (i j : Int) : Cmp .Lt (.int i) (.int j) (decide (i < j))
  | le (i j : Int) : Cmp .LtE (.int i) (.int j) (decide (i ≤ j))
  | gt (i j : Int) : Cmp .Gt (.int i) (.int j) (decide (j < i))
  | ge (i j : Int) : Cmp .GtE (.int i) (.int j) (decide (j ≤ i))
  | eqI (i j : Int) : Cmp .Eq (.int i) (.int j) (decide (i = j))
  | neI (i j : Int) : Cmp .NotEq (.int i) (.int j) (!decide (i = j))
  | eqS (i j : Str) : Cmp .Eq (.str i) (.str j) (decide (i = j))
  | neS (i j : Str) : Cmp .NotEq (.str i) (.str j) (!decide (i = j))
  | eqB (i j : Bool) : Cmp .Eq (.bool i) (.bool j) (decide (i = j))
  | neB (i j : Bool) : Cmp .NotEq (.bool i) (.bool j) (!decide (i = j))
  | eq (d e : PyData) (h : SeqAt.shaped d = true ∧ SeqAt.shaped e = true) : Cmp .Eq d e (PyData.eqv d e)
  | ne (d e : PyData) (h : SeqAt.shaped d = true ∧ SeqAt.shaped e = true) : Cmp .NotEq d e (!PyData.eqv d e)
  | isN (d : PyData) (b : Bool) (h : b = true ↔ d = .none) : Cmp .Is d .none b
  | notN (d : PyData) (b : Bool) (h : b = true ↔ d ≠ .none) : Cmp .IsNot d .none b
def rCmp (K : PySem.W.Frag) (op : CmpOp) : R2 := fun x y H Q => ∃ d e b, Dp K H x d ∧ Dp K H y e ∧ Cmp op d e b ∧ Q (.bl b) H
theorem Dp.non_iff {K : PySem.W.Frag} {H : Hp} {x : V} {d : PyData} (h : Dp K H x d) : x = .non ↔ d = .none := by
  cases h <;> simp
section
variable {X : Cx}
theorem op_cmp (op : CmpOp) (hu : X.A.units + 64 < cLine) : OpR X (compareOp op) (rCmp X.K op) := by
  intro pins s σ H x y v u Q I rx ry h
  obtain ⟨d, e, b, hd, he, c, q⟩ := h
  cases c with
  | lt i j => cases hd; cases he; exact op_lt pins s σ H _ _ v u Q I rx ry ⟨i, j, rfl, rfl, q⟩
  | le i j => cases hd; cases he; exact op_le pins s σ H _ _ v u Q I rx ry ⟨i, j, rfl, rfl, q⟩
  | gt i j => cases hd; cases he; exact op_gt pins s σ H _ _ v u Q I rx ry ⟨i, j, rfl, rfl, q⟩
  | ge i j => cases hd; cases he; exact op_ge pins s σ H _ _ v u Q I rx ry ⟨i, j, rfl, rfl, q⟩
  | eqI i j => cases hd; cases he; exact op_eq pins s σ H _ _ v u Q I rx ry ⟨rfl, by simpa using q⟩
  | neI i j => cases hd; cases he; exact op_ne pins s σ H _ _ v u Q I rx ry ⟨rfl, by simpa using q⟩
  | eqS i j => cases hd; cases he; exact op_eq pins s σ H _ _ v u Q I rx ry ⟨rfl, by simpa using q⟩
  | neS i j => cases hd; cases he; exact op_ne pins s σ H _ _ v u Q I rx ry ⟨rfl, by simpa using q⟩
  | eqB i j => cases hd; cases he; exact op_eq pins s σ H _ _ v u Q I rx ry ⟨rfl, by simpa using q⟩
  | neB i j => cases hd; cases he; exact op_ne pins s σ H _ _ v u Q I rx ry ⟨rfl, by simpa using q⟩
  | eq _ _ hc => exact op_eqD hu pins s σ H _ _ v u Q I rx ry ⟨d, e, hd, he, hc.1, hc.2, q⟩
  | ne _ _ hc => exact op_neD hu pins s σ H _ _ v u Q I rx ry ⟨d, e, hd, he, hc.1, hc.2, q⟩
  | isN _ _ hb =>
    cases he
    refine op_isN pins s σ H _ _ v u Q I rx ry ⟨rfl, ?_⟩
    have : decide (x = V.non) = b := by
      rw [Bool.eq_iff_iff, decide_eq_true_iff, Dp.non_iff hd, hb]
    rw [this]; exact q
  | notN _ _ hb =>
    cases he
    refine op_notN pins s σ H _ _ v u Q I rx ry ⟨rfl, ?_⟩
    have : (!decide (x = V.non)) = b := by
      rw [Bool.eq_iff_iff, Bool.not_eq_true', decide_eq_false_iff_not, Dp.non_iff hd, hb]
    rw [this]; exact q
end

/-! ### a place: xs[i], t[i], z[i] -/
inductive Idx : PyData → PyData → PyData → Prop where
  | lst (ds : List PyData) (i : Int) (r : PyData) (h : atI ds i = some r) : Idx (.list ds) (.int i) r
  | tup (ds : List PyData) (i : Int) (r : PyData) (h : atI ds i = some r) : Idx (.tuple ds) (.int i) r
  | str (z : Str) (i : Int) (c : Nat) (h : z.length ≤ sizeLine ∧ atI z.cps.toList i = some c) : Idx (.str z) (.int i) (.str ⟨#[c]⟩)
def rIdx (K : PySem.W.Frag) : R2 := fun x y H Q => ∃ d e r, Dp K H x d ∧ Dp K H y e ∧ Idx d e r ∧ ∀ v, Dp K H v r → (∀ B, Evl.Ex B H → Dp K B x d → Dp K B v r) → Q v H
theorem ix_idx {X : Cx} : IxR X (rIdx X.K) := by
  intro value slice pins s σ H x y v u Q I rx ry h hs
  obtain ⟨d, e, r, hd, he, b, q⟩ := h
  cases b with
  | lst ds i r ha =>
    cases hd with
    | @lst a xs _ s1 a1 =>
      cases he
      obtain ⟨w, h1, h2⟩ := DpAll.atI a1 ha
      refine ix_list value slice pins s σ H _ _ v u Q I rx ry ⟨_, _, i, w, rfl, rfl, s1, h1, q w h2 fun B t hB => ?_⟩ hs
      cases hB with
      | @lst _ ys _ s2 a2 =>
        have : xs = ys := I.list_inj s1 (Evl.ex_l t s2)
        subst this
        obtain ⟨w', h3, h4⟩ := DpAll.atI a2 ha
        rw [h1] at h3; cases h3
        exact h4
  | tup ds i r ha =>
    cases hd with
    | @tup a xs _ s1 a1 =>
      cases he
      obtain ⟨w, h1, h2⟩ := DpAll.atI a1 ha
      refine ix_tup value slice pins s σ H _ _ v u Q I rx ry ⟨_, _, i, w, rfl, rfl, s1, h1, q w h2 fun B t hB => ?_⟩ hs
      cases hB with
      | @tup _ ys _ s2 a2 =>
        have : xs = ys := I.tuple_inj s1 (Evl.ex_t t s2)
        subst this
        obtain ⟨w', h3, h4⟩ := DpAll.atI a2 ha
        rw [h1] at h3; cases h3
        exact h4
  | str z i c hc =>
    cases hd
    cases he
    exact ix_str value slice pins s σ H _ _ v u Q I rx ry ⟨z, i, c, rfl, rfl, hc.1, hc.2, q _ (.str _) fun _ _ _ => .str _⟩ hs

/-! ### a slice: xs[lo:hi], z[lo:hi] -/
inductive Slc : PyData → Option Int → Option Int → PyData → Prop where
  | lst (ds : List PyData) (lo hi : Option Int) : Slc (.list ds) lo hi (.list ((ds.drop (HT.sIx ds.length 0 lo)).take (HT.sIx ds.length ds.length hi - HT.sIx ds.length 0 lo)))
  | str (z : Str) (lo hi : Option Int) (h : z.length ≤ sizeLine) : Slc (.str z) lo hi (.str (cutS z lo hi))
def rSlc (K : PySem.W.Frag) : V → Option Int → Option Int → Hp → VK → Prop := fun x lo hi H Q => ∃ d r, Dp K H x d ∧ Slc d lo hi r ∧
  (∀ z, r = .str z → Q (.str z) H) ∧ ∀ ds, r = .list ds → ∀ p xs, H p = none → DpAll K H xs ds → (∀ B, Two B H → (∀ es, d = .list es → Dp K B x d → DpAll K B xs ds) ∧ (noLists ds = true → DpAll K B xs ds)) → Q (.ref p) (upd H p (.lst xs))
theorem sl_slc {X : Cx} : SlR X (rSlc X.K) := by
  intro pins s σ H x v vl vu lo hi sl Q I rx hs pl pu h
  obtain ⟨d, r, hd, b, q⟩ := h
  cases b with
  | lst ds lo hi =>
    cases hd with
    | @lst a xs _ s1 a1 =>
      refine sl_list pins s σ H _ v vl vu lo hi sl Q I rx hs pl pu ⟨a, xs, rfl, s1, fun p hp => ?_⟩
      have cut : ∀ {B : Hp} {xs : List V}, DpAll X.K B xs ds → DpAll X.K B (cutV xs lo hi) ((ds.drop (HT.sIx ds.length 0 lo)).take (HT.sIx ds.length ds.length hi - HT.sIx ds.length 0 lo)) := fun {B xs} a => by
        unfold cutV
        rw [DpAll.length a]
        exact DpAll.take _ (DpAll.drop _ a)
      refine q.2 _ rfl p _ hp (cut a1) fun B t => ⟨fun es he hB => ?_, fun hn => DpAll.keepT t.tup _ _ hn (cut a1)⟩
      cases he
      cases hB with
      | @lst _ ys _ s2 a2 =>
        have : xs = ys := I.list_inj s1 (Evl.ex_l t.sub s2)
        subst this
        exact cut a2
  | str z lo hi hz =>
    cases hd
    exact sl_str pins s σ H _ v vl vu lo hi sl Q I rx hs pl pu ⟨z, rfl, hz, q.1 _ rfl⟩

/-! ### built-ins by values -/
inductive Len : PyData → Int → Prop where
  | lst (ds : List PyData) : Len (.list ds) ds.length
  | tup (ds : List PyData) : Len (.tuple ds) ds.length
  | str (z : Str) (h : z.length ≤ sizeLine) : Len (.str z) z.length
def rLen (K : PySem.W.Frag) : List V → Hp → VK → Prop := fun xs H Q => ∃ x d n, xs = [x] ∧ Dp K H x d ∧ Len d n ∧ Q (.int n) H
theorem call_lenU {X : Cx} : CallR X (.builtin "len") (rLen X.K) := by
  intro pins s σ H xs us Q I r h
  obtain ⟨x, d, n, rfl, hd, l, q⟩ := h
  cases l with
  | lst ds =>
    cases hd with
    | @lst a ys _ s1 a1 => exact call_len_seq pins s σ H _ us Q I r ⟨a, ys, rfl, .inl s1, by rw [DpAll.length a1]; exact q⟩
  | tup ds =>
    cases hd with
    | @tup a ys _ s1 a1 => exact call_len_seq pins s σ H _ us Q I r ⟨a, ys, rfl, .inr s1, by rw [DpAll.length a1]; exact q⟩
  | str z hz =>
    cases hd
    exact call_len_str pins s σ H _ us Q I r ⟨z, rfl, hz, q⟩
/-- the built-in class of a value -/
inductive Kind : PyData → String → Prop where
  | non : Kind .none "NoneType"
  | bl (b : Bool) : Kind (.bool b) "bool"
  | int (i : Int) : Kind (.int i) "int"
  | str (x : Str) : Kind (.str x) "str"
  | lst (ds : List PyData) : Kind (.list ds) "list"
  | tup (ds : List PyData) : Kind (.tuple ds) "tuple"
theorem Kind.ty {K : PySem.W.Frag} {H : Hp} {x : V} {d : PyData} {n : String} (hd : Dp K H x d) (k : Kind d n) : TyX K H x (.type n) := by
  cases k with
  | non => cases hd; exact .base .non
  | bl b => cases hd; exact .base (.bl b)
  | int i => cases hd; exact .base (.int i)
  | str x => cases hd; exact .base (.str x)
  | lst ds =>
    cases hd with
    | lst s1 a1 =>
      rcases s1 with (h | ⟨o, h⟩) | ⟨o, its, n, h, c, _⟩
      · exact .base (.lst h)
      · exact .base (.frz h)
      · exact .kList h c
  | tup ds =>
    cases hd with
    | tup s1 a1 =>
      rcases s1 with (h | ⟨o, h⟩) | ⟨o, its, n, h, c, _⟩
      · exact .base (.tup h)
      · exact .fTuple h
      · exact .kTuple h c
/-- isinstance(x, T), T a built-in class -/
def rIsiB (K : PySem.W.Frag) : List V → Hp → VK → Prop := fun xs H Q => ∃ x d n m b, xs = [x, .ty m] ∧ Dp K H x d ∧ Kind d n ∧ kitB n m = some b ∧ Q (.bl b) H
theorem call_isiB {X : Cx} : CallR X (.builtin "isinstance") (rIsiB X.K) := by
  intro pins s σ H xs us Q I r h
  obtain ⟨x, d, n, m, b, rfl, hd, k, e, q⟩ := h
  exact call_isi pins s σ H _ us Q I r ⟨x, _, _, _, b, rfl, .ty m, k.ty hd, kit_ty e, q⟩
/-- isinstance(x, (T1, T2)) -/
def rIsi2 (K : PySem.W.Frag) : List V → Hp → VK → Prop := fun xs H Q => ∃ x d n tp m1 m2 b1 b2, xs = [x, .ref tp] ∧ H tp = some (.tup [.ty m1, .ty m2]) ∧ Dp K H x d ∧ Kind d n ∧ kitB n m1 = some b1 ∧ kitB n m2 = some b2 ∧ Q (.bl (b1 || b2)) H
theorem call_isi2 {X : Cx} : CallR X (.builtin "isinstance") (rIsi2 X.K) := by
  intro pins s σ H xs us Q I r h
  obtain ⟨x, d, n, tp, m1, m2, b1, b2, rfl, ht, hd, k, e1, e2, q⟩ := h
  refine call_isiT pins s σ H _ us Q I r ⟨x, tp, _, _, _, b1 || b2, rfl, ht, .cons (.ty m1) (.cons (.ty m2) .nil), k.ty hd, ?_, q⟩
  refine kitAny_cons (b := b1) (kit_ty e1) (fun h1 => ?_) (fun h1 => by rw [h1]; rfl)
  refine kitAny_cons (b := b2) (kit_ty e2) (fun h2 => ?_) (fun h2 => by rw [h2, h1]; rfl)
  rw [h1, h2]
  rfl

/-! ### the same with K told: within a comprehension -/
section
variable {X : Cx}
theorem bin_ (K : PySem.W.Frag) (op : Operator) (h : X.K = K := by rfl) : OpR X (binaryOp op) (rBin K op) := h ▸ op_bin op
theorem cmp_ (K : PySem.W.Frag) (op : CmpOp) (hu : X.A.units + 64 < cLine) (h : X.K = K := by rfl) : OpR X (compareOp op) (rCmp K op) := h ▸ op_cmp op hu
theorem idx_ (K : PySem.W.Frag) (h : X.K = K := by rfl) : IxR X (rIdx K) := h ▸ ix_idx
theorem slc_ (K : PySem.W.Frag) (h : X.K = K := by rfl) : SlR X (rSlc K) := h ▸ sl_slc
theorem len_ (K : PySem.W.Frag) (h : X.K = K := by rfl) : CallR X (.builtin "len") (rLen K) := h ▸ call_lenU
theorem isi_ (K : PySem.W.Frag) (h : X.K = K := by rfl) : CallR X (.builtin "isinstance") (rIsiB K) := h ▸ call_isiB
theorem isi2_ (K : PySem.W.Frag) (h : X.K = K := by rfl) : CallR X (.builtin "isinstance") (rIsi2 K) := h ▸ call_isi2
end

/-! ### the built-in classes among each other -/
theorem kit_NoneType_list : kitB "NoneType" "list" = some false := by decide +kernel
theorem kit_NoneType_tuple : kitB "NoneType" "tuple" = some false := by decide +kernel
theorem kit_NoneType_str : kitB "NoneType" "str" = some false := by decide +kernel
theorem kit_NoneType_int : kitB "NoneType" "int" = some false := by decide +kernel
theorem kit_NoneType_bool : kitB "NoneType" "bool" = some false := by decide +kernel
theorem kit_NoneType_dict : kitB "NoneType" "dict" = some false := by decide +kernel
theorem kit_bool_list : kitB "bool" "list" = some false := by decide +kernel
theorem kit_bool_tuple : kitB "bool" "tuple" = some false := by decide +kernel
theorem kit_bool_str : kitB "bool" "str" = some false := by decide +kernel
theorem kit_bool_int : kitB "bool" "int" = some true := by decide +kernel
theorem kit_bool_bool : kitB "bool" "bool" = some true := by decide +kernel
theorem kit_bool_dict : kitB "bool" "dict" = some false := by decide +kernel
theorem kit_int_list : kitB "int" "list" = some false := by decide +kernel
theorem kit_int_tuple : kitB "int" "tuple" = some false := by decide +kernel
theorem kit_int_str : kitB "int" "str" = some false := by decide +kernel
theorem kit_int_int : kitB "int" "int" = some true := by decide +kernel
theorem kit_int_bool : kitB "int" "bool" = some false := by decide +kernel
theorem kit_int_dict : kitB "int" "dict" = some false := by decide +kernel
theorem kit_str_list : kitB "str" "list" = some false := by decide +kernel
theorem kit_str_tuple : kitB "str" "tuple" = some false := by decide +kernel
theorem kit_str_str : kitB "str" "str" = some true := by decide +kernel
theorem kit_str_int : kitB "str" "int" = some false := by decide +kernel
theorem kit_str_bool : kitB "str" "bool" = some false := by decide +kernel
theorem kit_str_dict : kitB "str" "dict" = some false := by decide +kernel
theorem kit_list_list : kitB "list" "list" = some true := by decide +kernel
theorem kit_list_tuple : kitB "list" "tuple" = some false := by decide +kernel
theorem kit_list_str : kitB "list" "str" = some false := by decide +kernel
theorem kit_list_int : kitB "list" "int" = some false := by decide +kernel
theorem kit_list_bool : kitB "list" "bool" = some false := by decide +kernel
theorem kit_list_dict : kitB "list" "dict" = some false := by decide +kernel
theorem kit_tuple_list : kitB "tuple" "list" = some false := by decide +kernel
theorem kit_tuple_tuple : kitB "tuple" "tuple" = some true := by decide +kernel
theorem kit_tuple_str : kitB "tuple" "str" = some false := by decide +kernel
theorem kit_tuple_int : kitB "tuple" "int" = some false := by decide +kernel
theorem kit_tuple_bool : kitB "tuple" "bool" = some false := by decide +kernel
theorem kit_tuple_dict : kitB "tuple" "dict" = some false := by decide +kernel
theorem kit_dict_list : kitB "dict" "list" = some false := by decide +kernel
theorem kit_dict_tuple : kitB "dict" "tuple" = some false := by decide +kernel
theorem kit_dict_str : kitB "dict" "str" = some false := by decide +kernel
theorem kit_dict_int : kitB "dict" "int" = some false := by decide +kernel
theorem kit_dict_bool : kitB "dict" "bool" = some false := by decide +kernel
theorem kit_dict_dict : kitB "dict" "dict" = some true := by decide +kernel

/-! ### what a reading gives -/
section
variable {K : PySem.W.Frag} {ρ : Rho} {ta tb te tl : TE} {s : Sl} {d e r : PyData} {b : Bool} {t u : TT}
/-- the reading gives what s tells, from slots as ρ says -/
def Es (K : PySem.W.Frag) (te : TE) (ρ : Rho) (s : Sl) : Prop := ∀ B H σ, Sg K B H σ ρ → ∀ Q : VK, (∀ v B' H', Grow B H B' H' → Res K H B' H' v s → Q v H') → te σ H Q
/-- .. what may be read as d -/
def Ep (K : PySem.W.Frag) (te : TE) (ρ : Rho) (d : PyData) : Prop := ∀ B H σ, Sg K B H σ ρ → ∀ Q : VK, (∀ v B' H', Grow B H B' H' → Dp K H' v d → Q v H') → te σ H Q
def Et (K : PySem.W.Frag) (t : TT) (ρ : Rho) (b : Bool) : Prop := ∀ B H σ, Sg K B H σ ρ → ∀ Q : Bool → Hp → Prop, (∀ B' H', Grow B H B' H' → Q b H') → t σ H Q
def Ea (K : PySem.W.Frag) (t : TA) (ρ : Rho) (ss : List Sl) : Prop := ∀ B H σ, Sg K B H σ ρ → ∀ Q : List V → Hp → Prop, (∀ vs B' H', Grow B H B' H' → IsAll K B' H' vs ss → Q vs H') → t σ H Q
def Eo (K : PySem.W.Frag) (to : TO) (ρ : Rho) (o : Option Int) : Prop := ∀ B H σ, Sg K B H σ ρ → ∀ Q : Option Int → Hp → Prop, (∀ B' H', Grow B H B' H' → Q o H') → to σ H Q
theorem res_py {H0 B H : Hp} {v : V} (h : Dp K B v d) : Res K H0 B H v (.py d) := ⟨h, fun z => by cases z⟩
theorem Es.is {s' : Sl} (h : Es K te ρ s) (e : s = s') : Es K te ρ s' := e ▸ h
theorem Ep.is {d' : PyData} (h : Ep K te ρ d) (e : d = d') : Ep K te ρ d' := e ▸ h
theorem Et.is {b' : Bool} (h : Et K t ρ b) (e : b = b') : Et K t ρ b' := e ▸ h
theorem ep_of (h : Es K te ρ (.py d)) : Ep K te ρ d := fun B H σ g Q q => h B H σ g Q fun v B1 H1 G R => q v B1 H1 G (Dp.up G.two R.1)
theorem ep_own {i : Nat} {ds : List PyData} (h : ρ[i]? = some (some (.own ds))) : Ep K (tVar i) ρ (.list ds) := fun B H σ g Q q => by
  obtain ⟨v, h1, p, xs, rfl, hb, hh, a⟩ := g.has i _ h
  exact ⟨_, h1, q _ B H (Grow.refl g.two) (.lst (SqL.of hh) (DpAll.up g.two a))⟩
theorem es_var {i : Nat} (h : ρ[i]? = some (some s)) (hn : s.isOwn = false := by rfl) : Es K (tVar i) ρ s := fun B H σ g Q q => by
  obtain ⟨v, h1, h2⟩ := g.has i s h
  exact ⟨v, h1, q v B H (Grow.refl g.two) ⟨h2, fun z => by rw [hn] at z; cases z⟩⟩
theorem es_val {v : V} (h : ∀ B : Hp, Dp K B v d) : Es K (tC v) ρ (.py d) := fun B H σ g Q q => q _ B H (Grow.refl g.two) (res_py (h B))
theorem es_int (i : Int) : Es K (tC (.int i)) ρ (.py (.int i)) := es_val fun _ => .int i
theorem es_str (x : Str) : Es K (tC (.str x)) ρ (.py (.str x)) := es_val fun _ => .str x
theorem es_bl (b : Bool) : Es K (tC (.bl b)) ρ (.py (.bool b)) := es_val fun _ => .bl b
theorem es_non : Es K (tC .non) ρ (.py .none) := es_val fun _ => .non
theorem es_at (v : V) : Es K (tC v) ρ (.at v) := fun B H σ g Q q => q _ B H (Grow.refl g.two) ⟨rfl, fun z => by cases z⟩
theorem es_bin {op : Operator} (ha : Ep K ta ρ d) (hb : Ep K tb ρ e) (h : Bin op d e r) (hn : noList r = true) : Es K (tOp (rBin K op) ta tb) ρ (.py r) := fun B H σ g Q q =>
  ha B H σ g _ fun x B1 H1 G1 hx => hb B1 H1 σ (g.grow G1) _ fun y B2 H2 G2 hy => ⟨d, e, r, Dp.mono G2.h d x hx, hy, h, fun v H3 e3 hv =>
    have G3 : Grow B2 H2 (growB B2 H2 H3) H3 := Grow.all G2.two e3
    q v _ H3 (G1.trans (G2.trans G3)) (res_py (Dp.down G3.two hn hv))⟩
theorem es_cmp {op : CmpOp} (ha : Ep K ta ρ d) (hb : Ep K tb ρ e) (h : Cmp op d e b) : Es K (tOp (rCmp K op) ta tb) ρ (.py (.bool b)) := fun B H σ g Q q =>
  ha B H σ g _ fun x B1 H1 G1 hx => hb B1 H1 σ (g.grow G1) _ fun y B2 H2 G2 hy => ⟨d, e, b, Dp.mono G2.h d x hx, hy, h, q _ B2 H2 (G1.trans G2) (res_py (.bl b))⟩
/-- an item that is no list -/
theorem es_idx (ha : Ep K ta ρ d) (hb : Ep K tb ρ e) (h : Idx d e r) (hn : noList r = true) : Es K (tOp (rIdx K) ta tb) ρ (.py r) := fun B H σ g Q q =>
  ha B H σ g _ fun x B1 H1 G1 hx => hb B1 H1 σ (g.grow G1) _ fun y B2 H2 G2 hy => ⟨d, e, r, Dp.mono G2.h d x hx, hy, h, fun v hv _ => q v B2 H2 (G1.trans G2) (res_py (Dp.down G2.two hn hv))⟩
/-- an item of what stays -/
theorem es_idxP (ha : Es K ta ρ (.py d)) (hb : Ep K tb ρ e) (h : Idx d e r) : Es K (tOp (rIdx K) ta tb) ρ (.py r) := fun B H σ g Q q =>
  ha B H σ g _ fun x B1 H1 G1 hx => hb B1 H1 σ (g.grow G1) _ fun y B2 H2 G2 hy =>
    have hx2 : Dp K B2 x d := Dp.mono G2.b d x hx.1
    ⟨d, e, r, Dp.up G2.two hx2, hy, h, fun v hv hb => q v B2 H2 (G1.trans G2) (res_py (hb B2 G2.two.sub hx2))⟩
theorem ep_idx (ha : Ep K ta ρ d) (hb : Ep K tb ρ e) (h : Idx d e r) : Ep K (tOp (rIdx K) ta tb) ρ r := fun B H σ g Q q =>
  ha B H σ g _ fun x B1 H1 G1 hx => hb B1 H1 σ (g.grow G1) _ fun y B2 H2 G2 hy => ⟨d, e, r, Dp.mono G2.h d x hx, hy, h, fun v hv _ => q v B2 H2 (G1.trans G2) hv⟩
theorem eo_none : Eo K tNoPart ρ none := fun B H σ g Q q => q B H (Grow.refl g.two)
theorem eo_some {i : Int} (h : Ep K te ρ (.int i)) : Eo K (tPart te) ρ (some i) := fun B H σ g Q q => h B H σ g _ fun v B1 H1 G hv => by
  cases hv
  exact ⟨i, rfl, q B1 H1 G⟩
theorem es_slcS {tl th : TO} {lo hi : Option Int} {z z' : Str} (ha : Ep K ta ρ (.str z)) (hl : Eo K tl ρ lo) (hh : Eo K th ρ hi) (hz : z.length ≤ sizeLine) (e : cutS z lo hi = z') : Es K (tSl (rSlc K) ta tl th) ρ (.py (.str z')) := fun B H σ g Q q =>
  ha B H σ g _ fun x B1 H1 G1 hx => hl B1 H1 σ (g.grow G1) _ fun B2 H2 G2 => hh B2 H2 σ (g.grow (G1.trans G2)) _ fun B3 H3 G3 =>
    ⟨_, _, Dp.mono (G2.h.trans G3.h) _ x hx, .str z lo hi hz, fun w ew => by cases ew; rw [e]; exact q _ B3 H3 (G1.trans (G2.trans G3)) (res_py (.str _)), fun ds eds => by cases eds⟩
/-- a slice of a list: a new list -/
theorem es_slcL {tl th : TO} {lo hi : Option Int} {ds es : List PyData} (ha : Es K ta ρ (.py (.list ds))) (hl : Eo K tl ρ lo) (hh : Eo K th ρ hi) (e : (ds.drop (HT.sIx ds.length 0 lo)).take (HT.sIx ds.length ds.length hi - HT.sIx ds.length 0 lo) = es) : Es K (tSl (rSlc K) ta tl th) ρ (.own es) := fun B H σ g Q q =>
  ha B H σ g _ fun x B1 H1 G1 hx => hl B1 H1 σ (g.grow G1) _ fun B2 H2 G2 => hh B2 H2 σ (g.grow (G1.trans G2)) _ fun B3 H3 G3 =>
    have h3 : Dp K B3 x (.list ds) := Dp.mono (G2.b.trans G3.b) _ x hx.1
    ⟨_, _, Dp.up G3.two h3, .lst ds lo hi, fun w ew => (by cases ew), fun ds' eds p xs hp a ab => by
      cases eds
      have a3 := (ab B3 G3.two).1 _ rfl h3
      rw [e] at a3
      have G4 := Grow.own (o := .lst xs) G3.two hp (.inl ⟨xs, rfl⟩)
      have hp0 : H p = none := by
        cases e0 : H p with
        | none => rfl
        | some o => have := (G1.trans (G2.trans G3)).h p o e0; rw [this] at hp; cases hp
      have hb3 : B3 p = none := by
        cases e0 : B3 p with
        | none => rfl
        | some o => have := G3.two.sub p o e0; rw [this] at hp; cases hp
      exact q _ B3 _ (G1.trans (G2.trans (G3.trans G4))) ⟨⟨p, xs, rfl, hb3, upd_same, a3⟩, fun _ => ⟨p, rfl, hp0⟩⟩⟩
theorem ea_nil : Ea K tNil ρ [] := fun B H σ g Q q => q [] B H (Grow.refl g.two) trivial
theorem ea_cons {tr : TA} {ss : List Sl} (ha : Es K te ρ s) (hr : Ea K tr ρ ss) : Ea K (tCons te tr) ρ (s :: ss) := fun B H σ g Q q =>
  ha B H σ g _ fun x B1 H1 G1 hx => hr B1 H1 σ (g.grow G1) _ fun xs B2 H2 G2 hxs => q _ B2 H2 (G1.trans G2) ⟨hx.1.grow G2, hxs⟩
theorem Two.free {B H : Hp} (t : Two B H) {p : Addr} (hp : H p = none) : B p = none := by
  cases e : B p with
  | none => rfl
  | some o => rw [t.sub p o e] at hp; cases hp
theorem Grow.free {B H B' H' : Hp} (G : Grow B H B' H') {p : Addr} (hp : H' p = none) : H p = none := by
  cases e : H p with
  | none => rfl
  | some o => rw [G.h p o e] at hp; cases hp
/-- a tuple, a list that is made -/
theorem es_tup {ta : TA} {ss : List Sl} {ds : List PyData} (h : Ea K ta ρ ss) (hs : ss = ds.map Sl.py) (hl : ds.length ≤ 1000) : Es K (tTup ta) ρ (.py (.tuple ds)) := fun B H σ g Q q =>
  h B H σ g _ fun vs B1 H1 G1 hv => by
    subst hs
    have a := IsAll.py hv
    refine ⟨Nat.le_trans (by rw [DpAll.length a]; exact hl) (by decide), fun p hp => ?_⟩
    have G2 := Grow.new (o := .tup vs) G1.two hp
    exact q _ _ _ (G1.trans G2) (res_py (.tup (SqT.of upd_same) (DpAll.mono G2.b _ _ a)))
theorem es_lst {ta : TA} {ss : List Sl} {ds : List PyData} (h : Ea K ta ρ ss) (hs : ss = ds.map Sl.py) (hl : ds.length ≤ 1000) : Es K (tLst ta) ρ (.own ds) := fun B H σ g Q q =>
  h B H σ g _ fun vs B1 H1 G1 hv => by
    subst hs
    have a := IsAll.py hv
    refine ⟨Nat.le_trans (by rw [DpAll.length a]; exact hl) (by decide), fun p hp => ?_⟩
    have G2 := Grow.own (o := .lst vs) G1.two hp (.inl ⟨vs, rfl⟩)
    exact q _ _ _ (G1.trans G2) ⟨⟨p, vs, rfl, G1.two.free hp, upd_same, a⟩, fun _ => ⟨p, rfl, G1.free hp⟩⟩
theorem es_dct : Es K tDNewK ρ (.dct []) := fun B H σ g Q q p hp =>
  have G2 := Grow.own (o := .dK []) g.two hp (.inr ⟨[], rfl⟩)
  q _ _ _ G2 ⟨⟨p, [], rfl, g.two.free hp, upd_same, trivial⟩, fun _ => ⟨p, rfl, hp⟩⟩
/-- a new list is told as data: from now on it stays -/
theorem es_freeze {ds : List PyData} (h : Es K te ρ (.own ds)) : Es K te ρ (.py (.list ds)) := fun B H σ g Q q =>
  h B H σ g _ fun v B1 H1 G1 R => by
    obtain ⟨⟨p, xs, rfl, hb, hh, a⟩, hn⟩ := R
    obtain ⟨p', e, hp⟩ := hn rfl
    cases e
    have e1 : Ex B1 (upd B1 p (.lst xs)) := Evl.Ex.new hb
    refine q _ (upd B1 p (.lst xs)) H1 ⟨G1.b.trans e1, G1.h, ⟨fun q u e => ?_, fun q u e1 e2 => ?_⟩, fun q h1 h2 => ?_⟩ (res_py (.lst (SqL.of upd_same) (DpAll.mono e1 _ _ a)))
    · by_cases z : q = p
      · subst z; rw [upd_same] at e; cases e; exact hh
      · rw [upd_ne z] at e; exact G1.two.sub q u e
    · by_cases z : q = p
      · subst z; rw [upd_same] at e2; cases e2
      · rw [upd_ne z] at e2; exact G1.two.out q u e1 e2
    · have z : q ≠ p := fun z => by subst z; exact h2 hp
      rw [upd_ne z]; exact G1.out q h1 h2
/-- arguments that are plain data -/
def Ead (K : PySem.W.Frag) (t : TA) (ρ : Rho) (ds : List PyData) : Prop := Ea K t ρ (ds.map Sl.py)
theorem ead_nil : Ead K tNil ρ [] := ea_nil
theorem ead_cons {tr : TA} {ds : List PyData} (ha : Es K te ρ (.py d)) (hr : Ead K tr ρ ds) : Ead K (tCons te tr) ρ (d :: ds) := ea_cons ha hr
theorem es_tupD {ta : TA} {ds : List PyData} (h : Ead K ta ρ ds) (hl : ds.length ≤ 1000) : Es K (tTup ta) ρ (.py (.tuple ds)) := es_tup h rfl hl
theorem es_lstD {ta : TA} {ds : List PyData} (h : Ead K ta ρ ds) (hl : ds.length ≤ 1000) : Es K (tLst ta) ρ (.own ds) := es_lst h rfl hl
theorem es_lstF {ta : TA} {ds : List PyData} (h : Ead K ta ρ ds) (hl : ds.length ≤ 1000) : Es K (tLst ta) ρ (.py (.list ds)) := es_freeze (es_lstD h hl)
theorem et_test (h : Es K te ρ (.py (.bool b))) : Et K (tTest te) ρ b := fun B H σ g Q q => h B H σ g _ fun v B1 H1 G R => by
  have R := R.1
  cases R
  exact ⟨b, rfl, q B1 H1 G⟩
theorem et_B (h : Es K te ρ (.py (.bool b))) : Et K (tB te) ρ b := fun B H σ g Q q => h B H σ g _ fun v B1 H1 G R => by
  have R := R.1
  cases R
  exact ⟨b, rfl, q B1 H1 G⟩
theorem et_and {a : Bool} (h1 : Et K t ρ a) (h2 : a = true → Et K u ρ b) : Et K (tAnd t u) ρ (a && b) := fun B H σ g Q q => h1 B H σ g _ fun B1 H1 G1 => by
  cases a with
  | true => exact iteT (h2 rfl B1 H1 σ (g.grow G1) _ fun B2 H2 G2 => q B2 H2 (G1.trans G2))
  | false => exact iteF (q B1 H1 G1)
theorem et_or {a : Bool} (h1 : Et K t ρ a) (h2 : a = false → Et K u ρ b) : Et K (tOr t u) ρ (a || b) := fun B H σ g Q q => h1 B H σ g _ fun B1 H1 G1 => by
  cases a with
  | false => exact iteF (h2 rfl B1 H1 σ (g.grow G1) _ fun B2 H2 G2 => q B2 H2 (G1.trans G2))
  | true => exact iteT (q B1 H1 G1)
theorem et_not (h : Et K t ρ b) : Et K (tNot t) ρ (!b) := fun B H σ g Q q => h B H σ g _ fun B1 H1 G => q B1 H1 G
theorem es_andV {a : Bool} (h1 : Es K ta ρ (.py (.bool a))) (h2 : a = true → Es K tb ρ (.py (.bool b))) : Es K (tAndV ta tb) ρ (.py (.bool (a && b))) := fun B H σ g Q q => h1 B H σ g _ fun v B1 H1 G1 R => by
  have R := R.1
  cases R
  refine ⟨a, rfl, ?_⟩
  cases a with
  | true => exact iteT (h2 rfl B1 H1 σ (g.grow G1) _ fun v B2 H2 G2 R => q v B2 H2 (G1.trans G2) (res_py R.1))
  | false => exact iteF (q _ B1 H1 G1 (res_py (.bl false)))
theorem es_orV {a : Bool} (h1 : Es K ta ρ (.py (.bool a))) (h2 : a = false → Es K tb ρ (.py (.bool b))) : Es K (tOrV ta tb) ρ (.py (.bool (a || b))) := fun B H σ g Q q => h1 B H σ g _ fun v B1 H1 G1 R => by
  have R := R.1
  cases R
  refine ⟨a, rfl, ?_⟩
  cases a with
  | false => exact iteF (h2 rfl B1 H1 σ (g.grow G1) _ fun v B2 H2 G2 R => q v B2 H2 (G1.trans G2) (res_py R.1))
  | true => exact iteT (q _ B1 H1 G1 (res_py (.bl true)))
theorem es_notV (h : Es K ta ρ (.py (.bool b))) : Es K (tNotV ta) ρ (.py (.bool (!b))) := fun B H σ g Q q => h B H σ g _ fun v B1 H1 G R => by
  have R := R.1
  cases R
  exact ⟨b, rfl, q _ B1 H1 G (res_py (.bl _))⟩
theorem es_neg {i : Int} (h : Es K ta ρ (.py (.int i))) : Es K (tUn (rU fun i => .int (-i)) ta) ρ (.py (.int (-i))) := fun B H σ g Q q => h B H σ g _ fun v B1 H1 G R => by
  have R := R.1
  cases R
  exact ⟨i, rfl, q _ B1 H1 G (res_py (.int _))⟩
theorem es_len {n : Int} (h : Ep K te ρ d) (l : Len d n) : Es K (tCB (rLen K) (tCons te tNil)) ρ (.py (.int n)) := fun B H σ g Q q =>
  h B H σ g _ fun x B1 H1 G1 hx => ⟨x, d, n, rfl, hx, l, q _ B1 H1 G1 (res_py (.int n))⟩
theorem es_isi {n m : String} (h : Ep K te ρ d) (hm : Es K ta ρ (.at (.ty m))) (k : Kind d n) (e : kitB n m = some b) : Es K (tCB (rIsiB K) (tCons te (tCons ta tNil))) ρ (.py (.bool b)) := fun B H σ g Q q =>
  h B H σ g _ fun x B1 H1 G1 hx => hm B1 H1 σ (g.grow G1) _ fun y B2 H2 G2 hy => by
    have hy : y = .ty m := hy.1
    subst hy
    exact ⟨x, d, n, m, b, rfl, Dp.mono G2.h d x hx, k, e, q _ B2 H2 (G1.trans G2) (res_py (.bl b))⟩
theorem es_isi2 {t1 t2 : TE} {n m1 m2 : String} {b1 b2 : Bool} (h : Ep K te ρ d) (h1 : Es K t1 ρ (.at (.ty m1))) (h2 : Es K t2 ρ (.at (.ty m2))) (k : Kind d n) (e1 : kitB n m1 = some b1) (e2 : kitB n m2 = some b2) :
    Es K (tCB (rIsi2 K) (tCons te (tCons (tTup (tCons t1 (tCons t2 tNil))) tNil))) ρ (.py (.bool (b1 || b2))) := fun B H σ g Q q =>
  h B H σ g _ fun x B1 H1 x1 hx => h1 B1 H1 σ (g.grow x1) _ fun y B2 H2 x2 hy => h2 B2 H2 σ (g.grow (x1.trans x2)) _ fun z B3 H3 x3 hz => by
    have hy : y = .ty m1 := hy.1
    have hz : z = .ty m2 := hz.1
    subst hy
    subst hz
    refine ⟨by show 2 ≤ sizeLine; decide, fun p hp => ?_⟩
    have G4 := Grow.new (o := .tup [.ty m1, .ty m2]) x3.two hp
    exact ⟨x, d, n, p, m1, m2, b1, b2, rfl, upd_same, Dp.mono (x2.h.trans (x3.h.trans G4.h)) d x hx, k, e1, e2, q _ _ _ (x1.trans (x2.trans (x3.trans G4))) (res_py (.bl _))⟩
/-- all(list of truths) -/
theorem es_all {bs : List Bool} (h : Es K te ρ (.py (.list (bs.map PyData.bool)))) : Es K (tCB (rAll K) (tCons te tNil)) ρ (.py (.bool (bs.all id))) := fun B H σ g Q q =>
  h B H σ g _ fun x B1 H1 G R => by
    have R := Dp.up G.two R.1
    cases R with
    | @lst a xs _ s1 a1 =>
      rw [DpAll.bls_inv a1] at s1
      exact ⟨a, bs, rfl, s1, q _ B1 H1 G (res_py (.bl _))⟩
/-- "..".join(list of texts) -/
theorem es_join {to : TE} {z : Str} {ys : List Str} (ho : Es K to ρ (.py (.str z))) (h : Es K te ρ (.py (.list (ys.map PyData.str)))) (hl : (ys.map (·.length)).sum + ys.length * z.length ≤ 16777216) :
    Es K (tM1 (fun x xs H Q => ∃ a p, ∃ ys : List Str, x = .str a ∧ xs = [.ref p] ∧ (SqL K H p (ys.map V.str) ∨ SqT K H p (ys.map V.str)) ∧ (ys.map (·.length)).sum + ys.length * a.length ≤ 16777216 ∧ Q (.str (Txt.join a ys)) H) to te) ρ (.py (.str (Txt.join z ys))) := fun B H σ g Q q =>
  ho B H σ g _ fun x B1 H1 G1 hx => by
    have hx := hx.1
    cases hx
    refine ⟨⟨z, rfl⟩, ?_⟩
    refine h B1 H1 σ (g.grow G1) _ fun y B2 H2 G2 R => ?_
    have R := Dp.up G2.two R.1
    cases R with
    | @lst a xs _ s1 a1 =>
      rw [DpAll.strs_inv a1] at s1
      exact ⟨z, a, ys, rfl, rfl, .inl s1, hl, q _ B2 H2 (G1.trans G2) (res_py (.str _))⟩
/-- list(xs): a copy -/
theorem es_listOf {ds : List PyData} (h : Es K te ρ (.py (.list ds))) : Es K (tCB (fun xs H Q => ∃ p ys, xs = [V.ref p] ∧ (SqL K H p ys ∨ SqT K H p ys) ∧ ∀ l, H l = none → Q (.ref l) (upd H l (.lst ys))) (tCons te tNil)) ρ (.own ds) := fun B H σ g Q q =>
  h B H σ g _ fun x B1 H1 G1 R => by
    have R := R.1
    cases R with
    | @lst a xs _ s1 a1 =>
      refine ⟨a, xs, rfl, .inl (Evl.ex_l G1.two.sub s1), fun l hl => ?_⟩
      have G2 := Grow.own (o := .lst xs) G1.two hl (.inl ⟨xs, rfl⟩)
      exact q _ _ _ (G1.trans G2) ⟨⟨l, xs, rfl, G1.two.free hl, upd_same, a1⟩, fun _ => ⟨l, rfl, G1.free hl⟩⟩
end

/-! ### list comprehensions with one clause, no condition -/
section
variable {K : PySem.W.Frag} {ρ : Rho} {te tl : TE}
/-- ρ with the names of the comprehension forgotten -/
def wipeR (ρ : Rho) (vs : List Nat) : Rho := vs.foldr (fun i r => r.set i none) ρ
theorem Sg.wipe {B H : Hp} {σ : St} (h : Sg K B H σ ρ) : ∀ (vs : List Nat), Sg K B H (L2.wipe σ vs) (wipeR ρ vs)
  | [] => h
  | v :: vs => Sg.forget v (Sg.wipe h vs)
theorem wipe_set {σ : St} {j : Nat} {x : V} : L2.wipe ((L2.wipe σ [j]).set j (some x)) [j] = L2.wipe σ [j] := by
  show (((σ.set j none).set j (some x)).set j none) = σ.set j none
  rw [List.set_set, List.set_set]
/-- an own cell is written -/
theorem Grow.put {B H B' H' : Hp} {D : Addr} {o : HO} (G : Grow B H B' H') (h : H D = none) (hb : B' D = none) (ho : OwnO o) : Grow B H B' (upd H' D o) where
  b := G.b
  h := Evl.Ex.mut G.h h
  two := ⟨fun q u e => by
      have z : q ≠ D := fun z => by subst z; rw [hb] at e; cases e
      rw [upd_ne z]; exact G.two.sub q u e,
    fun q u e1 e2 => by
      by_cases z : q = D
      · subst z; rw [upd_same] at e1; cases e1; exact ho
      · rw [upd_ne z] at e1; exact G.two.out q u e1 e2⟩
  out := G.out
/-- a comprehension so far -/
def Filled (K : PySem.W.Frag) (B H : Hp) (D : Addr) (ds : List PyData) (H' : Hp) : Prop := ∃ B' xs, Grow B H B' H' ∧ B' D = none ∧ H' D = some (.lst xs) ∧ DpAll K B' xs ds
theorem Filled.start {B H : Hp} (t : Two B H) {D : Addr} (hD : H D = none) : Filled K B H D [] (upd H D (.lst [])) :=
  ⟨B, [], Grow.own t hD (.inl ⟨[], rfl⟩), t.free hD, upd_same, .nil⟩
theorem Filled.more {B H H2 B3 H3 : Hp} {D : Addr} {ds : List PyData} {d : PyData} {v : V} {B2 : Hp} {xs : List V} (hD : H D = none) (G : Grow B H B2 H2) (hb : B2 D = none) (hL : H2 D = some (.lst xs)) (a : DpAll K B2 xs ds) (G3 : Grow B2 H2 B3 H3) (hv : Dp K B3 v d) :
    Filled K B H D (ds ++ [d]) (upd H3 D (.lst (xs ++ [v]))) :=
  have hb3 : B3 D = none := G3.out D hb (by rw [hL]; simp)
  ⟨B3, xs ++ [v], (G.trans G3).put hD hb3 (.inl ⟨_, rfl⟩), hb3, upd_same, DpAll.snoc_of (DpAll.mono G3.b _ _ a) hv⟩
theorem Filled.own {B H H2 : Hp} {D : Addr} {ds : List PyData} (hD : H D = none) (h : Filled K B H D ds H2) : ∃ B2, Grow B H B2 H2 ∧ Res K H B2 H2 (.ref D) (.own ds) :=
  let ⟨B2, xs, G, hb, hL, a⟩ := h
  ⟨B2, G, ⟨D, xs, rfl, hb, hL, a⟩, fun _ => ⟨D, rfl, hD⟩⟩
/-- over range(n) -/
theorem es_lcR {ta : TA} {j : Nat} {n : Int} (f : Nat → PyData) (h : Ea K ta ρ [.py (.int n)]) (hn : -1000 ≤ n ∧ n ≤ 1000) (he : ∀ i : Nat, (i : Int) < n → Es K te ((wipeR ρ [j]).set j (some (.py (.int (i : Int))))) (.py (f i))) :
    Es K (tLc (iRng1 ta) (gName j) tYes te [j]) ρ (.own ((List.range n.toNat).map f)) := fun B H σ g Q q =>
  h B H σ g _ fun vs B1 H1 G1 hv => by
    obtain ⟨v, rfl, hw⟩ := is1 hv
    have hw : Dp K B1 v (.int n) := hw
    have hv : v = .int n := by cases hw; rfl
    subst hv
    refine ⟨n, rfl, Int.le_trans (by decide) hn.1, Int.lt_of_le_of_lt hn.2 (by decide), fun D hD => ?_⟩
    refine lc_range (lo := 0) (n := n.toNat) (fun i H2 => Filled K B1 H1 D ((List.range i).map f) H2) (Filled.start G1.two hD) ?_ ?_
    · rintro i H2 hi ⟨B2, xs, G2, hb, hL, hA⟩
      have g2 : Sg K B2 H2 ((L2.wipe σ [j]).set j (some (.int (0 + (i : Int))))) ((wipeR ρ [j]).set j (some (.py (.int (i : Int))))) :=
        Sg.set (H0 := H) j (Sg.wipe (g.grow (G1.trans G2)) [j]) (by rw [Int.zero_add]; exact Dp.int _) (fun z => by cases z)
      refine ⟨wipe_set, ?_⟩
      unfold tYes
      simp only [if_true]
      refine he i (by omega) B2 H2 _ g2 _ fun v B3 H3 G3 hv => ?_
      have hlen := DpAll.length hA
      simp at hlen
      refine ⟨xs, G3.h _ _ hL, Nat.lt_of_le_of_lt (m := 1000) (by omega) (by decide), ?_⟩
      have := Filled.more hD G2 hb hL hA G3 hv.1
      rw [List.range_succ, List.map_append]
      exact this
    · intro H2 hF
      obtain ⟨B2, G2, R⟩ := hF.own hD
      exact q _ B2 _ (G1.trans G2) ⟨R.1, fun _ => ⟨D, rfl, G1.free hD⟩⟩
/-- over a list of data -/
theorem es_lcL {j : Nat} {ds : List PyData} (f : PyData → PyData) (h : Es K tl ρ (.py (.list ds))) (hz : ds.length ≤ 1000) (he : ∀ d ∈ ds, Es K te ((wipeR ρ [j]).set j (some (.py d))) (.py (f d))) :
    Es K (tLc (iList K tl) (gName j) tYes te [j]) ρ (.own (ds.map f)) := fun B H σ g Q q =>
  h B H σ g _ fun v B1 H1 G1 hv => by
    have hv := hv.1
    cases hv with
    | @lst a ys _ s1 a1 =>
      refine ⟨a, rfl, ⟨ys, Evl.ex_l G1.two.sub s1⟩, fun D hD => ?_⟩
      have hlen := DpAll.length a1
      refine lc_list (K := K) (a := a) (xs := ys) (fun i H2 => Filled K B1 H1 D ((ds.take i).map f) H2) (Filled.start G1.two hD) (fun i H2 _ ⟨_, _, G2, _⟩ => Evl.ex_l (G1.two.sub.trans G2.h) s1) ?_ ?_
      · rintro i x H2 hi ⟨B2, xs, G2, hb, hL, hA⟩
        have hil : i < ds.length := by rw [← hlen]; exact (List.getElem?_eq_some_iff.mp hi).1
        have hdi : ds[i]? = some ds[i] := List.getElem?_eq_getElem hil
        obtain ⟨x', hx', hd⟩ := DpAll.get a1 hdi
        rw [hi] at hx'; cases hx'
        have g2 : Sg K B2 H2 ((L2.wipe σ [j]).set j (some x)) ((wipeR ρ [j]).set j (some (.py ds[i]))) := Sg.set (H0 := H) j (Sg.wipe (g.grow (G1.trans G2)) [j]) (Dp.mono G2.b _ _ hd) (fun z => by cases z)
        refine ⟨wipe_set, ?_⟩
        unfold tYes
        simp only [if_true]
        have hmem : ds[i] ∈ ds := List.getElem_mem hil
        refine he _ hmem B2 H2 _ g2 _ fun v B3 H3 G3 hv => ?_
        have hlen := DpAll.length hA
        simp at hlen
        refine ⟨xs, G3.h _ _ hL, Nat.lt_of_le_of_lt (m := 1000) (by omega) (by decide), ?_⟩
        have := Filled.more hD G2 hb hL hA G3 hv.1
        rw [List.take_succ, hdi, List.map_append]
        exact this
      · intro H2 hF
        rw [hlen, List.take_length] at hF
        obtain ⟨B2, G2, R⟩ := hF.own hD
        exact q _ B2 _ (G1.trans G2) ⟨R.1, fun _ => ⟨D, rfl, G1.free hD⟩⟩
end
end Wk

/-! Bodies over data: statements, loops, defs, calls of defs. -/
namespace Wk
open PySem L2
open Evl (Ex)

/-! ### dicts of data -/
def dLook : List (Key × PyData) → Key → Option PyData
  | [], _ => none
  | p :: r, k => if p.1 = k then some p.2 else dLook r k
def dPut : List (Key × PyData) → Key → PyData → List (Key × PyData)
  | [], k, d => [(k, d)]
  | p :: r, k, d => if p.1 = k then (p.1, d) :: (if (dLook r k).isSome then dPut r k d else r) else p :: dPut r k d
theorem dLook_put : ∀ (l : List (Key × PyData)) (k j : Key) (d : PyData), dLook (dPut l k d) j = if j = k then some d else dLook l j
  | [], k, j, d => by
    simp only [dPut, dLook]
    by_cases e : j = k
    · subst e; simp
    · have : ¬ k = j := fun z => e z.symm
      simp [e, this]
  | p :: r, k, j, d => by
    have ih := dLook_put r k j d
    unfold dPut
    by_cases e : p.1 = k
    · simp only [e, if_true, dLook]
      by_cases ej : j = k
      · subst ej; simp
      · have : ¬ k = j := fun z => ej z.symm
        simp only [ej, this, if_false]
        split
        · rw [ih, if_neg ej]
        · rfl
    · simp only [e, if_false, dLook]
      by_cases ej : p.1 = j
      · have : ¬ j = k := fun z => e (ej.trans z)
        simp [ej, this]
      · simp only [ej, if_false, ih]
theorem DpKV.look {K : PySem.W.Frag} {B : Hp} : ∀ {r : List (Key × V)} {s : List (Key × PyData)} (k : Key), DpKV K B r s → (valV r k = none ∧ dLook s k = none) ∨ ∃ v d, valV r k = some v ∧ dLook s k = some d ∧ Dp K B v d
  | [], [], k, _ => .inl ⟨rfl, rfl⟩
  | (a, v) :: r, (b, d) :: s, k, h => by
    obtain ⟨rfl, h1, h2⟩ := h
    by_cases e : a = k
    · exact .inr ⟨v, d, valV_pos e, by simp [dLook, e], h1⟩
    · have := DpKV.look k h2
      rw [valV_neg (p := (a, v)) e]
      simpa [dLook, e] using this
  | [], (_, _) :: _, _, h => h.elim
  | (_, _) :: _, [], _, h => h.elim
theorem DpKV.len {K : PySem.W.Frag} {B : Hp} : ∀ {r : List (Key × V)} {s : List (Key × PyData)}, DpKV K B r s → r.length = s.length
  | [], [], _ => rfl
  | (_, _) :: _, (_, _) :: _, h => congrArg (· + 1) (DpKV.len h.2.2)
  | [], (_, _) :: _, h => h.elim
  | (_, _) :: _, [], h => h.elim
theorem DpKV.map {K : PySem.W.Frag} {B : Hp} {k : Key} {v : V} {d : PyData} (hv : Dp K B v d) : ∀ {r : List (Key × V)} {s : List (Key × PyData)}, DpKV K B r s → DpKV K B (r.map fun kv => if kv.1 = k then (kv.1, v) else kv) (s.map fun kv => if kv.1 = k then (kv.1, d) else kv)
  | [], [], _ => trivial
  | (a, x) :: r, (b, y) :: s, h => by
    obtain ⟨rfl, h1, h2⟩ := h
    simp only [List.map_cons]
    by_cases e : a = k
    · simp only [e, if_true]; exact ⟨rfl, hv, DpKV.map hv h2⟩
    · simp only [e, if_false]; exact ⟨rfl, h1, DpKV.map hv h2⟩
  | [], (_, _) :: _, h => h.elim
  | (_, _) :: _, [], h => h.elim
theorem DpKV.snoc {K : PySem.W.Frag} {B : Hp} {k : Key} {v : V} {d : PyData} (hv : Dp K B v d) : ∀ {r : List (Key × V)} {s : List (Key × PyData)}, DpKV K B r s → DpKV K B (r ++ [(k, v)]) (s ++ [(k, d)])
  | [], [], _ => ⟨rfl, hv, trivial⟩
  | (_, _) :: _, (_, _) :: _, h => ⟨h.1, h.2.1, DpKV.snoc hv h.2.2⟩
  | [], (_, _) :: _, h => h.elim
  | (_, _) :: _, [], h => h.elim
/-- the pairs behind d[k] = x -/
def dSet (l : List (Key × PyData)) (k : Key) (d : PyData) : List (Key × PyData) := if (dLook l k).isSome then l.map (fun kv => if kv.1 = k then (kv.1, d) else kv) else l ++ [(k, d)]
theorem dLook_map (k j : Key) (d : PyData) : ∀ l : List (Key × PyData), dLook (l.map fun kv => if kv.1 = k then (kv.1, d) else kv) j = if j = k then (dLook l j).map fun _ => d else dLook l j
  | [] => by simp [dLook]
  | p :: r => by
    have ih := dLook_map k j d r
    simp only [List.map_cons]
    by_cases e : p.1 = k
    · simp only [e, if_true, dLook]
      by_cases ej : j = k
      · subst ej; simp
      · have : ¬ k = j := fun z => ej z.symm
        simp only [ej, this, if_false]
        rw [ih, if_neg ej]
    · simp only [e, if_false, dLook]
      by_cases ej : p.1 = j
      · have : ¬ j = k := fun z => e (ej.trans z)
        simp [ej, this]
      · simp only [ej, if_false, ih]
theorem dLook_snoc (k j : Key) (d : PyData) : ∀ l : List (Key × PyData), dLook l k = none → dLook (l ++ [(k, d)]) j = if j = k then some d else dLook l j
  | [], _ => by
    simp only [List.nil_append, dLook]
    by_cases e : j = k
    · subst e; simp
    · have : ¬ k = j := fun z => e z.symm
      simp [e, this]
  | p :: r, h => by
    simp only [dLook] at h
    by_cases e : p.1 = k
    · simp [e] at h
    · simp only [e, if_false] at h
      have ih := dLook_snoc k j d r h
      simp only [List.cons_append, dLook]
      by_cases ej : p.1 = j
      · have : ¬ j = k := fun z => e (ej.trans z)
        simp [ej, this]
      · simp only [ej, if_false, ih]
theorem dLook_set (l : List (Key × PyData)) (k j : Key) (d : PyData) : dLook (dSet l k d) j = if j = k then some d else dLook l j := by
  unfold dSet
  split
  · rename_i h
    rw [dLook_map]
    by_cases e : j = k
    · subst e
      obtain ⟨x, hx⟩ := Option.isSome_iff_exists.mp h
      simp [hx]
    · simp [e]
  · rename_i h
    exact dLook_snoc k j d l (by cases e : dLook l k with
      | none => rfl
      | some x => rw [e] at h; simp at h)
theorem DpKV.put {K : PySem.W.Frag} {B : Hp} {k : Key} {v : V} {d : PyData} {r : List (Key × V)} {s : List (Key × PyData)} (h : DpKV K B r s) (hv : Dp K B v d) : DpKV K B (putK r k v) (dSet s k d) := by
  unfold putK dSet
  rw [valV_any]
  rcases h.look k with ⟨h1, h2⟩ | ⟨x, y, h1, h2, _⟩
  · rw [h1, h2]; simp; exact h.snoc hv
  · rw [h1, h2]; simp; exact h.map hv
theorem dSet_len (l : List (Key × PyData)) (k : Key) (d : PyData) : (dSet l k d).length ≤ l.length + 1 := by
  unfold dSet; split
  · rw [List.length_map]; omega
  · simp

/-! ### what a body comes to -/
inductive Out where
  | nx (ρ : Rho)
  | rt (s : Sl)
  | bk (ρ : Rho)
  | ct (ρ : Rho)
def Post (K : PySem.W.Frag) (B : Hp) (D : Ends) : Out → Prop
  | .nx ρ' => ∀ B' H' σ', Ex B B' → Sg K B' H' σ' ρ' → D.nx σ' H'
  | .rt s => ∀ v B' H', Ex B B' → Two B' H' → Is K B' H' v s → D.rt v H'
  | .bk ρ' => ∀ B' H' σ', Ex B B' → Sg K B' H' σ' ρ' → D.bk σ' H'
  | .ct ρ' => ∀ B' H' σ', Ex B B' → Sg K B' H' σ' ρ' → D.ct σ' H'
theorem Post.later {K : PySem.W.Frag} {B B1 : Hp} {D : Ends} (e : Ex B B1) : ∀ {o : Out}, Post K B D o → Post K B1 D o
  | .nx _, p => fun B' H' σ' e' => p B' H' σ' (e.trans e')
  | .rt _, p => fun v B' H' e' => p v B' H' (e.trans e')
  | .bk _, p => fun B' H' σ' e' => p B' H' σ' (e.trans e')
  | .ct _, p => fun B' H' σ' e' => p B' H' σ' (e.trans e')
def Sx (K : PySem.W.Frag) (t : TS) (ρ : Rho) (o : Out) : Prop := ∀ B H σ D, Sg K B H σ ρ → Post K B D o → t D σ H
def Out.goes : Out → Bool
  | .nx _ => true
  | _ => false
section
variable {K : PySem.W.Frag} {ρ ρ' ρ1 ρ2 : Rho} {te tl : TE} {c : TT} {t u tb : TS} {o : Out} {s : Sl} {d : PyData} {b : Bool}
theorem Sx.is {o' : Out} (h : Sx K t ρ o) (e : o = o') : Sx K t ρ o' := e ▸ h
theorem sx_next : Sx K tNext ρ (.nx ρ) := fun B H σ D g p => p B H σ (Evl.Ex.refl B) g
theorem sx_brk : Sx K tBreak ρ (.bk ρ) := fun B H σ D g p => p B H σ (Evl.Ex.refl B) g
theorem sx_cont : Sx K tCont ρ (.ct ρ) := fun B H σ D g p => p B H σ (Evl.Ex.refl B) g
theorem sx_seq (h1 : Sx K t ρ (.nx ρ')) (h2 : Sx K u ρ' o) : Sx K (tSeq t u) ρ o := fun B H σ D g p =>
  h1 B H σ { D with nx := u D } g fun B' H' σ' e g' => h2 B' H' σ' D g' (p.later e)
theorem sx_stop (h1 : Sx K t ρ o) (ho : o.goes = false) : Sx K (tSeq t u) ρ o := fun B H σ D g p =>
  h1 B H σ { D with nx := u D } g (by cases o with
    | nx => cases ho
    | rt => exact p
    | bk => exact p
    | ct => exact p)
theorem sx_if (h : Et K c ρ b) (h1 : b = true → Sx K t ρ o) (h2 : b = false → Sx K u ρ o) : Sx K (tIfS c t u) ρ o := fun B H σ D g p =>
  h B H σ g _ fun B1 H1 G => by
    cases b with
    | true => exact iteT (h1 rfl B1 H1 σ D (g.grow G) (p.later G.b))
    | false => exact iteF (h2 rfl B1 H1 σ D (g.grow G) (p.later G.b))
/-- an if with something behind -/
theorem sx_ifs (h : Et K c ρ b) (h1 : b = true → Sx K (tSeq t tb) ρ o) (h2 : b = false → Sx K (tSeq u tb) ρ o) : Sx K (tSeq (tIfS c t u) tb) ρ o := fun B H σ D g p =>
  h B H σ g _ fun B1 H1 G => by
    cases b with
    | true => exact iteT (h1 rfl B1 H1 σ D (g.grow G) (p.later G.b))
    | false => exact iteF (h2 rfl B1 H1 σ D (g.grow G) (p.later G.b))
theorem sx_ifY (h : Et K c ρ b) (hb : b = true) (h1 : Sx K (tSeq t tb) ρ o) : Sx K (tSeq (tIfS c t u) tb) ρ o := sx_ifs h (fun _ => h1) fun z => by rw [hb] at z; cases z
theorem sx_ifN (h : Et K c ρ b) (hb : b = false) (h1 : Sx K tb ρ o) : Sx K (tSeq (tIfS c t tNext) tb) ρ o := sx_ifs h (fun z => by rw [hb] at z; cases z) fun _ => sx_seq sx_next h1
theorem sx_ifN' (h : Et K c ρ b) (hb : b = false) (h1 : Sx K (tSeq u tb) ρ o) : Sx K (tSeq (tIfS c t u) tb) ρ o := sx_ifs h (fun z => by rw [hb] at z; cases z) fun _ => h1
theorem sx_if1Y (h : Et K c ρ b) (hb : b = true) (h1 : Sx K t ρ o) : Sx K (tIfS c t u) ρ o := sx_if h (fun _ => h1) fun z => by rw [hb] at z; cases z
theorem sx_if1N (h : Et K c ρ b) (hb : b = false) (h1 : Sx K u ρ o) : Sx K (tIfS c t u) ρ o := sx_if h (fun z => by rw [hb] at z; cases z) fun _ => h1
theorem sx_retS (h : Es K te ρ s) : Sx K (tSeq (tRet te) u) ρ (.rt s) := sx_stop (fun B H σ D g p => h B H σ g _ fun v B1 H1 G R => p v B1 H1 G.b G.two R.1) rfl
theorem sx_skip (h : Sx K u ρ o) : Sx K (tSeq tNext u) ρ o := sx_seq sx_next h
theorem sx_ret (h : Es K te ρ s) : Sx K (tRet te) ρ (.rt s) := fun B H σ D g p => h B H σ g _ fun v B1 H1 G R => p v B1 H1 G.b G.two R.1
theorem sx_retN : Sx K tRetN ρ (.rt (.py .none)) := fun B H σ D g p => p .non B H (Evl.Ex.refl B) g.two .non
theorem sx_retOwn {i : Nat} (h : ρ[i]? = some (some s)) : Sx K (tRet (tVar i)) ρ (.rt s) := fun B H σ D g p => by
  obtain ⟨v, h1, h2⟩ := g.has i _ h
  exact ⟨v, h1, p v B H (Evl.Ex.refl B) g.two h2⟩
theorem sx_asg {i : Nat} (h : Es K te ρ s) : Sx K (tAsg te (gName i)) ρ (.nx (ρ.set i (some s))) := fun B H σ D g p => h B H σ g _ fun v B1 H1 G R =>
  p B1 H1 _ G.b ((g.grow G).res (H0 := H) i G.h (fun j t hj ht q e => g.owns j t hj ht q e) R)
theorem sx_drop (h : Es K te ρ s) : Sx K (tDrop te) ρ (.nx ρ) := fun B H σ D g p => h B H σ g _ fun v B1 H1 G R => p B1 H1 σ G.b (g.grow G)
/-! targets -/
def Tg (K : PySem.W.Frag) (g : TG) (d : PyData) (ρ ρ' : Rho) : Prop := ∀ B H σ v Q, Sg K B H σ ρ → Dp K B v d → (∀ σ', Sg K B H σ' ρ' → Q σ' H) → g v σ H Q
def Tgs (K : PySem.W.Frag) (g : TGs) (ds : List PyData) (ρ ρ' : Rho) : Prop := ∀ B H σ vs Q, Sg K B H σ ρ → DpAll K B vs ds → (∀ σ', Sg K B H σ' ρ' → Q σ' H) → g vs σ H Q
theorem tg_name {i : Nat} : Tg K (gName i) d ρ (ρ.set i (some (.py d))) := fun B H σ v Q g hv q => q _ (g.set (H0 := H) i hv fun z => by cases z)
theorem tgs_nil : Tgs K gNil [] ρ ρ := fun B H σ vs Q g hv q => by cases hv; exact ⟨rfl, q σ g⟩
theorem tgs_cons {tg : TG} {tgs : TGs} {ds : List PyData} (h1 : Tg K tg d ρ ρ1) (h2 : Tgs K tgs ds ρ1 ρ2) : Tgs K (gCons tg tgs) (d :: ds) ρ ρ2 := fun B H σ vs Q g hv q => by
  cases hv with
  | cons a r => exact ⟨_, _, rfl, h1 B H σ _ _ g a fun σ' g' => h2 B H σ' _ _ g' r q⟩
theorem tg_tup {n : Nat} {tgs : TGs} {ds : List PyData} (h : Tgs K tgs ds ρ ρ') (hn : ds.length = n) : Tg K (gTup K n tgs) (.tuple ds) ρ ρ' := fun B H σ v Q g hv q => by
  cases hv with
  | @tup a xs _ s1 a1 => exact ⟨a, xs, rfl, Evl.ex_t g.two.sub s1, (DpAll.length a1).trans hn, h B H σ _ _ g a1 q⟩
theorem sx_asgT {tg : TG} (h : Es K te ρ (.py d)) (ht : Tg K tg d ρ ρ') : Sx K (tAsg te tg) ρ (.nx ρ') := fun B H σ D g p => h B H σ g _ fun v B1 H1 G R =>
  ht B1 H1 σ v _ (g.grow G) R.1 fun σ' g' => p B1 H1 σ' G.b g'
/-! one's own lists and dicts -/
theorem Sg.put {B H : Hp} {σ : St} {i : Nat} {p : Addr} {u : HO} {s' : Sl} (g : Sg K B H σ ρ) (hs : ρ[i]? = some (some s)) (hso : s.isOwn = true) (hi : σ[i]? = some (some (.ref p))) (hb : B p = none) (hn : s'.isOwn = true) (hu : OwnO u) (hI : Is K B (upd H p u) (.ref p) s') : Sg K B (upd H p u) σ (ρ.set i (some s')) := by
  have other : ∀ j t, j ≠ i → ρ[j]? = some (some t) → ∀ v, σ[j]? = some (some v) → Is K B H v t → Is K B (upd H p u) v t := fun j t hj ht v hv h => by
    cases t with
    | py d => exact h
    | «at» x => exact h
    | own ds =>
      obtain ⟨q, xs, rfl, hq, hh, a⟩ := h
      have ne : q ≠ p := fun z => by
        subst z
        exact hj (g.one j i _ s ht hs rfl hso (by rw [hv, hi]))
      exact ⟨q, xs, rfl, hq, by rw [upd_ne ne]; exact hh, a⟩
    | dct ds =>
      obtain ⟨q, xs, rfl, hq, hh, a⟩ := h
      have ne : q ≠ p := fun z => by
        subst z
        exact hj (g.one j i _ s ht hs rfl hso (by rw [hv, hi]))
      exact ⟨q, xs, rfl, hq, by rw [upd_ne ne]; exact hh, a⟩
  refine ⟨⟨fun q o e => ?_, fun q o e1 e2 => ?_⟩, by rw [List.length_set]; exact g.len, fun j t hj => ?_, fun j k t x hj hk ht hx e => ?_⟩
  · have ne : q ≠ p := fun z => by subst z; rw [hb] at e; cases e
    rw [upd_ne ne]; exact g.two.sub q o e
  · by_cases z : q = p
    · subst z; rw [upd_same] at e1; cases e1; exact hu
    · rw [upd_ne z] at e1; exact g.two.out q o e1 e2
  · rcases set_cases hj with ⟨rfl, e, hl⟩ | ⟨ne, hj⟩
    · cases e; exact ⟨_, hi, hI⟩
    · obtain ⟨v, h1, h2⟩ := g.has j t hj
      exact ⟨v, h1, other j t (fun z => ne z.symm) hj v h1 h2⟩
  · rcases set_cases hj with ⟨rfl, e1, hl⟩ | ⟨n1, hj⟩ <;> rcases set_cases hk with ⟨rfl, e2, hl2⟩ | ⟨n2, hk⟩
    · rfl
    · exact g.one i k s x hs hk hso hx e
    · exact g.one j i t s hj hs ht hso e
    · exact g.one j k t x hj hk ht hx e
/-- xs.append(e), xs in slot i -/
theorem sx_app {i : Nat} {ds : List PyData} (hi : ρ[i]? = some (some (.own ds))) (h : Es K te ρ (.py d)) (hl : ds.length < 100000) : Sx K (tDrop (tBM K "list" rAppend (tVar i) (tCons te tNil))) ρ (.nx (ρ.set i (some (.own (ds ++ [d]))))) := fun B H σ D g p => by
  obtain ⟨v, h1, q, xs, rfl, hb, hh, a⟩ := g.has i _ hi
  refine ⟨_, h1, .inl ⟨rfl, _, SqL.of hh⟩, ?_⟩
  refine h B H σ g _ fun w B1 H1 G R => ?_
  have g1 := g.grow G
  obtain ⟨v', h1', q', xs', e', hb', hh', a'⟩ := g1.has i _ hi
  rw [h1] at h1'; cases h1'; cases e'
  refine ⟨q, xs', w, rfl, rfl, hh', by rw [DpAll.length a']; exact Nat.lt_of_lt_of_le hl (by decide), ?_⟩
  exact p B1 _ σ G.b (g1.put hi rfl h1 hb' rfl (.inl ⟨_, rfl⟩) ⟨q, _, rfl, hb', upd_same, DpAll.snoc_of a' R.1⟩)
/-- d[k] = e, d in slot i -/
theorem sx_dput {i : Nat} {kvs : List (Key × PyData)} {k : Key} {dk : PyData} {tk : TE} (hi : ρ[i]? = some (some (.dct kvs))) (h : Es K te ρ (.py d)) (hk : Es K tk ρ (.py dk)) (ek : ∀ (B : Hp) v, Dp K B v dk → v = kV k) (hl : kvs.length < 100000) : Sx K (sDPut (tVar i) tk te) ρ (.nx (ρ.set i (some (.dct (dSet kvs k d))))) := fun B H σ D g p => by
  refine h B H σ g _ fun w B1 H1 G R => ?_
  have g1 := g.grow G
  obtain ⟨v', h1', q', xs', e', hb', hh', a'⟩ := g1.has i _ hi
  subst e'
  refine ⟨_, h1', ?_⟩
  refine hk B1 H1 σ g1 _ fun y B2 H2 G2 R2 => ?_
  have g2 := g1.grow G2
  obtain ⟨v2, h2, q2, xs2, e2, hb2, hh2, a2⟩ := g2.has i _ hi
  rw [h1'] at h2; cases h2; cases e2
  have ey := ek _ _ R2.1
  subst ey
  refine ⟨q', _, rfl, DPut.k hh2 (by rw [a2.len]; exact Nat.lt_of_lt_of_le hl (by decide)), ?_⟩
  exact p B2 _ σ (G.b.trans G2.b) (g2.put hi rfl h1' hb2 rfl (.inr ⟨_, rfl⟩) ⟨q', _, rfl, hb2, upd_same, a2.put (Dp.mono G2.b _ _ R.1)⟩)
theorem es_dget2 {i : Nat} {kvs : List (Key × PyData)} {k : Key} {dk x : PyData} {tk tx : TE} (hi : ρ[i]? = some (some (.dct kvs))) (hk : Es K tk ρ (.py dk)) (ek : ∀ (B : Hp) v, Dp K B v dk → v = kV k) (hx : Es K tx ρ (.py x)) : Es K (tDGet2 (tVar i) tk tx) ρ (.py ((dLook kvs k).getD x)) := fun B H σ g Q q => by
  obtain ⟨v, h1, p, xs, rfl, hb, hh, a⟩ := g.has i _ hi
  refine ⟨_, h1, p, rfl, .inl ⟨xs, .inl hh⟩, ?_⟩
  refine hk B H σ g _ fun y B1 H1 G1 R1 => ?_
  refine hx B1 H1 σ (g.grow G1) _ fun z B2 H2 G2 R2 => ?_
  have ey := ek _ _ R1.1
  subst ey
  have hh2 := G2.h p _ (G1.h p _ hh)
  refine ⟨_, DGet.k hh2, ?_⟩
  have a2 := DpKV.mono (G1.b.trans G2.b) a
  rcases a2.look k with ⟨e1, e2⟩ | ⟨v, d, e1, e2, hd⟩
  · rw [e1]
    refine q _ B2 H2 (G1.trans G2) (res_py ?_)
    rw [e2]
    exact R2.1
  · rw [e1]
    refine q _ B2 H2 (G1.trans G2) (res_py ?_)
    rw [e2]
    exact hd
theorem es_dget {i : Nat} {kvs : List (Key × PyData)} {k : Key} {dk r : PyData} {tk : TE} (hi : ρ[i]? = some (some (.dct kvs))) (hk : Es K tk ρ (.py dk)) (ek : ∀ (B : Hp) v, Dp K B v dk → v = kV k) (hr : dLook kvs k = some r) : Es K (tDGet (tVar i) tk) ρ (.py r) := fun B H σ g Q q => by
  obtain ⟨v, h1, p, xs, rfl, hb, hh, a⟩ := g.has i _ hi
  refine ⟨_, h1, ?_⟩
  refine hk B H σ g _ fun y B1 H1 G1 R1 => ?_
  have ey := ek _ _ R1.1
  subst ey
  have hh2 := G1.h p _ hh
  have a2 := DpKV.mono G1.b a
  rcases a2.look k with ⟨e1, e2⟩ | ⟨v, d, e1, e2, hd⟩
  · rw [hr] at e2; cases e2
  · rw [hr] at e2; cases e2
    refine ⟨p, v, rfl, by rw [← e1]; exact DGet.k hh2, q v B1 H1 G1 (res_py hd)⟩
/-- {k: e for k in a list} -/
theorem es_dcL {tk tv : TE} {j : Nat} {ds : List PyData} (kf : PyData → Key) (f : PyData → PyData) (h : Es K tl ρ (.py (.list ds))) (hz : ds.length ≤ 1000)
    (hk : ∀ d ∈ ds, ∃ dk, Es K tk ((wipeR ρ [j]).set j (some (.py d))) (.py dk) ∧ ∀ (B : Hp) v, Dp K B v dk → v = kV (kf d)) (he : ∀ d ∈ ds, Es K tv ((wipeR ρ [j]).set j (some (.py d))) (.py (f d))) :
    Es K (tDc (iList K tl) (gName j) tYes tk tv [j]) ρ (.dct (ds.foldl (fun l d => dSet l (kf d) (f d)) [])) := fun B H σ g Q q =>
  h B H σ g _ fun v B1 H1 G1 hv => by
    have hv := hv.1
    cases hv with
    | @lst a ys _ s1 a1 =>
      refine ⟨a, rfl, ⟨ys, Evl.ex_l G1.two.sub s1⟩, fun D hD => ?_⟩
      have hlen := DpAll.length a1
      have sd : ∀ (l : List PyData) (acc : List (Key × PyData)), (l.foldl (fun l d => dSet l (kf d) (f d)) acc).length ≤ acc.length + l.length := by
        intro l
        induction l with
        | nil => intro acc; simp
        | cons d l ih => intro acc; have := ih (dSet acc (kf d) (f d)); have h2 := dSet_len acc (kf d) (f d); simp only [List.foldl_cons, List.length_cons]; omega
      let Pv : Nat → Hp → Prop := fun i H2 => ∃ B2 xs, Grow B1 H1 B2 H2 ∧ B2 D = none ∧ H2 D = some (.dK xs) ∧ DpKV K B2 xs ((ds.take i).foldl (fun l d => dSet l (kf d) (f d)) [])
      have walk : ∀ i x H2, ys[i]? = some x → Pv i H2 → gName j x (L2.wipe σ [j]) H2 fun σ2 H3 => L2.wipe σ2 [j] = L2.wipe σ [j] ∧ tYes σ2 H3 fun b H4 =>
          if b = true then tk σ2 H4 fun y H5 => tv σ2 H5 fun z H6 => ∃ kvs k, y = kV k ∧ H6 D = some (.dK kvs) ∧ kvs.length < sizeLine ∧ Pv (i + 1) (upd H6 D (.dK (putK kvs k z))) else Pv (i + 1) H4 := by
        rintro i x H2 hi ⟨B2, xs, G2, hb, hL, hA⟩
        have hil : i < ds.length := by rw [← hlen]; exact (List.getElem?_eq_some_iff.mp hi).1
        have hdi : ds[i]? = some ds[i] := List.getElem?_eq_getElem hil
        obtain ⟨x', hx', hd⟩ := DpAll.get a1 hdi
        rw [hi] at hx'; cases hx'
        have g2 : Sg K B2 H2 ((L2.wipe σ [j]).set j (some x)) ((wipeR ρ [j]).set j (some (.py ds[i]))) := Sg.set (H0 := H) j (Sg.wipe (g.grow (G1.trans G2)) [j]) (Dp.mono G2.b _ _ hd) (fun z => by cases z)
        refine ⟨wipe_set, ?_⟩
        unfold tYes
        simp only [if_true]
        have hmem : ds[i] ∈ ds := List.getElem_mem hil
        obtain ⟨dk, ek, eV⟩ := hk _ hmem
        refine ek B2 H2 _ g2 _ fun y B3 H3 G3 hy => ?_
        refine he _ hmem B3 H3 _ (g2.grow G3) _ fun z B4 H4 G4 hz4 => ?_
        have ey := eV _ _ hy.1
        have hL4 : H4 D = some (.dK xs) := G4.h _ _ (G3.h _ _ hL)
        have hb4 : B4 D = none := G4.out D (G3.out D hb (by rw [hL]; simp)) (by rw [G3.h _ _ hL]; simp)
        refine ⟨xs, kf ds[i], ey, hL4, ?_, B4, _, ((G2.trans G3).trans G4).put hD hb4 (.inr ⟨_, rfl⟩), hb4, upd_same, ?_⟩
        · rw [hA.len]
          have := sd (ds.take i) []
          have h3 : (ds.take i).length ≤ 1000 := by rw [List.length_take]; omega
          refine Nat.lt_of_le_of_lt (m := 1000) ?_ (by decide)
          simp at this ⊢
          omega
        · rw [List.take_succ, hdi, List.foldl_append]
          exact (DpKV.mono (G3.b.trans G4.b) hA).put hz4.1
      have fin : ∀ H2, Pv ys.length H2 → Q (.ref D) H2 := by
        rintro H2 ⟨B2, xs, G2, hb, hL, hA⟩
        rw [hlen, List.take_length] at hA
        exact q _ B2 _ (G1.trans G2) ⟨⟨D, xs, rfl, hb, hL, hA⟩, fun _ => ⟨D, rfl, G1.free hD⟩⟩
      refine ⟨fun i m H2 => m = ys.length - i ∧ i ≤ ys.length ∧ Pv i H2, ⟨ys.length, by simp, Nat.zero_le _, B1, [], Grow.own G1.two hD (.inr ⟨[], rfl⟩), G1.two.free hD, upd_same, trivial⟩, ?_⟩
      rintro i m H2 ⟨rfl, hi, p⟩
      have hs : SqL K H2 a ys := by
        obtain ⟨B2, xs, G2, _⟩ := p
        exact Evl.ex_l (G1.two.sub.trans G2.h) s1
      by_cases hlt : i < ys.length
      · refine .inr ⟨⟨ys, ys[i], hs, by simp [hlt]⟩, Pv (i + 1), fun H' p' => ⟨ys.length - (i + 1), by omega, rfl, hlt, p'⟩, fun x H' y => ?_⟩
        obtain ⟨e, y⟩ := y
        subst e
        exact walk i x _ (y ys hs) p
      · have e : i = ys.length := by omega
        subst e
        exact .inl ⟨⟨ys, hs, Nat.le_refl _⟩, fin H2 p⟩
/-- a list of one's own stays from now on -/
theorem sx_freeze {i : Nat} {ds : List PyData} (hi : ρ[i]? = some (some (.own ds))) (h : Sx K t (ρ.set i (some (.py (.list ds)))) o) : Sx K t ρ o := fun B H σ D g p => by
  obtain ⟨v, h1, q, xs, rfl, hb, hh, a⟩ := g.has i _ hi
  have e1 : Ex B (upd B q (.lst xs)) := Evl.Ex.new hb
  have two : Two (upd B q (.lst xs)) H := ⟨fun x u e => by
      by_cases z : x = q
      · subst z; rw [upd_same] at e; cases e; exact hh
      · rw [upd_ne z] at e; exact g.two.sub x u e,
    fun x u e1 e2 => by
      by_cases z : x = q
      · subst z; rw [upd_same] at e2; cases e2
      · rw [upd_ne z] at e2; exact g.two.out x u e1 e2⟩
  refine h (upd B q (.lst xs)) H σ D ⟨two, by rw [List.length_set]; exact g.len, fun j t hj => ?_, fun j k t x hj hk ht hx e => ?_⟩ (p.later e1)
  · rcases set_cases hj with ⟨rfl, e, hl⟩ | ⟨ne, hj⟩
    · cases e
      exact ⟨_, h1, .lst (SqL.of upd_same) (DpAll.mono e1 _ _ a)⟩
    · obtain ⟨v, h3, h4⟩ := g.has j t hj
      refine ⟨v, h3, ?_⟩
      cases t with
      | py d => exact Dp.mono e1 _ _ h4
      | «at» x => exact h4
      | own es =>
        obtain ⟨y, ys, rfl, hy, hyy, ay⟩ := h4
        have n : y ≠ q := fun z => by subst z; exact ne (g.one i j _ _ hi hj rfl rfl (by rw [h1, h3]))
        exact ⟨y, ys, rfl, by rw [upd_ne n]; exact hy, hyy, DpAll.mono e1 _ _ ay⟩
      | dct es =>
        obtain ⟨y, ys, rfl, hy, hyy, ay⟩ := h4
        have n : y ≠ q := fun z => by subst z; exact ne (g.one i j _ _ hi hj rfl rfl (by rw [h1, h3]))
        exact ⟨y, ys, rfl, by rw [upd_ne n]; exact hy, hyy, DpKV.mono e1 ay⟩
  · rcases set_cases hj with ⟨rfl, e1, hl⟩ | ⟨n1, hj⟩
    · cases e1; cases ht
    rcases set_cases hk with ⟨rfl, e2, hl2⟩ | ⟨n2, hk⟩
    · cases e2; cases hx
    exact g.one j k t x hj hk ht hx e
/-! loops over a list of data -/
inductive Lp (K : PySem.W.Frag) (tg : TG) (tb : TS) : List PyData → Rho → Out → Prop where
  | nil (ρ : Rho) : Lp K tg tb [] ρ (.nx ρ)
  | more {d : PyData} {ds : List PyData} {ρ ρ1 ρ2 : Rho} {o : Out} (h : Tg K tg d ρ ρ1) (hb : Sx K tb ρ1 (.nx ρ2)) (r : Lp K tg tb ds ρ2 o) : Lp K tg tb (d :: ds) ρ o
  | cont {d : PyData} {ds : List PyData} {ρ ρ1 ρ2 : Rho} {o : Out} (h : Tg K tg d ρ ρ1) (hb : Sx K tb ρ1 (.ct ρ2)) (r : Lp K tg tb ds ρ2 o) : Lp K tg tb (d :: ds) ρ o
  | brk {d : PyData} {ds : List PyData} {ρ ρ1 ρ2 : Rho} (h : Tg K tg d ρ ρ1) (hb : Sx K tb ρ1 (.bk ρ2)) : Lp K tg tb (d :: ds) ρ (.nx ρ2)
  | ret {d : PyData} {ds : List PyData} {ρ ρ1 : Rho} {s : Sl} (h : Tg K tg d ρ ρ1) (hb : Sx K tb ρ1 (.rt s)) : Lp K tg tb (d :: ds) ρ (.rt s)
theorem lp_turn {tg : TG} {ds : List PyData} {B B1 H1 : Hp} {σ1 : St} {x : V} {D : Ends} {N : St → Hp → Prop} (hl : Lp K tg tb (d :: ds) ρ o) (p : Post K B D o) (e : Ex B B1) (g : Sg K B1 H1 σ1 ρ) (hx : Dp K B1 x d)
    (hN : ∀ B2 H2 σ2 ρ2, Ex B B2 → Sg K B2 H2 σ2 ρ2 → Lp K tg tb ds ρ2 o → N σ2 H2) : tg x σ1 H1 fun σ2 H2 => tb { D with nx := N, ct := N, bk := D.nx } σ2 H2 := by
  cases hl with
  | more h hb r => exact h B1 H1 σ1 x _ g hx fun σ2 g2 => hb B1 H1 σ2 _ g2 fun B3 H3 σ3 e3 g3 => hN B3 H3 σ3 _ (e.trans e3) g3 r
  | cont h hb r => exact h B1 H1 σ1 x _ g hx fun σ2 g2 => hb B1 H1 σ2 _ g2 fun B3 H3 σ3 e3 g3 => hN B3 H3 σ3 _ (e.trans e3) g3 r
  | brk h hb => exact h B1 H1 σ1 x _ g hx fun σ2 g2 => hb B1 H1 σ2 _ g2 fun B3 H3 σ3 e3 g3 => p B3 H3 σ3 (e.trans e3) g3
  | ret h hb => exact h B1 H1 σ1 x _ g hx fun σ2 g2 => hb B1 H1 σ2 _ g2 fun v B3 H3 e3 t3 i3 => p v B3 H3 (e.trans e3) t3 i3
theorem lp_end {tg : TG} (hl : Lp K tg tb [] ρ o) : o = .nx ρ := by cases hl; rfl
theorem sx_for {tg : TG} {ds : List PyData} (h : Es K tl ρ (.py (.list ds))) (hl : Lp K tg tb ds ρ o) : Sx K (tFor (iList K tl) tg tb) ρ o := fun B H σ D g p => h B H σ g _ fun v B1 H1 G R => by
  have R := R.1
  cases R with
  | @lst a ys _ s1 a1 =>
    have hlen := DpAll.length a1
    refine ⟨a, rfl, ⟨ys, Evl.ex_l G.two.sub s1⟩, for_list (K := K) (a := a) (xs := ys) (fun i σ' H' => ∃ B' ρ', Ex B1 B' ∧ Sg K B' H' σ' ρ' ∧ Lp K tg tb (ds.drop i) ρ' o) ⟨B1, ρ, Evl.Ex.refl _, g.grow G, by simpa using hl⟩ (fun i σ' H' _ ⟨B', _, e, g', _⟩ => Evl.ex_l (e.trans g'.two.sub) s1) ?_ ?_⟩
    · rintro i x σ' H' hi ⟨B', ρ', e, g', l'⟩
      have hil : i < ds.length := by rw [← hlen]; exact (List.getElem?_eq_some_iff.mp hi).1
      have hdi : ds[i]? = some ds[i] := List.getElem?_eq_getElem hil
      obtain ⟨x', hx', hd⟩ := DpAll.get a1 hdi
      rw [hi] at hx'; cases hx'
      rw [List.drop_eq_getElem_cons hil] at l'
      exact lp_turn (B := B1) l' (p.later G.b) e g' (Dp.mono e _ _ hd) fun B2 H2 σ2 ρ2 e2 g2 l2 => ⟨B2, ρ2, e2, g2, l2⟩
    · rintro σ' H' ⟨B', ρ', e, g', l'⟩
      rw [hlen, List.drop_length] at l'
      have := lp_end l'
      subst this
      exact p B' H' σ' (G.b.trans e) g'
theorem sx_forT {tg : TG} {ds : List PyData} (h : Es K tl ρ (.py (.tuple ds))) (hl : Lp K tg tb ds ρ o) : Sx K (tFor (iTup K tl) tg tb) ρ o := fun B H σ D g p => h B H σ g _ fun v B1 H1 G R => by
  have R := R.1
  cases R with
  | @tup a ys _ s1 a1 =>
    have hlen := DpAll.length a1
    refine ⟨a, rfl, ⟨ys, Evl.ex_t G.two.sub s1⟩, for_tup (K := K) (a := a) (xs := ys) (fun i σ' H' => ∃ B' ρ', Ex B1 B' ∧ Sg K B' H' σ' ρ' ∧ Lp K tg tb (ds.drop i) ρ' o) ⟨B1, ρ, Evl.Ex.refl _, g.grow G, by simpa using hl⟩ (fun i σ' H' _ ⟨B', _, e, g', _⟩ => Evl.ex_t (e.trans g'.two.sub) s1) ?_ ?_⟩
    · rintro i x σ' H' hi ⟨B', ρ', e, g', l'⟩
      have hil : i < ds.length := by rw [← hlen]; exact (List.getElem?_eq_some_iff.mp hi).1
      have hdi : ds[i]? = some ds[i] := List.getElem?_eq_getElem hil
      obtain ⟨x', hx', hd⟩ := DpAll.get a1 hdi
      rw [hi] at hx'; cases hx'
      rw [List.drop_eq_getElem_cons hil] at l'
      exact lp_turn (B := B1) l' (p.later G.b) e g' (Dp.mono e _ _ hd) fun B2 H2 σ2 ρ2 e2 g2 l2 => ⟨B2, ρ2, e2, g2, l2⟩
    · rintro σ' H' ⟨B', ρ', e, g', l'⟩
      rw [hlen, List.drop_length] at l'
      have := lp_end l'
      subst this
      exact p B' H' σ' (G.b.trans e) g'
/-- for k in range(n) -/
theorem sx_forR {tg : TG} {ta : TA} {n : Int} (h : Ea K ta ρ [.py (.int n)]) (hn : -1000 ≤ n ∧ n ≤ 1000) (hl : Lp K tg tb ((List.range n.toNat).map fun i : Nat => PyData.int (i : Int)) ρ o) : Sx K (tFor (iRng1 ta) tg tb) ρ o := fun B H σ D g p => h B H σ g _ fun vs B1 H1 G R => by
  obtain ⟨v, rfl, hw⟩ := is1 R
  have hw : Dp K B1 v (.int n) := hw
  have hv : v = .int n := by cases hw; rfl
  subst hv
  refine ⟨n, rfl, Int.le_trans (by decide) hn.1, Int.lt_of_le_of_lt hn.2 (by decide), for_range (lo := 0) (n := n.toNat) (fun i σ' H' => ∃ B' ρ', Ex B1 B' ∧ Sg K B' H' σ' ρ' ∧ Lp K tg tb (((List.range n.toNat).map fun i : Nat => PyData.int (i : Int)).drop i) ρ' o) ⟨B1, ρ, Evl.Ex.refl _, g.grow G, by simpa using hl⟩ ?_ ?_⟩
  · rintro i σ' H' hi ⟨B', ρ', e, g', l'⟩
    have hil : i < ((List.range n.toNat).map fun i : Nat => PyData.int (i : Int)).length := by simpa using hi
    rw [List.drop_eq_getElem_cons hil] at l'
    refine lp_turn (B := B1) l' (p.later G.b) e g' ?_ fun B2 H2 σ2 ρ2 e2 g2 l2 => ⟨B2, ρ2, e2, g2, l2⟩
    simp
    exact .int _
  · rintro σ' H' ⟨B', ρ', e, g', l'⟩
    rw [List.drop_eq_nil_of_le (by simp)] at l'
    have := lp_end l'
    subst this
    exact p B' H' σ' (G.b.trans e) g'

/-- a loop by what holds between its turns -/
def TurnI (K : PySem.W.Frag) (tg : TG) (tb : TS) (I : List PyData → Rho → Prop) (o : Out) : Prop := ∀ d ds ρ, I (d :: ds) ρ → ∃ ρ1, Tg K tg d ρ ρ1 ∧ ((∃ ρ2, (Sx K tb ρ1 (.nx ρ2) ∨ Sx K tb ρ1 (.ct ρ2)) ∧ I ds ρ2) ∨ ∃ s, o = .rt s ∧ Sx K tb ρ1 (.rt s))
theorem lp_inv {tg : TG} {I : List PyData → Rho → Prop} (turn : TurnI K tg tb I o) : ∀ ds ρ, I ds ρ → (∃ ρ', Lp K tg tb ds ρ (.nx ρ') ∧ I [] ρ') ∨ ∃ s, o = .rt s ∧ Lp K tg tb ds ρ (.rt s)
  | [], ρ, h => .inl ⟨ρ, .nil ρ, h⟩
  | d :: ds, ρ, h => by
    obtain ⟨ρ1, h1, h2⟩ := turn d ds ρ h
    rcases h2 with ⟨ρ2, h2, h3⟩ | ⟨s, e, h2⟩
    · rcases lp_inv turn ds ρ2 h3 with ⟨ρ', l, i⟩ | ⟨s, e, l⟩
      · rcases h2 with h2 | h2
        · exact .inl ⟨ρ', .more h1 h2 l, i⟩
        · exact .inl ⟨ρ', .cont h1 h2 l, i⟩
      · rcases h2 with h2 | h2
        · exact .inr ⟨s, e, .more h1 h2 l⟩
        · exact .inr ⟨s, e, .cont h1 h2 l⟩
    · exact .inr ⟨s, e, .ret h1 h2⟩
theorem sx_forI {tg : TG} {ds : List PyData} (I : List PyData → Rho → Prop) (h : Es K tl ρ (.py (.list ds))) (h0 : I ds ρ) (turn : TurnI K tg tb I o) (fin : ∀ ρ', I [] ρ' → Sx K u ρ' o) : Sx K (tSeq (tFor (iList K tl) tg tb) u) ρ o := by
  rcases lp_inv turn ds ρ h0 with ⟨ρ', l, i⟩ | ⟨s, e, l⟩
  · exact sx_seq (sx_for h l) (fin ρ' i)
  · rw [e]; exact sx_stop (sx_for h l) rfl
theorem sx_forTI {tg : TG} {ds : List PyData} (I : List PyData → Rho → Prop) (h : Es K tl ρ (.py (.tuple ds))) (h0 : I ds ρ) (turn : TurnI K tg tb I o) (fin : ∀ ρ', I [] ρ' → Sx K u ρ' o) : Sx K (tSeq (tFor (iTup K tl) tg tb) u) ρ o := by
  rcases lp_inv turn ds ρ h0 with ⟨ρ', l, i⟩ | ⟨s, e, l⟩
  · exact sx_seq (sx_forT h l) (fin ρ' i)
  · rw [e]; exact sx_stop (sx_forT h l) rfl
theorem sx_forRI {tg : TG} {ta : TA} {n : Int} (I : List PyData → Rho → Prop) (h : Ea K ta ρ [.py (.int n)]) (hn : -1000 ≤ n ∧ n ≤ 1000) (h0 : I ((List.range n.toNat).map fun i : Nat => PyData.int (i : Int)) ρ) (turn : TurnI K tg tb I o) (fin : ∀ ρ', I [] ρ' → Sx K u ρ' o) : Sx K (tSeq (tFor (iRng1 ta) tg tb) u) ρ o := by
  rcases lp_inv turn _ ρ h0 with ⟨ρ', l, i⟩ | ⟨s, e, l⟩
  · exact sx_seq (sx_forR h hn l) (fin ρ' i)
  · rw [e]; exact sx_stop (sx_forR h hn l) rfl

/-! ### defs over data -/
/-- a def's promise: for arguments and a result that stand in R to each other, all that stands is kept -/
def PSp (K : PySem.W.Frag) (R : List Sl → Sl → Prop) : Sp := fun vs H Q _ => ∃ ss s, IsAll K H H vs ss ∧ R ss s ∧ ∀ v B' H', Ex H B' → Two B' H' → Is K B' H' v s → Q v H'
/-- arguments, as they may be read -/
def Eh (K : PySem.W.Frag) (t : TA) (ρ : Rho) (ss : List Sl) : Prop := ∀ B H σ, Sg K B H σ ρ → ∀ Q : List V → Hp → Prop, (∀ vs B' H', Grow B H B' H' → IsAll K H' H' vs ss → Q vs H') → t σ H Q
theorem eh_nil : Eh K tNil ρ [] := fun B H σ g Q q => q [] B H (Grow.refl g.two) trivial
theorem Two.all (H : Hp) : Two H H := ⟨Evl.Ex.refl H, fun q o e1 e2 => by rw [e1] at e2; cases e2⟩
theorem isAll_up {B H H' : Hp} (e : Ex H H') : ∀ {vs : List V} {ss : List Sl}, IsAll K H H vs ss → IsAll K H' H' vs ss
  | [], [], _ => trivial
  | v :: vs, s :: ss, h => by
    refine ⟨?_, isAll_up (B := B) e h.2⟩
    have h1 := h.1
    cases s with
    | py d => exact Dp.mono e _ _ h1
    | «at» x => exact h1
    | own ds =>
      obtain ⟨p, xs, _, hb, hh, _⟩ := h1
      rw [hb] at hh
      cases hh
    | dct ds =>
      obtain ⟨p, xs, _, hb, hh, _⟩ := h1
      rw [hb] at hh
      cases hh
  | [], _ :: _, h => h.elim
  | _ :: _, [], h => h.elim
theorem eh_cons {tr : TA} {ss : List Sl} (ha : Ep K te ρ d) (hr : Eh K tr ρ ss) : Eh K (tCons te tr) ρ (.py d :: ss) := fun B H σ g Q q =>
  ha B H σ g _ fun x B1 H1 G1 hx => hr B1 H1 σ (g.grow G1) _ fun xs B2 H2 G2 hxs => q _ B2 H2 (G1.trans G2) ⟨Dp.mono G2.h _ _ hx, hxs⟩
theorem eh_consA {tr : TA} {ss : List Sl} {x : V} (ha : Es K te ρ (.at x)) (hr : Eh K tr ρ ss) : Eh K (tCons te tr) ρ (.at x :: ss) := fun B H σ g Q q =>
  ha B H σ g _ fun y B1 H1 G1 hx => hr B1 H1 σ (g.grow G1) _ fun xs B2 H2 G2 hxs => q _ B2 H2 (G1.trans G2) ⟨hx.1, hxs⟩
def Sl.flat : Sl → Bool
  | .py d => noList d
  | .at _ => true
  | .own ds => noLists ds
  | .dct _ => false
theorem es_call {R : List Sl → Sl → Prop} {E : XK} {ta : TA} {ss : List Sl} (ha : Eh K ta ρ ss) (hR : R ss s) (hf : s.flat = true) : Es K (tCall (PSp K R) [] E ta) ρ s := fun B H σ g Q q =>
  ha B H σ g _ fun vs B1 H1 G1 hv => by
    refine ⟨ss, s, by rw [List.append_nil]; exact hv, hR, fun v B' H' e t i => ?_⟩
    have e1 : Ex H1 H' := e.trans t.sub
    have G2 : Grow B1 H1 (growB B1 H1 H') H' := Grow.all G1.two e1
    cases s with
    | py d => exact q v _ H' (G1.trans G2) (res_py (Dp.down G2.two hf (Dp.up t i)))
    | «at» x => exact q v _ H' (G1.trans G2) ⟨i, fun z => by cases z⟩
    | dct kvs => cases hf
    | own ds =>
      obtain ⟨p, xs, rfl, hb, hh, a⟩ := i
      have hp1 : H1 p = none := by
        cases e0 : H1 p with
        | none => rfl
        | some o => rw [e p o e0] at hb; cases hb
      let B2 : Hp := fun x => if x = p then none else growB B1 H1 H' x
      have hB2 : B2 p = none := by show (if p = p then none else _) = none; rw [if_pos rfl]
      have nB2 : ∀ x, x ≠ p → B2 x = growB B1 H1 H' x := fun x hx => by show (if x = p then none else _) = _; rw [if_neg hx]
      have two2 : Two B2 H' := ⟨fun x o ex => by
          by_cases z : x = p
          · subst z; rw [hB2] at ex; cases ex
          · rw [nB2 x z] at ex; exact G2.two.sub x o ex,
        fun x o e1 e2 => by
          by_cases z : x = p
          · subst z; rw [hh] at e1; cases e1; exact .inl ⟨_, rfl⟩
          · rw [nB2 x z] at e2; exact G2.two.out x o e1 e2⟩
      have G3 : Grow B1 H1 B2 H' := ⟨fun x o ex => by
          have z : x ≠ p := fun z => by subst z; rw [G1.two.sub x o ex] at hp1; cases hp1
          rw [nB2 x z]; exact G2.b x o ex, e1, two2, fun x h1 h2 => by
          have z : x ≠ p := fun z => by subst z; exact h2 hp1
          rw [nB2 x z]; exact G2.out x h1 h2⟩
      exact q _ B2 H' (G1.trans G3) ⟨⟨p, xs, rfl, hB2, hh, DpAll.keepT two2.tup _ _ hf (DpAll.up t a)⟩, fun _ => ⟨p, rfl, G1.free hp1⟩⟩
end
section
open PyProof.Rows
variable {P : Program} {w : World} {K : PySem.W.Frag} {mg : Str → Option Value} {base : Heap}
/-- how a def keeps such a promise: its body comes to a return of s, or to its end (None) -/
theorem pure_ok {x qual : Str} {st : Stmt} {f : Addr} {fd : FuncData} {N ps : List Str} {k : Nat} {R : List Sl → Sl → Prop} (F : Fun K x qual st f fd) (S : FnScope N ps (defScope st)) (hlen : ∀ ss s, R ss s → ss.length = ps.length) (hno : ∀ ss s, R ss s → ∀ x ∈ ss, x.isOwn = false) (hN : ps.length ≤ N.length)
    (hbody : ∀ (cdv : Value) (A : Around) (outer : List Env) (s : Shared) (H : Hp) (E : XK), Room k (A.deeper (envOfC qual (defScope st) s.heap.objs.size f cdv)) →
      ∃ t, PSs (cxOf CX0 P w K mg base N qual (defScope st) f cdv A outer s H E).nox (defBody st) t ∧ ∀ ss s, R ss s → Sx K t (ss.map some ++ List.replicate (N.length - ss.length) none) (.rt s) ∨ (s = .py .none ∧ ∃ ρ', Sx K t (ss.map some ++ List.replicate (N.length - ss.length) none) (.nx ρ'))) :
    FnOk P w K mg base CX0 (k + 1) f fd ps (PSp K R) := by
  refine F.ok S (fun vs H Q E h => ?_) (fun cdv A outer s H vs Q E hr h => ?_)
  · obtain ⟨ss, s, i, r, _⟩ := h
    exact i.length.trans (hlen ss s r)
  · obtain ⟨ss, s', i, r, q⟩ := h
    obtain ⟨t, hp, hb⟩ := hbody cdv A outer s H E hr
    refine ⟨t, hp, ?_⟩
    have g : Sg K H H (L2.start N vs) (ss.map some ++ List.replicate (N.length - ss.length) none) := Sg.start (Two.all H) i (by rw [hlen ss s' r]; exact hN) (hno ss s' r)
    rcases hb ss s' r with h | ⟨rfl, ρ', h⟩
    · exact h H H _ _ g fun v B' H' e t i => q v B' H' e t i
    · exact h H H _ _ g fun B' H' σ' e g' => q .non B' H' e g'.two .non
end
section
open PySem.Spec PyProof.Rows
variable {X : Cx}
/-- name = {..} on one line, the name a local -/
theorem ps_setDc {i : Nat} {y : Str} {py : Pos} {kx vx tg iter : Expr} {ifs : List Expr} {scope : Scope} {own : List (Str × Nat)} {pos spos : Pos}
    {wi : TI} {g : TG} {tt : TT} {tk tv : TE}
    (hc : X.calm = true) (hN : X.N.Nodup) (hy : X.N[i]? = some y)
    (hyl : X.env.scope.names.lookup y = some .local)
    (hsw : swapsWith (.DictComp kx vx [⟨tg, iter, ifs, 0⟩] scope pos) (some (.Name y py)) spos.line X.env = pure true)
    (hi : PI X tg iter wi) (ok : BlkOk X.N X.env.scope scope own)
    (hg : ∀ s H C cl fp, PG (X.blk s H scope (compEnvC scope cl C X.env) fp) tg g)
    (ht : ∀ s H C cl fp, PTs (X.blk s H scope (compEnvC scope cl C X.env) fp) ifs tt)
    (hk : ∀ s H C cl fp, PE (X.blk s H scope (compEnvC scope cl C X.env) fp) kx tk)
    (he : ∀ s H C cl fp, PE (X.blk s H scope (compEnvC scope cl C X.env) fp) vx tv)
    (hs : ∀ x, foldedSetIterable iter X.env x = pure x := by intro _; rfl) :
    PS X (.Assign [.Name y py] (.DictComp kx vx [⟨tg, iter, ifs, 0⟩] scope pos) spos) (tAsg (tDc wi g tt tk tv (own.map (·.2))) (gName i)) := by
  constructor
  intro pins s σ H D I h0
  rw [exec_Assign_Name_used _ _ _ _ hsw]
  apply wpAny_bind
  apply wpAny_standAt
  apply wpAny_bind
  show wpAny _ X.A (bind (comprehension (.DictComp kx vx [⟨tg, iter, ifs, 0⟩] scope pos) scope X.env (firstIterPos [⟨tg, iter, ifs, 0⟩] pos) newDict false (eval iter X.env) (some (assign (.Name y py) X.env))) fun _ => _) _ _ s
  have h1 : tDc wi g tt tk tv (own.map (·.2)) σ H (fun x H1 => gName i x σ H1 D.nx) := h0
  apply wpAny_bind
  have core := dc_core (pos := pos) (use := some (assign (.Name y py) X.env)) (pos' := firstIterPos [⟨tg, iter, ifs, 0⟩] pos)
    (Qf := fun _ s' => SP X pins D .next s') hc hN I hi ok hg ht hk he hs h1 (fun L C s' m H' I' q hn f => by
      show wpAny _ _ (assign (.Name y py) X.env (.ref L)) _ _ _
      obtain ⟨f0, f1, f2, f3, f4, f5⟩ := f
      apply wpAny_assign_Name
      refine store_ok2 (v := .ref L) I' hN hy (.inl hyl) rfl ?_ (.inr hyl)
      rintro s2 I2 ⟨a, sb, ha⟩
      have haC : C ≠ a := by
        rcases ha with rfl | z
        · exact f1
        · rintro rfl; exact f4 y _ z rfl
      refine ⟨m, hn.sameBut sb haC, ?_⟩
      intro h3 sb3
      have J := I2.turned (t' := s2.toks) (h' := h3) (it := C) (fun b o hb e => by rw [sb3.2 b hb]; exact e) f0 f1 f3 f4 f5
      exact ⟨_, H', J, q⟩)
  refine thn core ?_
  intro _ s' hq
  exact wpAny_pure (wpAny_pure hq)
theorem sw_dict {kx vx : Expr} {gs : List Comprehension} {scope : Scope} {pos py : Pos} {y : Str} {l : Nat} {env : Env} (hk : env.scope.kind = .function)
    (hy : env.scope.names.lookup y = some .local) (hl : (py.line == pos.line) = true)
    (hf : (scope.names.any fun (n, k) => n == y && (k == .local || k == .cell)) = false) :
    swapsWith (.DictComp kx vx gs scope pos) (some (.Name y py)) l env = pure true := by
  have k1 : env.kindOf y = some .local := hy
  have k2 : env.blockKind = .function := by
    unfold Env.blockKind
    rw [hk]; rfl
  unfold swapsWith
  simp only [Expr.pos, k2, k1, hl, hf]
  rfl
end
end Wk

/-! Errors: defs that raise, what is caught, defs that are called with the caught error. -/
namespace Wk
open PySem L2
open PySem.Spec PyProof.Rows
open Evl (Ex)
open L2H (RoomH Hot1 PinOk cxH inv_startH HotC)

/-! ### a text among texts -/
theorem eqV_str (a b : Str) : eqV (.str a) (.str b) = decide (a = b) := by
  show (a == b) = decide (a = b)
  rw [Bool.eq_iff_iff]; simp
theorem inV_strs (x : Str) : ∀ l : List Str, inV (.str x) (l.map V.str) = decide (x ∈ l)
  | [] => by simp [inV]
  | a :: l => by
    have ih := inV_strs x l
    unfold inV at ih ⊢
    rw [List.map_cons, List.any_cons, ih, eqV_str]
    rw [Bool.eq_iff_iff]
    simp only [Bool.or_eq_true, decide_eq_true_eq, List.mem_cons]
    exact ⟨fun h => h.imp (fun z => z.symm) id, fun h => h.imp (fun z => z.symm) id⟩
theorem all_flat : ∀ l : List Str, (l.map V.str).all flatV = true
  | [] => rfl
  | a :: l => by simp [flatV, all_flat l]
def rInS (K : PySem.W.Frag) : R2 := fun x y H Q => ∃ (z : Str) (l : List Str), Dp K H x (.str z) ∧ (Dp K H y (.tuple (l.map PyData.str)) ∨ Dp K H y (.list (l.map PyData.str))) ∧ Q (.bl (decide (z ∈ l))) H
theorem ins_ {X : Cx} (K : PySem.W.Frag) (h : X.K = K := by rfl) : OpR X (compareOp .In) (rInS K) := by
  subst h
  intro pins s σ H x y v u Q I rx ry h
  obtain ⟨z, l, hx, hy, q⟩ := h
  cases hx
  rcases hy with hy | hy
  · cases hy with
    | @tup a xs _ s1 a1 =>
      rw [DpAll.strs_inv a1] at s1
      refine op_in_seq pins s σ H _ _ v u Q I rx ry ⟨a, _, rfl, .inr s1, rfl, all_flat l, ?_⟩
      show Q (.bl (inV (.str z) (l.map V.str))) H
      rw [inV_strs]; exact q
  · cases hy with
    | @lst a xs _ s1 a1 =>
      rw [DpAll.strs_inv a1] at s1
      refine op_in_seq pins s σ H _ _ v u Q I rx ry ⟨a, _, rfl, .inl s1, rfl, all_flat l, ?_⟩
      show Q (.bl (inV (.str z) (l.map V.str))) H
      rw [inV_strs]; exact q
theorem es_inT {K : PySem.W.Frag} {ρ : Rho} {ta tb : TE} {z : Str} {l : List Str} (ha : Ep K ta ρ (.str z)) (hb : Ep K tb ρ (.tuple (l.map PyData.str))) : Es K (tOp (rInS K) ta tb) ρ (.py (.bool (decide (z ∈ l)))) := fun B H σ g Q q =>
  ha B H σ g _ fun x B1 H1 G1 hx => hb B1 H1 σ (g.grow G1) _ fun y B2 H2 G2 hy => ⟨z, l, Dp.mono G2.h _ x hx, .inl hy, q _ B2 H2 (G1.trans G2) (res_py (.bl _))⟩
/-- a <= b <= c -/
theorem es_chain {K : PySem.W.Frag} {ρ : Rho} {ta tb tc : TE} {op op' : CmpOp} {d e f : PyData} {b b' : Bool} (ha : Ep K ta ρ d) (hb : Ep K tb ρ e) (hc : Ep K tc ρ f) (h : Cmp op d e b) (h' : Cmp op' e f b') : Es K (tChain (rCmp K op) (rCmp K op') ta tb tc) ρ (.py (.bool (b && b'))) := fun B H σ g Q q =>
  ha B H σ g _ fun x B1 H1 G1 hx => hb B1 H1 σ (g.grow G1) _ fun y B2 H2 G2 hy => by
    refine ⟨d, e, b, Dp.mono G2.h _ x hx, hy, h, b, rfl, ?_⟩
    cases b with
    | false => exact iteF (q _ B2 H2 (G1.trans G2) (res_py (.bl _)))
    | true => exact iteT (hc B2 H2 σ (g.grow (G1.trans G2)) _ fun z B3 H3 G3 hz => ⟨e, f, b', Dp.mono G3.h _ y hy, hz, h', q _ B3 H3 (G1.trans (G2.trans G3)) (res_py (.bl _))⟩)

/-! ### an own error class, straight over ValueError or over such a one -/
/-- what the top has written of the class at C -/
structure ErrC (K : PySem.W.Frag) (mg : Str → Option Value) (nm : Str) (C : Addr) : Prop where
  g : mg nm = some (.ref C)
  kp : PySem.W.keepIn K (.ref C) = true
  sb : PySem.W.subIn K (.ref C) (.type "BaseException") = some true
  ty : PySem.W.typeIn K (.ref C) = some (.type "type")
  hd : PySem.W.hasDictIn K C = true
section
variable {P : Program} {w : World} {K : PySem.W.Frag} {mg : Str → Option Value} {base : Heap}
/-- a def that may raise, by any wish about what leaves it -/
theorem Fun.okG {CX : CXT} {x qual : Str} {st : Stmt} {f : Addr} {fd : FuncData} {N ps : List Str} {k : Nat} {sp : Sp} (F : Fun K x qual st f fd) (S : FnScope N ps (defScope st)) (len : ∀ vs H Q E, sp vs H Q E → vs.length = ps.length)
    (hb : ∀ (cdv : Value) (A : Around) (outer : List Env) (s : Shared) (H : Hp) (vs : List V) (Q : VK) (E : XK), Room k (A.deeper (envOfC qual (defScope st) s.heap.objs.size f cdv)) → sp vs H Q E →
      ∃ t, PSs (cxOf CX P w K mg base N qual (defScope st) f cdv A outer s H E) (defBody st) t ∧ t { nx := fun _ H' => Q .non H', rt := Q } (L2.start N vs) H) : FnOk P w K mg base CX (k + 1) f fd ps sp := by
  obtain ⟨oc, od, kV, doc, pm, an, cdv, ct, osl, e, lk, hcd⟩ := F.ex
  subst e
  exact fn_of lk hcd S len (fun A outer s H vs Q E hr h => hb cdv A outer s H vs Q E hr h)
theorem passN {X : Cx} : Passes (L2N.CX X.prog X.w) X E0 := fun _ _ _ _ _ _ _ h => by
  obtain ⟨_, _, _, _, _, _, _, _, _, _, _, _, z⟩ := h
  exact z.elim
theorem takesN {X : Cx} : L2N.Takes X (fun _ _ _ _ => False) := fun _ _ h => by
  obtain ⟨_, _, _, _, _, _, _, _, _, _, _, _, _, _, _, _, z⟩ := h
  exact z.elim
end

/-! ### a def that is called while an error of the class at D is handled, the error known by its place -/
structure FnZ (P : Program) (w : World) (K : PySem.W.Frag) (mg : Str → Option Value) (base : Heap) (D : Addr) (k : Nat) (f : Addr) (fd : FuncData) (ps : List Str) (sp : Addr → Sp) : Prop where
  len : ∀ a vs H Q E, sp a vs H Q E → vs.length = ps.length
  run : ∀ (A : Around) (outer : List Env) (s : Shared) (H : Hp) (args : Args) (us : List Value) (vs : List V) (Q : VK) (E : XK) (p : Addr × Obj), RoomH k A → Hot1 A p → PinOk outer H s p → Zc (.ref D) none p.2 →
    Env0 P w K mg base A outer s H → BindsTo s fd args (ps.zip us) → Vals vs us → sp p.1 vs H Q E → codeAny (model P w) A (.call (.ref f) args) (CR CX0 outer P w H s Q E) s
section
variable {P : Program} {w : World} {K : PySem.W.Frag} {mg : Str → Option Value} {base : Heap}
theorem Fun.okZ {x qual : Str} {st : Stmt} {f D : Addr} {fd : FuncData} {N ps : List Str} {k : Nat} {sp : Addr → Sp} (F : Fun K x qual st f fd) (S : FnScope N ps (defScope st)) (len : ∀ a vs H Q E, sp a vs H Q E → vs.length = ps.length)
    (hb : ∀ (cdv : Value) (A : Around) (outer : List Env) (s : Shared) (H : Hp) (vs : List V) (Q : VK) (E : XK) (p : Addr × Obj), Hot1 A p → Zc (.ref D) none p.2 → RoomH k (A.deeper (envOfC qual (defScope st) s.heap.objs.size f cdv)) → sp p.1 vs H Q E →
      ∃ t, PSs (cxH CX0 P w K mg base N qual (defScope st) f cdv A outer s H E p) (defBody st) t ∧ t { nx := fun _ H' => Q .non H', rt := Q } (L2.start N vs) H) : FnZ P w K mg base D (k + 1) f fd ps sp := by
  obtain ⟨oc, od, kV, doc, pm, an, cdv, ct, osl, e, lk, hcd⟩ := F.ex
  subst e
  constructor
  · exact len
  intro A outer s H args us vs Q E p hr hot hpin hz e0 hbnd r hsp
  have vl := len _ _ _ _ _ hsp
  have inK : K.In s.heap := e0.mod.kin.keeps (fun b o q => (e0.bs b o q).1)
  have free : s.heap.NoLimit := e0.mod.nolimit.keeps (fun b o q => (e0.bs b o q).1)
  have kinds : ∀ y ∈ ps.zip us, (defScope st).names.lookup y.1 = some .local ∨ ((defScope st).names.lookup y.1 = some .cell ∧ ((cellsFrom (s.heap.objs.size + 1) (defScope st).names []).lookup y.1).isSome = true) := by
    rintro ⟨n, v⟩ hy
    have hn := (List.of_mem_zip hy).1
    rcases S.par n hn with h1 | h1
    · left; exact h1
    · right; exact ⟨h1, PySem.W.cellsFrom_some _ _ _ (.inl h1)⟩
  refine codeAny_call_function hr.depth (inK _ _ lk) rfl S.co S.gen rfl (PySem.W.codeRec_of inK hcd) (hbnd _ _ _ _ ?_)
  refine wpAny_newFunctionEnv_cells S.kind kinds (fun env he s1 x => ?_)
  subst he
  refine ⟨free.keeps x.toInCall.keep, codeAny_func ?_⟩
  obtain ⟨t, ht, hq⟩ := hb cdv A outer s H vs Q E p hot hz (hr.deeper _) hsp
  have I : Inv (cxH CX0 P w K mg base N qual (defScope st) f cdv A outer s H E p) [] (L2.start N vs) H s1 := inv_startH S hpin e0 vl r x
  refine wpAny_mono (ht.run [] s1 (L2.start N vs) H _ I hq) (fun fl s' hs => ?_) (fun e s' hs => hs)
  cases fl with
  | ret u =>
    obtain ⟨v, σ', H', J, rv, q⟩ := hs
    exact (⟨v, H', J.os, J.bare, J.base, J.hok, rv, q⟩ : CE outer P w H s Q u s')
  | next =>
    obtain ⟨σ', H', J, q⟩ := hs
    exact (⟨.non, H', J.os, J.bare, J.base, J.hok, rfl, q⟩ : CE outer P w H s Q .none s')
  | brk => obtain ⟨_, _, _, q⟩ := hs; exact q.elim
  | cont => obtain ⟨_, _, _, q⟩ := hs; exact q.elim
/-- the call of such a def within an except suite -/
def tCallZ (sp : Sp) (t : TA) : TE := fun σ H Q => t σ H fun vs H1 => sp vs H1 Q E0
theorem pe_callZ {X : Cx} {D f a : Addr} {oe : Obj} {pn : List (Addr × Obj)} {k : Nat} {fd : FuncData} {ps : List Str} {sp : Addr → Sp} {x : Str} {q pos : Pos} {e : Expr} {es : List Expr} {t : TA} (F : FnZ X.prog X.w X.K X.mg X.base D k f fd ps sp) (hr : RoomH k (X.suite a ((a, oe) :: pn)).A) (hz : L2N.Zn (.ref D) none oe) (hf : ∃ vs, oe.data = .fields vs)
    (hg : Gl X x) (hm : X.mg x = some (.ref f)) (hk : PySem.W.keepIn X.K (.ref f) = true) (hb : Binds X.K fd ps []) (ha : PA (X.suite a ((a, oe) :: pn)) (e :: es) t)
    (hdb : (x == ("__debug__" : Str)) = false := by decide) (he : starEach (e :: es) X.env = (false, eval e X.env) :: starEach es X.env := by rfl) (hpl : (backTo pos (starEach es X.env)).any (·.1) = false := by rfl) :
    PE (X.suite a ((a, oe) :: pn)) (.Call (.Name x q) (e :: es) [] pos) (tCallZ (sp a) t) := by
  constructor
  intro pins s σ H Q I h
  refine wpAny_Call_Name_kw (ld_glob I hg hm ?_ hdb)
  refine PySem.W.callWith_K (h₀ := X.base) I.ok.mod.kin hk (thn (ha.run pos pins s σ H _ I h) fun us s1 ⟨vs, H1, I1, r, q⟩ => ⟨I1.kIn, ?_⟩) he hpl
  have vl : us.length = ps.length := by rw [← r.length]; exact F.len _ _ _ _ _ q
  have bnd := hb s1 us I1.kIn (by rw [List.append_nil]; exact vl)
  rw [List.append_nil] at bnd
  have P1 := I1.pin (a, oe) (List.mem_append_left _ List.mem_cons_self)
  have hot : Hot1 (X.suite a ((a, oe) :: pn)).A (a, oe) := by
    obtain ⟨vs, hv⟩ := hf
    exact ⟨rfl, vs, hv, hz.2.2 vs hv⟩
  have hpin : PinOk X.stack H1 s1 (a, oe) := ⟨P1.1, P1.2.1, fun hm => (List.mem_cons.mp (I1.stkSub a hm)).elim P1.2.2.1 P1.2.2.2.1, P1.2.2.2.2⟩
  refine wpAny_call (codeAny_mono (F.run _ X.stack s1 H1 ⟨us, []⟩ us vs Q E0 (a, oe) hr hot hpin hz.zc I1.env0 bnd r q) fun r s' hq => ?_)
  cases r with
  | error e => exact False.elim hq
  | ok fl =>
    cases fl with
    | ret u => exact I1.after hq
    | next => exact hq.elim
    | brk => exact hq.elim
    | cont => exact hq.elim
end
/-- isinstance(e, c) in such a def's body -/
theorem call_isP {X : Cx} {p : Addr × Obj} {D : Addr} (hp : p ∈ X.pn) (C : ExcC X.K D) (hz : Zc (.ref D) none p.2) (hf : ∃ vs, p.2.data = .fields vs) : CallR X (.builtin "isinstance") (rIsE X.K D p.1) := by
  intro pins s σ H xs us Q I r h
  obtain ⟨c, cv, b, rfl, hcv, e, q⟩ := h
  cases r with
  | cons rx rr =>
  cases rr with
  | cons rt rr =>
  cases rr
  cases rx
  have ec := hcv _ rt
  subst ec
  have hget := (I.pin p (List.mem_append_left _ hp)).1
  have J : PySem.W.InstAt s.heap p.1 p.2 D none := by
    obtain ⟨a, oc, od, oda, osl⟩ := p
    obtain ⟨vs, hv⟩ := hf
    obtain ⟨z1, z2⟩ := hz
    dsimp only at z1 z2 hv
    subst z1 z2 hv
    exact ⟨hget, rfl, rfl, trivial⟩
  have kx := PySem.W.handS_kitx_exc (x := p.1) (ox := p.2) C.hg C.hk C.hs C.hd C.ha C.hn C.ht C.hm
  exact PySem.W.kia_one kx I.kIn J e (fun z => nomatch z) (fun tk => ⟨.bl b, H, I.kept (t' := tk) (fun _ _ z => z), rfl, q⟩)
end Wk

/-! Powers of large numbers, lists put together, truths counted, what is caught. -/
namespace Wk
open PySem L2
open PySem.Spec PyProof.Rows
open Evl (Ex)
open L2H (RoomH Hot1 PinOk cxH inv_startH HotC)
/-! ### a power whose base is large -/
def CPowB (i j : Int) : Prop := 0 ≤ j ∧ (Builtin.Int.intBits i : Int) * j ≤ 2 ^ 27
theorem op_powB {X : Cx} : OpR X (binaryOp .Pow) (rI CPowB fun i j => .int (i ^ j.toNat)) := opI fun _ _ _ _ _ _ _ hc q => pow_int hc.1 hc.2 q
section
variable {K : PySem.W.Frag} {ρ : Rho} {ta tb te : TE}
theorem es_powB {i j : Int} (ha : Ep K ta ρ (.int i)) (hb : Ep K tb ρ (.int j)) (hc : CPowB i j) : Es K (tOp (rI CPowB fun i j => .int (i ^ j.toNat)) ta tb) ρ (.py (.int (i ^ j.toNat))) := fun B H σ g Q q =>
  ha B H σ g _ fun x B1 H1 G1 hx => hb B1 H1 σ (g.grow G1) _ fun y B2 H2 G2 hy => by
    cases hx; cases hy
    exact ⟨i, j, rfl, rfl, hc, q _ B2 H2 (G1.trans G2) (res_py (.int _))⟩
/-! ### two lists of one's own, put together -/
theorem es_catO {i : Nat} {ds es : List PyData} (hi : ρ[i]? = some (some (.own ds))) (hb : Es K tb ρ (.own es)) (hl : ds.length + es.length ≤ 1000) : Es K (tOp rCat (tVar i) tb) ρ (.own (ds ++ es)) := fun B H σ g Q q => by
  obtain ⟨v, h1, p, xs, rfl, hp, hh, a⟩ := g.has i _ hi
  refine ⟨_, h1, hb B H σ g _ fun y B1 H1 G R => ?_⟩
  obtain ⟨⟨r, zs, rfl, hr, hhr, ar⟩, hn⟩ := R
  refine ⟨p, r, xs, zs, rfl, rfl, G.h p _ hh, hhr, ?_, fun l hl => ?_⟩
  · rw [DpAll.length a, DpAll.length ar]; exact Nat.le_trans hl (by decide)
  · have G2 := Grow.own (o := .lst (xs ++ zs)) G.two hl (.inl ⟨_, rfl⟩)
    exact q _ _ _ (G.trans G2) ⟨⟨l, xs ++ zs, rfl, G.two.free hl, upd_same, DpAll.append (DpAll.mono G.b _ _ a) ar⟩, fun _ => ⟨l, rfl, G.free hl⟩⟩
/-! ### how often a truth stands in a list -/
def rCntB (K : PySem.W.Frag) : V → List V → Hp → VK → Prop := fun x xs H Q => ∃ (p : Addr) (bs : List Bool) (b : Bool), x = .ref p ∧ xs = [.bl b] ∧ SqL K H p (bs.map V.bl) ∧ Q (.int (bs.count b : Nat)) H
theorem holds_bls {h : Heap} : ∀ {bs : List Bool} {us : List Value}, Vals (bs.map V.bl) us → PySem.W.HoldAll h us bs
  | [], us, r => by
    rw [List.map_nil] at r
    cases r
    exact PySem.W.HoldAll.nil
  | b :: bs, us, r => by
    rw [List.map_cons] at r
    cases r with
    | cons r1 r2 =>
      cases r1
      exact PySem.W.HoldAll.cons ⟨_, .bool _⟩ (holds_bls r2)
theorem mt_lcountB {X : Cx} (hu : X.A.units + 64 < cLine) : MtR X "list.count" (rCntB X.K) := by
  intro pins s σ H x xs v us Q I rx rxs h
  obtain ⟨p, bs, b, rfl, rfl, hs, q⟩ := h
  cases rx
  obtain ⟨u, rfl, ru⟩ := rxs.one
  cases ru
  obtain ⟨its, rv, ⟨o, n, ho, hc, hdn, hd⟩, hlen⟩ := I.list hs
  refine PySem.W.count_list_datum (α := Bool) ⟨o, ho, hc, n, hd⟩ (holds_bls rv) ⟨_, .bool _⟩ ?_ ?_
  · show X.A.units + 1 + 0 < cLine
    omega
  · have e : bs.countP (fun y => decide (y = b)) = bs.count b := by
      unfold List.count
      congr 1
    rw [e]
    exact ⟨.int (bs.count b : Nat), H, I.tok _, ⟨s.toks, rfl⟩, q⟩
theorem es_cntB {bs : List Bool} {b : Bool} (h : Es K te ρ (.own (bs.map PyData.bool))) : Es K (tBM K "list" (rCntB K) te (tCons (tC (.bl b)) tNil)) ρ (.py (.int (bs.count b : Nat))) := fun B H σ g Q q =>
  h B H σ g _ fun x B1 H1 G R => by
    obtain ⟨⟨p, xs, rfl, hb, hh, a⟩, _⟩ := R
    rw [DpAll.bls_inv a] at hh
    refine ⟨.inl ⟨rfl, _, SqL.of hh⟩, p, bs, b, rfl, rfl, SqL.of hh, ?_⟩
    exact q _ B1 H1 G (res_py (.int _))
end
/-! ### isinstance of a caught error, asked by a def or by the suite -/
section
variable {K : PySem.W.Frag} {ρ : Rho} {ta tb te tc : TE}
theorem es_isP {D a : Addr} {c : V} {cv : Value} {b : Bool} (he : Es K te ρ (.at (.ref a))) (hc : Es K tc ρ (.at c)) (hcv : ∀ u, RelV c u → u = cv) (hk : PySem.W.kitOne K (.ref D) cv = some b) : Es K (tCB (rIsE K D a) (tCons te (tCons tc tNil))) ρ (.py (.bool b)) := fun B H σ g Q q =>
  he B H σ g _ fun x B1 H1 G1 R1 => hc B1 H1 σ (g.grow G1) _ fun y B2 H2 G2 R2 => by
    cases R1.1; cases R2.1
    exact ⟨c, cv, b, rfl, hcv, hk, q _ B2 H2 (G1.trans G2) (res_py (.bl _))⟩
theorem relV_ref {C : Addr} : ∀ u, RelV (.ref C) u → u = .ref C := fun u h => h
theorem relV_ty {n : String} : ∀ u, RelV (.ty n) u → u = .type n := fun u h => h
theorem tCallZ_eq {sp : Sp} {t : TA} : tCallZ sp t = tCall sp [] E0 t := by
  funext σ H Q
  unfold tCallZ tCall
  simp only [List.append_nil]
theorem es_callZ {R : List Sl → Sl → Prop} {ta : TA} {s : Sl} {ss : List Sl} (ha : Eh K ta ρ ss) (hR : R ss s) (hf : s.flat = true) : Es K (tCallZ (PSp K R) ta) ρ s := by
  rw [tCallZ_eq]
  exact es_call ha hR hf
end
section
variable {P : Program} {w : World} {K : PySem.W.Frag} {mg : Str → Option Value} {base : Heap}
/-- such a def keeps a promise about its error -/
theorem pureZ_ok {x qual : Str} {st : Stmt} {f D : Addr} {fd : FuncData} {N ps : List Str} {k : Nat} {R : Addr → List Sl → Sl → Prop} (F : Fun K x qual st f fd) (S : FnScope N ps (defScope st)) (hlen : ∀ a ss s, R a ss s → ss.length = ps.length) (hno : ∀ a ss s, R a ss s → ∀ x ∈ ss, x.isOwn = false) (hN : ps.length ≤ N.length)
    (hb : ∀ (cdv : Value) (A : Around) (outer : List Env) (s : Shared) (H : Hp) (E : XK) (p : Addr × Obj), Hot1 A p → Zc (.ref D) none p.2 → RoomH k (A.deeper (envOfC qual (defScope st) s.heap.objs.size f cdv)) →
      ∃ t, PSs (cxH CX0 P w K mg base N qual (defScope st) f cdv A outer s H E p) (defBody st) t ∧ ∀ ss s, R p.1 ss s → Sx K t (ss.map some ++ List.replicate (N.length - ss.length) none) (.rt s)) : FnZ P w K mg base D (k + 1) f fd ps (fun a => PSp K (R a)) := by
  refine Fun.okZ F S (fun a vs H Q E h => ?_) (fun cdv A outer s H vs Q E p hot hz hr h => ?_)
  · obtain ⟨ss, s, i, r, _⟩ := h
    exact i.length.trans (hlen a ss s r)
  · obtain ⟨ss, s', i, r, q⟩ := h
    obtain ⟨t, hp, hb⟩ := hb cdv A outer s H E p hot hz hr
    refine ⟨t, hp, ?_⟩
    have g : Sg K H H (L2.start N vs) (ss.map some ++ List.replicate (N.length - ss.length) none) := Sg.start (Two.all H) i (by rw [hlen _ ss s' r]; exact hN) (hno _ ss s' r)
    exact hb ss s' r H H _ _ g fun v B' H' e t i => q v B' H' e t i
/-- what a suite does with an error of the class at C alone -/
def tsIf (C : Addr) (T : Addr → TS) (a : Addr) (cls : Value) (d : Option Addr) : TS := fun D σ H => cls = .ref C ∧ d = none ∧ T a D σ H
theorem pss_tsIf {X : Cx} {b : List Stmt} {C a : Addr} {T : Addr → TS} {cls : Value} {d : Option Addr} (h : cls = .ref C → d = none → PSs X b (T a)) : PSs X b (tsIf C T a cls d) := ⟨fun pins s σ H D I h' => (h h'.1 h'.2.1).run pins s σ H D I h'.2.2⟩
end
section
variable {K : PySem.W.Frag} {ρ : Rho} {ta tb te tc : TE}
theorem es_idxS {d e r : PyData} (ha : Es K ta ρ (.py d)) (hb : Ep K tb ρ e) (h : Idx d e r) : Es K (tOp (rIdx K) ta tb) ρ (.py r) := fun B H σ g Q q =>
  ha B H σ g _ fun x B1 H1 G1 R1 => hb B1 H1 σ (g.grow G1) _ fun y B2 H2 G2 hy =>
    have hx : Dp K B2 x d := Dp.mono G2.b d x R1.1
    ⟨d, e, r, Dp.up G2.two hx, hy, h, fun v hv hB => q v B2 H2 (G1.trans G2) (res_py (hB B2 G2.two.sub hx))⟩
/-- what a call gives, read alone -/
theorem ep_call {R : List Sl → Sl → Prop} {E : XK} {ta : TA} {ss : List Sl} {d : PyData} (ha : Eh K ta ρ ss) (hR : R ss (.py d)) : Ep K (tCall (PSp K R) [] E ta) ρ d := fun B H σ g Q q =>
  ha B H σ g _ fun vs B1 H1 G1 hv => by
    refine ⟨ss, .py d, by rw [List.append_nil]; exact hv, hR, fun v B' H' e t i => ?_⟩
    have G2 : Grow B1 H1 (growB B1 H1 H') H' := Grow.all G1.two (e.trans t.sub)
    exact q v _ H' (G1.trans G2) (Dp.up t i)
end
/-! ### a thing that is looked at: data of whatever kind -/
def okD : PyData → Bool
  | .int _ => true
  | .bool _ => true
  | .none => true
  | .str x => PyData.strOk x
  | .tuple ds => decide (ds.length ≤ 1000)
  | .list ds => decide (ds.length ≤ 1000)
  | _ => false
theorem okD_kind {d : PyData} (h : okD d = true) : ∃ n, Kind d n := by
  cases d with
  | none => exact ⟨_, .non⟩
  | bool b => exact ⟨_, .bl b⟩
  | int i => exact ⟨_, .int i⟩
  | str x => exact ⟨_, .str x⟩
  | list l => exact ⟨_, .lst l⟩
  | tuple l => exact ⟨_, .tup l⟩
  | dict l => cases h
end Wk

namespace L
open PySem L2 Wk
def top (i : Nat) : Stmt := PySem.Challenge.pw_movehouse_k01_a_wish_done.main.body.getD i (.Pass ⟨0, 0, 0, 0⟩)
abbrev s_is_whole : Stmt := top 13
abbrev s_is_word : Stmt := top 14
abbrev s_is_wish : Stmt := top 15
abbrev s_need_wish : Stmt := top 16
abbrev s_done : Stmt := top 17
abbrev s__law_cell_at : Stmt := top 19
abbrev s__law_alike : Stmt := top 20
abbrev s__law_wish : Stmt := top 21
abbrev s__law_odd : Stmt := top 22
abbrev s__law_kinds : Stmt := top 23
abbrev s__law_refused : Stmt := top 24
abbrev s_law : Stmt := top 25
theorem sc_is_whole : FnScope ["value"] ["value"] (defScope s_is_whole) := ⟨rfl, rfl, rfl, by decide +kernel, rfl, by decide +kernel, by decide +kernel⟩
theorem sc_is_word : FnScope ["value", "words"] ["value", "words"] (defScope s_is_word) := ⟨rfl, rfl, rfl, by decide +kernel, rfl, by decide +kernel, by decide +kernel⟩
theorem sc_is_wish : FnScope ["wish", "word", "n"] ["wish"] (defScope s_is_wish) := ⟨rfl, rfl, rfl, by decide +kernel, rfl, by decide +kernel, by decide +kernel⟩
theorem sc_need_wish : FnScope ["wish"] ["wish"] (defScope s_need_wish) := ⟨rfl, rfl, rfl, by decide +kernel, rfl, by decide +kernel, by decide +kernel⟩
theorem sc_done : FnScope ["amount", "wish", "word", "n"] ["amount", "wish"] (defScope s_done) := ⟨rfl, rfl, rfl, by decide +kernel, rfl, by decide +kernel, by decide +kernel⟩
theorem sc__law_cell_at : FnScope ["_law_script", "_law_k"] ["_law_script", "_law_k"] (defScope s__law_cell_at) := ⟨rfl, rfl, rfl, by decide +kernel, rfl, by decide +kernel, by decide +kernel⟩
theorem sc__law_alike : FnScope ["_law_found", "_law_due", "_law_k"] ["_law_found", "_law_due"] (defScope s__law_alike) := ⟨rfl, rfl, rfl, by decide +kernel, rfl, by decide +kernel, by decide +kernel⟩
theorem sc__law_wish : FnScope ["_law_cell", "_law_number"] ["_law_cell"] (defScope s__law_wish) := ⟨rfl, rfl, rfl, by decide +kernel, rfl, by decide +kernel, by decide +kernel⟩
theorem sc__law_odd : FnScope ["_law_cell", "_law_far", "_law_some"] ["_law_cell"] (defScope s__law_odd) := ⟨rfl, rfl, rfl, by decide +kernel, rfl, by decide +kernel, by decide +kernel⟩
theorem sc__law_kinds : FnScope ["_law_e", "_law_some"] ["_law_e"] (defScope s__law_kinds) := ⟨rfl, rfl, rfl, by decide +kernel, rfl, by decide +kernel, by decide +kernel⟩
theorem sc__law_refused : FnScope ["_law_thing", "_law_e"] ["_law_thing"] (defScope s__law_refused) := ⟨rfl, rfl, rfl, by decide +kernel, rfl, by decide +kernel, by decide +kernel⟩
theorem sc_law : FnScope ["_law_script", "_law_amount", "_law_wish_here", "_law_due"] ["_law_script"] (defScope s_law) := ⟨rfl, rfl, rfl, by decide +kernel, rfl, by decide +kernel, by decide +kernel⟩
/-- where the top has put things -/
structure Adr where
  f_is_whole : Addr
  d_is_whole : FuncData
  f_is_word : Addr
  d_is_word : FuncData
  f_is_wish : Addr
  d_is_wish : FuncData
  f_need_wish : Addr
  d_need_wish : FuncData
  f_done : Addr
  d_done : FuncData
  f__law_cell_at : Addr
  d__law_cell_at : FuncData
  f__law_alike : Addr
  d__law_alike : FuncData
  f__law_wish : Addr
  d__law_wish : FuncData
  f__law_odd : Addr
  d__law_odd : FuncData
  f__law_kinds : Addr
  d__law_kinds : FuncData
  f__law_refused : Addr
  d__law_refused : FuncData
  f_law : Addr
  d_law : FuncData
  c_MoveError : Addr
  c_BadWorld : Addr
  c_NoCaller : Addr
  c_NoHouse : Addr
  c_NoKey : Addr
  c_BadWish : Addr
  c_Busy : Addr
  c_Idle : Addr
  c_NotHere : Addr
  c_NoLetter : Addr
/-- what the top has written -/
structure Txt (K : PySem.W.Frag) (mg : Str → Option Value) (A : Adr) : Prop where
  F_is_whole : Fun K "is_whole" "is_whole" s_is_whole A.f_is_whole A.d_is_whole
  B_is_whole : Binds K A.d_is_whole ["value"] []
  m_is_whole : mg "is_whole" = some (.ref A.f_is_whole)
  F_is_word : Fun K "is_word" "is_word" s_is_word A.f_is_word A.d_is_word
  B_is_word : Binds K A.d_is_word ["value", "words"] []
  m_is_word : mg "is_word" = some (.ref A.f_is_word)
  F_is_wish : Fun K "is_wish" "is_wish" s_is_wish A.f_is_wish A.d_is_wish
  B_is_wish : Binds K A.d_is_wish ["wish"] []
  m_is_wish : mg "is_wish" = some (.ref A.f_is_wish)
  F_need_wish : Fun K "need_wish" "need_wish" s_need_wish A.f_need_wish A.d_need_wish
  B_need_wish : Binds K A.d_need_wish ["wish"] []
  m_need_wish : mg "need_wish" = some (.ref A.f_need_wish)
  F_done : Fun K "done" "done" s_done A.f_done A.d_done
  B_done : Binds K A.d_done ["amount", "wish"] []
  m_done : mg "done" = some (.ref A.f_done)
  F__law_cell_at : Fun K "_law_cell_at" "_law_cell_at" s__law_cell_at A.f__law_cell_at A.d__law_cell_at
  B__law_cell_at : Binds K A.d__law_cell_at ["_law_script", "_law_k"] []
  m__law_cell_at : mg "_law_cell_at" = some (.ref A.f__law_cell_at)
  F__law_alike : Fun K "_law_alike" "_law_alike" s__law_alike A.f__law_alike A.d__law_alike
  B__law_alike : Binds K A.d__law_alike ["_law_found", "_law_due"] []
  m__law_alike : mg "_law_alike" = some (.ref A.f__law_alike)
  F__law_wish : Fun K "_law_wish" "_law_wish" s__law_wish A.f__law_wish A.d__law_wish
  B__law_wish : Binds K A.d__law_wish ["_law_cell"] []
  m__law_wish : mg "_law_wish" = some (.ref A.f__law_wish)
  F__law_odd : Fun K "_law_odd" "_law_odd" s__law_odd A.f__law_odd A.d__law_odd
  B__law_odd : Binds K A.d__law_odd ["_law_cell"] []
  m__law_odd : mg "_law_odd" = some (.ref A.f__law_odd)
  F__law_kinds : Fun K "_law_kinds" "_law_kinds" s__law_kinds A.f__law_kinds A.d__law_kinds
  B__law_kinds : Binds K A.d__law_kinds ["_law_e"] []
  m__law_kinds : mg "_law_kinds" = some (.ref A.f__law_kinds)
  F__law_refused : Fun K "_law_refused" "_law_refused" s__law_refused A.f__law_refused A.d__law_refused
  B__law_refused : Binds K A.d__law_refused ["_law_thing"] []
  m__law_refused : mg "_law_refused" = some (.ref A.f__law_refused)
  F_law : Fun K "law" "law" s_law A.f_law A.d_law
  B_law : Binds K A.d_law ["_law_script"] []
  m_law : mg "law" = some (.ref A.f_law)
  b_ValueError : mg "ValueError" = none
  b_all : mg "all" = none
  b_bool : mg "bool" = none
  b_int : mg "int" = none
  b_isinstance : mg "isinstance" = none
  b_len : mg "len" = none
  b_list : mg "list" = none
  b_range : mg "range" = none
  b_str : mg "str" = none
  b_tuple : mg "tuple" = none
  c_MoveError : mg "MoveError" = some (.ref A.c_MoveError)
  c_BadWorld : mg "BadWorld" = some (.ref A.c_BadWorld)
  c_NoCaller : mg "NoCaller" = some (.ref A.c_NoCaller)
  c_NoHouse : mg "NoHouse" = some (.ref A.c_NoHouse)
  c_NoKey : mg "NoKey" = some (.ref A.c_NoKey)
  c_BadWish : mg "BadWish" = some (.ref A.c_BadWish)
  c_Busy : mg "Busy" = some (.ref A.c_Busy)
  c_Idle : mg "Idle" = some (.ref A.c_Idle)
  c_NotHere : mg "NotHere" = some (.ref A.c_NotHere)
  c_NoLetter : mg "NoLetter" = some (.ref A.c_NoLetter)
  k_BW : PySem.W.keepIn K (.ref A.c_BadWish) = true
  s_BW : PySem.W.subIn K (.ref A.c_BadWish) (.type "BaseException") = some true
  t_BW : PySem.W.typeIn K (.ref A.c_BadWish) = some (.type "type")
  s_ME : PySem.W.subIn K (.ref A.c_MoveError) (.type "BaseException") = some true
  t_ME : PySem.W.typeIn K (.ref A.c_MoveError) = some (.type "type")
  h_ME : PySem.W.hasDictIn K A.c_MoveError = true
  s_BWME : PySem.W.subIn K (.ref A.c_BadWish) (.ref A.c_MoveError) = some true
  x_hg : PySem.W.findIn K (.ref A.c_BadWish) "__getattribute__" = some (some (.builtin "BaseException.__getattribute__"))
  x_hk : PySem.W.findIn K (.ref A.c_BadWish) "__getattr__" = some none
  x_hd : PySem.W.hasDictIn K A.c_BadWish = true
  x_ha : PySem.W.findIn K (.ref A.c_BadWish) "__class__" = some (some (.builtin "object.__class__"))
  x_hn : PySem.W.specialIn K (.builtin "object.__class__") "__get__" = some (some (.builtin "getset_descriptor.__get__"))
  x_ht : PySem.W.takesIn K (.builtin "object.__class__") = some true
  x_hm : PySem.W.mroIn K A.c_BadWish (.type "object") = some true
  x_in : PySem.W.excIn K A.c_BadWish [.type "ValueError", .type "Exception", .type "BaseException", .type "object"] "ValueError.__new__" = true
  i_VE : PySem.W.kitOne K (.ref A.c_BadWish) (.type "ValueError") = some true
  i_BadWorld : PySem.W.kitOne K (.ref A.c_BadWish) (.ref A.c_BadWorld) = some false
  i_NoCaller : PySem.W.kitOne K (.ref A.c_BadWish) (.ref A.c_NoCaller) = some false
  i_NoHouse : PySem.W.kitOne K (.ref A.c_BadWish) (.ref A.c_NoHouse) = some false
  i_NoKey : PySem.W.kitOne K (.ref A.c_BadWish) (.ref A.c_NoKey) = some false
  i_BadWish : PySem.W.kitOne K (.ref A.c_BadWish) (.ref A.c_BadWish) = some true
  i_Busy : PySem.W.kitOne K (.ref A.c_BadWish) (.ref A.c_Busy) = some false
  i_Idle : PySem.W.kitOne K (.ref A.c_BadWish) (.ref A.c_Idle) = some false
  i_NotHere : PySem.W.kitOne K (.ref A.c_BadWish) (.ref A.c_NotHere) = some false
  i_NoLetter : PySem.W.kitOne K (.ref A.c_BadWish) (.ref A.c_NoLetter) = some false
  g_LIMIT : ∃ t, mg "LIMIT" = some (.int (10 ^ 30) t)
theorem all_mk {w : World} {K : PySem.W.Frag} {h : Heap} {mg : Str → Option Value} {fa : Addr} (X : K.In h) (G : h.Ns mainGlobals mg) (hfa : mg "law" = some (.ref fa))
    {f1 : Addr} {od1 an1 : Option Addr} {sl1 : Array (Option Value)} {oc1 kV1 dc1 pm1 cd1 ct1 : Value}
    {f2 : Addr} {od2 an2 : Option Addr} {sl2 : Array (Option Value)} {oc2 kV2 dc2 pm2 cd2 ct2 : Value}
    {f3 : Addr} {od3 an3 : Option Addr} {sl3 : Array (Option Value)} {oc3 kV3 dc3 pm3 cd3 ct3 : Value}
    {f4 : Addr} {od4 an4 : Option Addr} {sl4 : Array (Option Value)} {oc4 kV4 dc4 pm4 cd4 ct4 : Value}
    {f5 : Addr} {od5 an5 : Option Addr} {sl5 : Array (Option Value)} {oc5 kV5 dc5 pm5 cd5 ct5 : Value}
    {f6 : Addr} {od6 an6 : Option Addr} {sl6 : Array (Option Value)} {oc6 kV6 dc6 pm6 cd6 ct6 : Value}
    {f7 : Addr} {od7 an7 : Option Addr} {sl7 : Array (Option Value)} {oc7 kV7 dc7 pm7 cd7 ct7 : Value}
    {f8 : Addr} {od8 an8 : Option Addr} {sl8 : Array (Option Value)} {oc8 kV8 dc8 pm8 cd8 ct8 : Value}
    {f9 : Addr} {od9 an9 : Option Addr} {sl9 : Array (Option Value)} {oc9 kV9 dc9 pm9 cd9 ct9 : Value}
    {f10 : Addr} {od10 an10 : Option Addr} {sl10 : Array (Option Value)} {oc10 kV10 dc10 pm10 cd10 ct10 : Value}
    {f11 : Addr} {od11 an11 : Option Addr} {sl11 : Array (Option Value)} {oc11 kV11 dc11 pm11 cd11 ct11 : Value}
    {f12 : Addr} {od12 an12 : Option Addr} {sl12 : Array (Option Value)} {oc12 kV12 dc12 pm12 cd12 ct12 : Value}
    {c_MoveError : Addr}
    {c_BadWorld : Addr}
    {c_NoCaller : Addr}
    {c_NoHouse : Addr}
    {c_NoKey : Addr}
    {c_BadWish : Addr}
    {c_Busy : Addr}
    {c_Idle : Addr}
    {c_NotHere : Addr}
    {c_NoLetter : Addr}
    {t_LIMIT : Tok}
    (a1 : PySem.W.nsIn K mainGlobals "is_whole" = some (some (.ref f1)))
    (l1 : K.lookup f1 = some ⟨oc1, od1, .func (PySem.W.fnOf "is_whole" "is_whole" (defArgs s_is_whole) (defBody s_is_whole) (defScope s_is_whole) .none kV1 dc1 pm1 an1 cd1 ct1), sl1⟩)
    (c1 : PySem.W.codeIn K cd1 "is_whole" = true)
    (k1 : PySem.W.keepIn K (.ref f1) = true)
    (a2 : PySem.W.nsIn K mainGlobals "is_word" = some (some (.ref f2)))
    (l2 : K.lookup f2 = some ⟨oc2, od2, .func (PySem.W.fnOf "is_word" "is_word" (defArgs s_is_word) (defBody s_is_word) (defScope s_is_word) .none kV2 dc2 pm2 an2 cd2 ct2), sl2⟩)
    (c2 : PySem.W.codeIn K cd2 "is_word" = true)
    (k2 : PySem.W.keepIn K (.ref f2) = true)
    (a3 : PySem.W.nsIn K mainGlobals "is_wish" = some (some (.ref f3)))
    (l3 : K.lookup f3 = some ⟨oc3, od3, .func (PySem.W.fnOf "is_wish" "is_wish" (defArgs s_is_wish) (defBody s_is_wish) (defScope s_is_wish) .none kV3 dc3 pm3 an3 cd3 ct3), sl3⟩)
    (c3 : PySem.W.codeIn K cd3 "is_wish" = true)
    (k3 : PySem.W.keepIn K (.ref f3) = true)
    (a4 : PySem.W.nsIn K mainGlobals "need_wish" = some (some (.ref f4)))
    (l4 : K.lookup f4 = some ⟨oc4, od4, .func (PySem.W.fnOf "need_wish" "need_wish" (defArgs s_need_wish) (defBody s_need_wish) (defScope s_need_wish) .none kV4 dc4 pm4 an4 cd4 ct4), sl4⟩)
    (c4 : PySem.W.codeIn K cd4 "need_wish" = true)
    (k4 : PySem.W.keepIn K (.ref f4) = true)
    (a5 : PySem.W.nsIn K mainGlobals "done" = some (some (.ref f5)))
    (l5 : K.lookup f5 = some ⟨oc5, od5, .func (PySem.W.fnOf "done" "done" (defArgs s_done) (defBody s_done) (defScope s_done) .none kV5 dc5 pm5 an5 cd5 ct5), sl5⟩)
    (c5 : PySem.W.codeIn K cd5 "done" = true)
    (k5 : PySem.W.keepIn K (.ref f5) = true)
    (a6 : PySem.W.nsIn K mainGlobals "_law_cell_at" = some (some (.ref f6)))
    (l6 : K.lookup f6 = some ⟨oc6, od6, .func (PySem.W.fnOf "_law_cell_at" "_law_cell_at" (defArgs s__law_cell_at) (defBody s__law_cell_at) (defScope s__law_cell_at) .none kV6 dc6 pm6 an6 cd6 ct6), sl6⟩)
    (c6 : PySem.W.codeIn K cd6 "_law_cell_at" = true)
    (k6 : PySem.W.keepIn K (.ref f6) = true)
    (a7 : PySem.W.nsIn K mainGlobals "_law_alike" = some (some (.ref f7)))
    (l7 : K.lookup f7 = some ⟨oc7, od7, .func (PySem.W.fnOf "_law_alike" "_law_alike" (defArgs s__law_alike) (defBody s__law_alike) (defScope s__law_alike) .none kV7 dc7 pm7 an7 cd7 ct7), sl7⟩)
    (c7 : PySem.W.codeIn K cd7 "_law_alike" = true)
    (k7 : PySem.W.keepIn K (.ref f7) = true)
    (a8 : PySem.W.nsIn K mainGlobals "_law_wish" = some (some (.ref f8)))
    (l8 : K.lookup f8 = some ⟨oc8, od8, .func (PySem.W.fnOf "_law_wish" "_law_wish" (defArgs s__law_wish) (defBody s__law_wish) (defScope s__law_wish) .none kV8 dc8 pm8 an8 cd8 ct8), sl8⟩)
    (c8 : PySem.W.codeIn K cd8 "_law_wish" = true)
    (k8 : PySem.W.keepIn K (.ref f8) = true)
    (a9 : PySem.W.nsIn K mainGlobals "_law_odd" = some (some (.ref f9)))
    (l9 : K.lookup f9 = some ⟨oc9, od9, .func (PySem.W.fnOf "_law_odd" "_law_odd" (defArgs s__law_odd) (defBody s__law_odd) (defScope s__law_odd) .none kV9 dc9 pm9 an9 cd9 ct9), sl9⟩)
    (c9 : PySem.W.codeIn K cd9 "_law_odd" = true)
    (k9 : PySem.W.keepIn K (.ref f9) = true)
    (a10 : PySem.W.nsIn K mainGlobals "_law_kinds" = some (some (.ref f10)))
    (l10 : K.lookup f10 = some ⟨oc10, od10, .func (PySem.W.fnOf "_law_kinds" "_law_kinds" (defArgs s__law_kinds) (defBody s__law_kinds) (defScope s__law_kinds) .none kV10 dc10 pm10 an10 cd10 ct10), sl10⟩)
    (c10 : PySem.W.codeIn K cd10 "_law_kinds" = true)
    (k10 : PySem.W.keepIn K (.ref f10) = true)
    (a11 : PySem.W.nsIn K mainGlobals "_law_refused" = some (some (.ref f11)))
    (l11 : K.lookup f11 = some ⟨oc11, od11, .func (PySem.W.fnOf "_law_refused" "_law_refused" (defArgs s__law_refused) (defBody s__law_refused) (defScope s__law_refused) .none kV11 dc11 pm11 an11 cd11 ct11), sl11⟩)
    (c11 : PySem.W.codeIn K cd11 "_law_refused" = true)
    (k11 : PySem.W.keepIn K (.ref f11) = true)
    (a12 : PySem.W.nsIn K mainGlobals "law" = some (some (.ref f12)))
    (l12 : K.lookup f12 = some ⟨oc12, od12, .func (PySem.W.fnOf "law" "law" (defArgs s_law) (defBody s_law) (defScope s_law) .none kV12 dc12 pm12 an12 cd12 ct12), sl12⟩)
    (c12 : PySem.W.codeIn K cd12 "law" = true)
    (k12 : PySem.W.keepIn K (.ref f12) = true)
    (z_ValueError : PySem.W.nsIn K mainGlobals "ValueError" = some none)
    (z_all : PySem.W.nsIn K mainGlobals "all" = some none)
    (z_bool : PySem.W.nsIn K mainGlobals "bool" = some none)
    (z_int : PySem.W.nsIn K mainGlobals "int" = some none)
    (z_isinstance : PySem.W.nsIn K mainGlobals "isinstance" = some none)
    (z_len : PySem.W.nsIn K mainGlobals "len" = some none)
    (z_list : PySem.W.nsIn K mainGlobals "list" = some none)
    (z_range : PySem.W.nsIn K mainGlobals "range" = some none)
    (z_str : PySem.W.nsIn K mainGlobals "str" = some none)
    (z_tuple : PySem.W.nsIn K mainGlobals "tuple" = some none)
    (n_MoveError : PySem.W.nsIn K mainGlobals "MoveError" = some (some (.ref c_MoveError)))
    (n_BadWorld : PySem.W.nsIn K mainGlobals "BadWorld" = some (some (.ref c_BadWorld)))
    (n_NoCaller : PySem.W.nsIn K mainGlobals "NoCaller" = some (some (.ref c_NoCaller)))
    (n_NoHouse : PySem.W.nsIn K mainGlobals "NoHouse" = some (some (.ref c_NoHouse)))
    (n_NoKey : PySem.W.nsIn K mainGlobals "NoKey" = some (some (.ref c_NoKey)))
    (n_BadWish : PySem.W.nsIn K mainGlobals "BadWish" = some (some (.ref c_BadWish)))
    (n_Busy : PySem.W.nsIn K mainGlobals "Busy" = some (some (.ref c_Busy)))
    (n_Idle : PySem.W.nsIn K mainGlobals "Idle" = some (some (.ref c_Idle)))
    (n_NotHere : PySem.W.nsIn K mainGlobals "NotHere" = some (some (.ref c_NotHere)))
    (n_NoLetter : PySem.W.nsIn K mainGlobals "NoLetter" = some (some (.ref c_NoLetter)))
    (e_k_BW : PySem.W.keepIn K (.ref c_BadWish) = true)
    (e_s_BW : PySem.W.subIn K (.ref c_BadWish) (.type "BaseException") = some true)
    (e_t_BW : PySem.W.typeIn K (.ref c_BadWish) = some (.type "type"))
    (e_s_ME : PySem.W.subIn K (.ref c_MoveError) (.type "BaseException") = some true)
    (e_t_ME : PySem.W.typeIn K (.ref c_MoveError) = some (.type "type"))
    (e_h_ME : PySem.W.hasDictIn K c_MoveError = true)
    (e_s_BWME : PySem.W.subIn K (.ref c_BadWish) (.ref c_MoveError) = some true)
    (e_x_hg : PySem.W.findIn K (.ref c_BadWish) "__getattribute__" = some (some (.builtin "BaseException.__getattribute__")))
    (e_x_hk : PySem.W.findIn K (.ref c_BadWish) "__getattr__" = some none)
    (e_x_hd : PySem.W.hasDictIn K c_BadWish = true)
    (e_x_ha : PySem.W.findIn K (.ref c_BadWish) "__class__" = some (some (.builtin "object.__class__")))
    (e_x_hn : PySem.W.specialIn K (.builtin "object.__class__") "__get__" = some (some (.builtin "getset_descriptor.__get__")))
    (e_x_ht : PySem.W.takesIn K (.builtin "object.__class__") = some true)
    (e_x_hm : PySem.W.mroIn K c_BadWish (.type "object") = some true)
    (e_x_in : PySem.W.excIn K c_BadWish [.type "ValueError", .type "Exception", .type "BaseException", .type "object"] "ValueError.__new__" = true)
    (e_i_VE : PySem.W.kitOne K (.ref c_BadWish) (.type "ValueError") = some true)
    (e_i_BadWorld : PySem.W.kitOne K (.ref c_BadWish) (.ref c_BadWorld) = some false)
    (e_i_NoCaller : PySem.W.kitOne K (.ref c_BadWish) (.ref c_NoCaller) = some false)
    (e_i_NoHouse : PySem.W.kitOne K (.ref c_BadWish) (.ref c_NoHouse) = some false)
    (e_i_NoKey : PySem.W.kitOne K (.ref c_BadWish) (.ref c_NoKey) = some false)
    (e_i_BadWish : PySem.W.kitOne K (.ref c_BadWish) (.ref c_BadWish) = some true)
    (e_i_Busy : PySem.W.kitOne K (.ref c_BadWish) (.ref c_Busy) = some false)
    (e_i_Idle : PySem.W.kitOne K (.ref c_BadWish) (.ref c_Idle) = some false)
    (e_i_NotHere : PySem.W.kitOne K (.ref c_BadWish) (.ref c_NotHere) = some false)
    (e_i_NoLetter : PySem.W.kitOne K (.ref c_BadWish) (.ref c_NoLetter) = some false)
    (y_LIMIT : PySem.W.nsIn K mainGlobals "LIMIT" = some (some (.int (10 ^ 30) t_LIMIT))) :
    ∃ A : Adr, Txt K mg A ∧ fa = A.f_law ∧ ∀ (s : Shared) (v : Value), BindsTo s A.d_law ⟨[v], []⟩ [("_law_script", v)] := by
  have e : f12 = fa := by
    have e := (PySem.W.mg_of X G a12).symm.trans hfa
    injection e with e; injection e
  subst e
  have F1 := fun_mk (st := s_is_whole) l1 c1 k1
  have b1 := F1.binds (ps := ["value"]) fun _ _ _ _ _ _ us hl => match us, hl with | [_], _ => rfl
  have F2 := fun_mk (st := s_is_word) l2 c2 k2
  have b2 := F2.binds (ps := ["value", "words"]) fun _ _ _ _ _ _ us hl => match us, hl with | [_, _], _ => rfl
  have F3 := fun_mk (st := s_is_wish) l3 c3 k3
  have b3 := F3.binds (ps := ["wish"]) fun _ _ _ _ _ _ us hl => match us, hl with | [_], _ => rfl
  have F4 := fun_mk (st := s_need_wish) l4 c4 k4
  have b4 := F4.binds (ps := ["wish"]) fun _ _ _ _ _ _ us hl => match us, hl with | [_], _ => rfl
  have F5 := fun_mk (st := s_done) l5 c5 k5
  have b5 := F5.binds (ps := ["amount", "wish"]) fun _ _ _ _ _ _ us hl => match us, hl with | [_, _], _ => rfl
  have F6 := fun_mk (st := s__law_cell_at) l6 c6 k6
  have b6 := F6.binds (ps := ["_law_script", "_law_k"]) fun _ _ _ _ _ _ us hl => match us, hl with | [_, _], _ => rfl
  have F7 := fun_mk (st := s__law_alike) l7 c7 k7
  have b7 := F7.binds (ps := ["_law_found", "_law_due"]) fun _ _ _ _ _ _ us hl => match us, hl with | [_, _], _ => rfl
  have F8 := fun_mk (st := s__law_wish) l8 c8 k8
  have b8 := F8.binds (ps := ["_law_cell"]) fun _ _ _ _ _ _ us hl => match us, hl with | [_], _ => rfl
  have F9 := fun_mk (st := s__law_odd) l9 c9 k9
  have b9 := F9.binds (ps := ["_law_cell"]) fun _ _ _ _ _ _ us hl => match us, hl with | [_], _ => rfl
  have F10 := fun_mk (st := s__law_kinds) l10 c10 k10
  have b10 := F10.binds (ps := ["_law_e"]) fun _ _ _ _ _ _ us hl => match us, hl with | [_], _ => rfl
  have F11 := fun_mk (st := s__law_refused) l11 c11 k11
  have b11 := F11.binds (ps := ["_law_thing"]) fun _ _ _ _ _ _ us hl => match us, hl with | [_], _ => rfl
  have F12 := fun_mk (st := s_law) l12 c12 k12
  have b12 := F12.binds (ps := ["_law_script"]) fun _ _ _ _ _ _ us hl => match us, hl with | [_], _ => rfl
  exact ⟨⟨f1, PySem.W.fnOf "is_whole" "is_whole" (defArgs s_is_whole) (defBody s_is_whole) (defScope s_is_whole) .none kV1 dc1 pm1 an1 cd1 ct1, f2, PySem.W.fnOf "is_word" "is_word" (defArgs s_is_word) (defBody s_is_word) (defScope s_is_word) .none kV2 dc2 pm2 an2 cd2 ct2, f3, PySem.W.fnOf "is_wish" "is_wish" (defArgs s_is_wish) (defBody s_is_wish) (defScope s_is_wish) .none kV3 dc3 pm3 an3 cd3 ct3, f4, PySem.W.fnOf "need_wish" "need_wish" (defArgs s_need_wish) (defBody s_need_wish) (defScope s_need_wish) .none kV4 dc4 pm4 an4 cd4 ct4, f5, PySem.W.fnOf "done" "done" (defArgs s_done) (defBody s_done) (defScope s_done) .none kV5 dc5 pm5 an5 cd5 ct5, f6, PySem.W.fnOf "_law_cell_at" "_law_cell_at" (defArgs s__law_cell_at) (defBody s__law_cell_at) (defScope s__law_cell_at) .none kV6 dc6 pm6 an6 cd6 ct6, f7, PySem.W.fnOf "_law_alike" "_law_alike" (defArgs s__law_alike) (defBody s__law_alike) (defScope s__law_alike) .none kV7 dc7 pm7 an7 cd7 ct7, f8, PySem.W.fnOf "_law_wish" "_law_wish" (defArgs s__law_wish) (defBody s__law_wish) (defScope s__law_wish) .none kV8 dc8 pm8 an8 cd8 ct8, f9, PySem.W.fnOf "_law_odd" "_law_odd" (defArgs s__law_odd) (defBody s__law_odd) (defScope s__law_odd) .none kV9 dc9 pm9 an9 cd9 ct9, f10, PySem.W.fnOf "_law_kinds" "_law_kinds" (defArgs s__law_kinds) (defBody s__law_kinds) (defScope s__law_kinds) .none kV10 dc10 pm10 an10 cd10 ct10, f11, PySem.W.fnOf "_law_refused" "_law_refused" (defArgs s__law_refused) (defBody s__law_refused) (defScope s__law_refused) .none kV11 dc11 pm11 an11 cd11 ct11, f12, PySem.W.fnOf "law" "law" (defArgs s_law) (defBody s_law) (defScope s_law) .none kV12 dc12 pm12 an12 cd12 ct12, c_MoveError, c_BadWorld, c_NoCaller, c_NoHouse, c_NoKey, c_BadWish, c_Busy, c_Idle, c_NotHere, c_NoLetter⟩, ⟨F1, b1, PySem.W.mg_of X G a1, F2, b2, PySem.W.mg_of X G a2, F3, b3, PySem.W.mg_of X G a3, F4, b4, PySem.W.mg_of X G a4, F5, b5, PySem.W.mg_of X G a5, F6, b6, PySem.W.mg_of X G a6, F7, b7, PySem.W.mg_of X G a7, F8, b8, PySem.W.mg_of X G a8, F9, b9, PySem.W.mg_of X G a9, F10, b10, PySem.W.mg_of X G a10, F11, b11, PySem.W.mg_of X G a11, F12, b12, PySem.W.mg_of X G a12, PySem.W.mg_none_of X G z_ValueError, PySem.W.mg_none_of X G z_all, PySem.W.mg_none_of X G z_bool, PySem.W.mg_none_of X G z_int, PySem.W.mg_none_of X G z_isinstance, PySem.W.mg_none_of X G z_len, PySem.W.mg_none_of X G z_list, PySem.W.mg_none_of X G z_range, PySem.W.mg_none_of X G z_str, PySem.W.mg_none_of X G z_tuple, PySem.W.mg_of X G n_MoveError, PySem.W.mg_of X G n_BadWorld, PySem.W.mg_of X G n_NoCaller, PySem.W.mg_of X G n_NoHouse, PySem.W.mg_of X G n_NoKey, PySem.W.mg_of X G n_BadWish, PySem.W.mg_of X G n_Busy, PySem.W.mg_of X G n_Idle, PySem.W.mg_of X G n_NotHere, PySem.W.mg_of X G n_NoLetter, e_k_BW, e_s_BW, e_t_BW, e_s_ME, e_t_ME, e_h_ME, e_s_BWME, e_x_hg, e_x_hk, e_x_hd, e_x_ha, e_x_hn, e_x_ht, e_x_hm, e_x_in, e_i_VE, e_i_BadWorld, e_i_NoCaller, e_i_NoHouse, e_i_NoKey, e_i_BadWish, e_i_Busy, e_i_Idle, e_i_NotHere, e_i_NoLetter, ⟨_, PySem.W.mg_of X G y_LIMIT⟩⟩, rfl, fun s v => .of_eq rfl⟩
end L
namespace L
open PySem L2 Wk
open PyProof.Rows
open Evl (Ex)
open L2H (RoomH Hot1 cxH)
section
local macro_rules | `(tactic| walk_at "kit") => `(tactic| first | exact kit_NoneType_list | exact kit_NoneType_tuple | exact kit_NoneType_str | exact kit_NoneType_int | exact kit_NoneType_bool | exact kit_NoneType_dict | exact kit_bool_list | exact kit_bool_tuple | exact kit_bool_str | exact kit_bool_int | exact kit_bool_bool | exact kit_bool_dict | exact kit_int_list | exact kit_int_tuple | exact kit_int_str | exact kit_int_int | exact kit_int_bool | exact kit_int_dict | exact kit_str_list | exact kit_str_tuple | exact kit_str_str | exact kit_str_int | exact kit_str_bool | exact kit_str_dict | exact kit_list_list | exact kit_list_tuple | exact kit_list_str | exact kit_list_int | exact kit_list_bool | exact kit_list_dict | exact kit_tuple_list | exact kit_tuple_tuple | exact kit_tuple_str | exact kit_tuple_int | exact kit_tuple_bool | exact kit_tuple_dict | exact kit_dict_list | exact kit_dict_tuple | exact kit_dict_str | exact kit_dict_int | exact kit_dict_bool | exact kit_dict_dict)
local macro_rules | `(tactic| walk_at "bin") => `(tactic| first
  | exact .add _ _ | exact .sub _ _ | exact .mul _ _ (.inr ⟨by decide, by decide⟩) | exact .mul _ _ (.inl ⟨by decide, by decide⟩) | exact .fdiv _ _ ⟨by decide, by decide⟩ | exact .mod _ _ (by decide) | exact .mod _ _ (by omega)
  | exact .pow _ _ ⟨by decide, by decide, by decide⟩)
local macro_rules | `(tactic| walk_at "cmp") => `(tactic| first
  | exact .eqI _ _ | exact .neI _ _ | exact .eqS _ _ | exact .neS _ _ | exact .eqB _ _ | exact .neB _ _ | exact .lt _ _ | exact .le _ _ | exact .gt _ _ | exact .ge _ _ | exact .isN _ _ (by simp) | exact .notN _ _ (by simp))
local macro_rules | `(tactic| walk_at "idx") => `(tactic| first | assumption | exact .tup _ _ _ rfl | exact .lst _ _ _ rfl | exact .lst _ _ _ (by assumption) | exact .tup _ _ _ (by assumption))
local macro_rules | `(tactic| walk_at "kind") => `(tactic| first | exact .int _ | exact .str _ | exact .lst _ | exact .tup _ | exact .non | exact .bl _ | assumption)
local macro_rules | `(tactic| walk_at "es") => `(tactic| first
  | assumption
  | exact es_int _ | exact es_str _ | exact es_bl _ | exact es_non | exact es_var rfl | exact es_at _
  | (refine' es_bin (op := _) ?e1 ?e2 ?e3 ?e4; (case e1 => walk_at "ep"); (case e2 => walk_at "ep"); (case e3 => walk_at "bin"); (case e4 => rfl))
  | (refine' es_cmp ?e1 ?e2 ?e3; (case e1 => walk_at "ep"); (case e2 => walk_at "ep"); (case e3 => walk_at "cmp"))
  | (refine' es_idx ?e1 ?e2 ?e3 ?e4; (case e1 => walk_at "ep"); (case e2 => walk_at "ep"); (case e3 => walk_at "idx"); (case e4 => first | rfl | assumption))
  | (refine' es_tupD ?e1 ?e3; (case e1 => walk_at "ead"); (case e3 => exact Nat.le_of_ble_eq_true rfl))
  | (refine' es_lstD ?e1 ?e3; (case e1 => walk_at "ead"); (case e3 => exact Nat.le_of_ble_eq_true rfl))
  | (refine' es_lstF ?e1 ?e3; (case e1 => walk_at "ead"); (case e3 => exact Nat.le_of_ble_eq_true rfl))
  | (refine' es_len ?e1 ?e2; (case e1 => walk_at "ep"); (case e2 => first | exact .lst _ | exact .tup _ | exact .str _ (by assumption)))
  | (refine' es_isi ?e1 ?e2 ?e3 ?e4; (case e1 => walk_at "ep"); (case e2 => exact es_at _); (case e3 => walk_at "kind"); (case e4 => walk_at "kit"))
  | (refine' es_isi2 ?e1 ?e2 ?e3 ?e4 ?e5 ?e6; (case e1 => walk_at "ep"); (case e2 => exact es_at _); (case e3 => exact es_at _); (case e4 => walk_at "kind"); (case e5 => walk_at "kit"); (case e6 => walk_at "kit"))
  | (refine' es_notV ?e1; (case e1 => walk_at "es"))
  | (refine' es_neg ?e1; (case e1 => walk_at "es"))
  | (refine' es_andV ?e1 ?e2; (case e1 => walk_at "es"); (case e2 => intro _; walk_at "es"))
  | (refine' es_orV ?e1 ?e2; (case e1 => walk_at "es"); (case e2 => intro _; walk_at "es"))
  | exact es_dct)
local macro_rules | `(tactic| walk_at "ep") => `(tactic| first | exact ep_own rfl | (refine' ep_idx ?e1 ?e2 ?e3; (case e1 => walk_at "ep"); (case e2 => walk_at "ep"); (case e3 => walk_at "idx")) | (refine' ep_of ?e1; (case e1 => walk_at "es")))
local macro_rules | `(tactic| walk_at "ea") => `(tactic| first | exact ea_nil | (refine' ea_cons ?e1 ?e2; (case e1 => walk_at "es"); (case e2 => walk_at "ea")))
local macro_rules | `(tactic| walk_at "ead") => `(tactic| first | exact ead_nil | (refine' ead_cons ?e1 ?e2; (case e1 => walk_at "es"); (case e2 => walk_at "ead")))
local macro_rules | `(tactic| walk_at "eh") => `(tactic| first | exact eh_nil | (refine' eh_cons ?e1 ?e2; (case e1 => walk_at "ep"); (case e2 => walk_at "eh")))
local macro_rules | `(tactic| walk_at "et") => `(tactic| first
  | (refine' et_test ?e1; (case e1 => walk_at "es"))
  | (refine' et_B ?e1; (case e1 => walk_at "es"))
  | (refine' et_not ?e1; (case e1 => walk_at "et"))
  | (refine' et_or ?e1 ?e2; (case e1 => walk_at "et"); (case e2 => intro _; walk_at "et"))
  | (refine' et_and ?e1 ?e2; (case e1 => walk_at "et"); (case e2 => intro _; walk_at "et")))
local macro_rules | `(tactic| walk_at "yes") => `(tactic| (refine' sx_ifY ?x1 ?x2 ?h1; (case x1 => walk_at "et"); (case x2 => first | rfl | decide | simp)))
local macro_rules | `(tactic| walk_at "no") => `(tactic| (refine' sx_ifN ?x1 ?x2 ?h1; (case x1 => walk_at "et"); (case x2 => first | rfl | decide | simp)))
local macro_rules | `(tactic| walk_at "ret") => `(tactic| first | (refine' sx_ret ?x1; (case x1 => walk_at "es")) | (refine' sx_retS ?x1; (case x1 => walk_at "es")))
local macro_rules | `(tactic| walk_at "tg") => `(tactic| first | exact tg_name | exact tg_tup (tgs_cons tg_name (tgs_cons tg_name tgs_nil)) rfl | exact tg_tup (tgs_cons tg_name (tgs_cons tg_name (tgs_cons tg_name tgs_nil))) rfl | exact tg_tup (tgs_cons tg_name (tgs_cons tg_name (tgs_cons tg_name (tgs_cons tg_name tgs_nil)))) rfl)
local macro_rules | `(tactic| walk_at "set") => `(tactic| first
  | (refine' sx_seq (sx_asg ?x1) ?h1; (case x1 => walk_at "es"))
  | (refine' sx_seq (sx_asgT ?x1 ?x2) ?h1; (case x1 => walk_at "es"); (case x2 => walk_at "tg")))

/-- a wish as data -/
inductive Wish where
  | get | set (n : Int) | add (n : Int)
def Wish.d : Wish → PyData
  | .get => .tuple [.str "get"]
  | .set n => .tuple [.str "set", .int n]
  | .add n => .tuple [.str "add", .int n]
def Wish.done : Wish → Int → Int × Int
  | .get, a => (a, a)
  | .set n, a => (n, a)
  | .add n, a => (a + n, a + n)
def R_done (ss : List Sl) (s : Sl) : Prop := ∃ (a : Int) (w : Wish), ss = [.py (.int a), .py w.d] ∧ s = .py (.tuple [.int (w.done a).1, .int (w.done a).2])
theorem no2 {a b : PyData} : ∀ x ∈ [Sl.py a, Sl.py b], x.isOwn = false := fun x hx => by
  simp only [List.mem_cons, List.not_mem_nil, or_false] at hx
  rcases hx with rfl | rfl <;> rfl
theorem no1 {a : PyData} : ∀ x ∈ [Sl.py a], x.isOwn = false := fun x hx => by
  simp only [List.mem_cons, List.not_mem_nil, or_false] at hx
  subst hx
  rfl
variable {P : Program} {w : World} {K : PySem.W.Frag} {mg : Str → Option Value} {base : Heap} {A : Adr}
theorem ok_done (T : Txt K mg A) : FnOk P w K mg base CX0 1 A.f_done A.d_done ["amount", "wish"] (PSp K R_done) := by
  refine pure_ok T.F_done sc_done (fun ss s ⟨_, _, e, _⟩ => by rw [e]; rfl) (fun ss s ⟨_, _, e, _⟩ => by rw [e]; exact no2) (by decide) (fun cdv A outer s H E hr => ?_)
  have hu := hr.units
  refine ⟨_, (pss_cons (ps_if (pt_cmpR (cmp_ K _ hu) (pe_ix (idx_ K) (pv 1) pe_int (fun _ _ => rfl)) pe_str (nomark _)) (pss_one (ps_ret (pe_tup (pa_cons (pv 0) (pa_cons (pv 0) pa_nil))))) pss_nil)
    (pss_cons (ps_asg (pv 1) (pg_tup (by rfl) (pgs_cons (pg_name (i := 2) sc_done.nd rfl (Or.inl rfl)) (pgs_cons (pg_name (i := 3) sc_done.nd rfl (Or.inl rfl)) pgs_nil))))
    (pss_cons (ps_if (pt_cmpR (cmp_ K _ hu) (pv 2) pe_str (nomark _)) (pss_one (ps_ret (pe_tup (pa_cons (pv 3) (pa_cons (pv 0) pa_nil))))) pss_nil)
    (pss_one (ps_ret (pe_tup (pa_cons (pe_op (bin_ K _) (pv 0) (pv 3)) (pa_cons (pe_op (bin_ K _) (pv 0) (pv 3)) pa_nil)))))))), fun ss r hR => .inl ?_⟩
  obtain ⟨a, w, rfl, rfl⟩ := hR
  cases w with
  | get => walk_at "yes"; walk_at "ret"
  | set n =>
    walk_at "no"
    refine' sx_seq (sx_asgT (d := (Wish.set n).d) ?x1 ?x2) ?h1
    (case x1 => walk_at "es")
    (case x2 => walk_at "tg")
    (case h1 => walk_at "yes"; walk_at "ret")
  | add n =>
    walk_at "no"
    refine' sx_seq (sx_asgT (d := (Wish.add n).d) ?x1 ?x2) ?h1
    (case x1 => walk_at "es")
    (case x2 => walk_at "tg")
    (case h1 => walk_at "no"; walk_at "ret")
/-! the law's own reader of a cell -/
def cellAt (ns : List Int) (k : Nat) : Int := (ns[k]?).getD 0
def R_cell (ss : List Sl) (s : Sl) : Prop := ∃ (ns : List Int) (k : Nat), ss = [.py (.list (ns.map PyData.int)), .py (.int k)] ∧ s = .py (.int (cellAt ns k))
theorem ok__law_cell_at (T : Txt K mg A) : FnOk P w K mg base CX0 1 A.f__law_cell_at A.d__law_cell_at ["_law_script", "_law_k"] (PSp K R_cell) := by
  refine pure_ok T.F__law_cell_at sc__law_cell_at (fun ss s ⟨_, _, e, _⟩ => by rw [e]; rfl) (fun ss s ⟨_, _, e, _⟩ => by rw [e]; exact no2) (by decide) (fun cdv A outer s H E hr => ?_)
  have hu := hr.units
  refine ⟨_, (pss_cons (ps_if (pt_cmpR (cmp_ K _ hu) (pv 1) (pe_callB (len_ K) (by rfl) T.b_len (by decide +kernel) (pa_cons (pv 0) pa_nil)) (nomark _)) (pss_one (ps_ret (pe_ix (idx_ K) (pv 0) (pv 1) (fun _ _ => rfl)))) pss_nil)
    (pss_one (ps_ret pe_int))), fun ss r hR => .inl ?_⟩
  obtain ⟨ns, k, rfl, rfl⟩ := hR
  refine' sx_ifs ?x (fun h => sx_stop (sx_ret ?y) rfl) (fun h => sx_skip (sx_ret ?z))
  (case x => walk_at "et")
  (case y =>
    have h := of_decide_eq_true h
    rw [List.length_map] at h
    have hk : k < ns.length := by omega
    have e : ns[k]? = some ns[k] := List.getElem?_eq_getElem hk
    have hi : Idx (.list (ns.map PyData.int)) (.int k) (.int (cellAt ns k)) := .lst _ _ _ (atI_nat (by rw [List.getElem?_map, e]; simp [cellAt, e]))
    walk_at "es")
  (case z =>
    have h := of_decide_eq_false h
    rw [List.length_map] at h
    have e : ns[k]? = none := List.getElem?_eq_none (by omega)
    have : cellAt ns k = 0 := by simp [cellAt, e]
    rw [this]
    walk_at "es")

/-! the law's wish -/
def wishOf (c : Int) : Wish :=
  let n := if c / 3 % 2 = 1 then c / 6 % (2 * 10 ^ 30 + 1) - 10 ^ 30 else c / 6 % 7 - 3
  if c % 3 = 0 then .get else if c % 3 = 1 then .set n else .add n
def R_wish (ss : List Sl) (s : Sl) : Prop := ∃ c : Int, ss = [.py (.int c)] ∧ s = .py (wishOf c).d
theorem noList_wish (w : Wish) : noList w.d = true := by cases w <;> rfl
theorem pick3 {c : Int} {n : Int} : Idx (.list [.tuple [.str "get"], .tuple [.str "set", .int n], .tuple [.str "add", .int n]]) (.int (c % 3)) (if c % 3 = 0 then Wish.get else if c % 3 = 1 then .set n else .add n).d := by
  have h : c % 3 = 0 ∨ c % 3 = 1 ∨ c % 3 = 2 := by omega
  rcases h with h | h | h <;> rw [h] <;> exact .lst _ _ _ rfl
theorem ok__law_wish (T : Txt K mg A) : FnOk P w K mg base CX0 1 A.f__law_wish A.d__law_wish ["_law_cell"] (PSp K R_wish) := by
  refine pure_ok T.F__law_wish sc__law_wish (fun ss s ⟨_, e, _⟩ => by rw [e]; rfl) (fun ss s ⟨_, e, _⟩ => by rw [e]; exact no1) (by decide) (fun cdv A outer s H E hr => ?_)
  have hu := hr.units
  refine ⟨_, (pss_cons (ps_set (i := 1) sc__law_wish.nd rfl (Or.inl rfl) (pe_op (bin_ K _) (pe_op (bin_ K _) (pe_op (bin_ K _) (pv 0) pe_int) pe_int) pe_int))
    (pss_cons (ps_if (pt_cmpR (cmp_ K _ hu) (pe_op (bin_ K _) (pe_op (bin_ K _) (pv 0) pe_int) pe_int) pe_int (nomark _)) (pss_one (ps_set (i := 1) sc__law_wish.nd rfl (Or.inl rfl) (pe_op (bin_ K _) (pe_op (bin_ K _) (pe_op (bin_ K _) (pv 0) pe_int) (pe_op (bin_ K _) (pe_op (bin_ K _) pe_int (pe_op (bin_ K _) pe_int pe_int)) pe_int)) (pe_op (bin_ K _) pe_int pe_int)))) pss_nil)
    (pss_one (ps_ret (pe_ix (idx_ K) (pe_lst (pa_cons (pe_tup (pa_cons pe_str pa_nil)) (pa_cons (pe_tup (pa_cons pe_str (pa_cons (pv 1) pa_nil))) (pa_cons (pe_tup (pa_cons pe_str (pa_cons (pv 1) pa_nil))) pa_nil)))) (pe_op (bin_ K _) (pv 0) pe_int) (fun _ _ => rfl)))))), fun ss r hR => .inl ?_⟩
  obtain ⟨c, rfl, rfl⟩ := hR
  walk_at "set"
  have hn := noList_wish (wishOf c)
  have e3 : ((10 : Int) ^ (30 : Int).toNat) = 10 ^ 30 := rfl
  refine' sx_ifs ?x ?y ?z
  (case x => walk_at "et")
  (case y =>
    intro h
    have h := of_decide_eq_true h
    walk_at "set"
    have hp : Idx (.list [.tuple [.str "get"], .tuple [.str "set", .int (c / 6 % (2 * 10 ^ 30 + 1) - 10 ^ 30)], .tuple [.str "add", .int (c / 6 % (2 * 10 ^ 30 + 1) - 10 ^ 30)]]) (.int (c % 3)) (wishOf c).d := by
      have := pick3 (c := c) (n := c / 6 % (2 * 10 ^ 30 + 1) - 10 ^ 30)
      unfold wishOf
      rw [if_pos h]
      exact this
    walk_at "ret")
  (case z =>
    intro h
    have h := of_decide_eq_false h
    refine sx_skip ?_
    have hp : Idx (.list [.tuple [.str "get"], .tuple [.str "set", .int (c / 6 % 7 - 3)], .tuple [.str "add", .int (c / 6 % 7 - 3)]]) (.int (c % 3)) (wishOf c).d := by
      have := pick3 (c := c) (n := c / 6 % 7 - 3)
      unfold wishOf
      rw [if_neg h]
      exact this
    walk_at "ret")
/-! alike: of equal data -/
mutual
def plain : Nat → PyData → Bool
  | _, .int _ => true
  | _, .str x => PyData.strOk x
  | n + 1, .list ds => decide (ds.length ≤ 1000) && plains n ds
  | n + 1, .tuple ds => decide (ds.length ≤ 1000) && plains n ds
  | _, _ => false
def plains : Nat → List PyData → Bool
  | _, [] => true
  | n, d :: ds => plain n d && plains n ds
end
theorem plains_mem {n : Nat} : ∀ {ds : List PyData} {d : PyData}, plains n ds = true → d ∈ ds → plain n d = true
  | a :: l, d, h, m => by
    simp only [plains, Bool.and_eq_true] at h
    rcases List.mem_cons.mp m with e | m
    · rw [e]; exact h.1
    · exact plains_mem h.2 m
theorem plains_of {n : Nat} : ∀ {ds : List PyData}, (∀ d ∈ ds, plain n d = true) → plains n ds = true
  | [], _ => by simp [plains]
  | a :: l, h => by simp only [plains, Bool.and_eq_true]; exact ⟨h a (by simp), plains_of fun d hd => h d (by simp [hd])⟩
def R_alike (n : Nat) (ss : List Sl) (s : Sl) : Prop := ∃ d, plain n d = true ∧ ss = [.py d, .py d] ∧ s = .py (.bool true)
theorem all_true (n : Nat) : (((List.range n).map fun _ => true).all id) = true := by simp
theorem alike_items {n : Nat} {ds : List PyData} (h : plains n ds = true) {i : Nat} (hi : i < ds.length) : ∃ d, plain n d = true ∧ atI ds (i : Int) = some d := by
  have e : ds[i]? = some ds[i] := List.getElem?_eq_getElem hi
  exact ⟨ds[i], plains_mem h (List.getElem_mem hi), atI_nat e⟩
def R_alike' : Nat → List Sl → Sl → Prop
  | 0 => fun _ _ => False
  | n + 1 => R_alike n
theorem no_alike {f : Addr} {fd : FuncData} : FnOk P w K mg base CX0 0 f fd ["_law_found", "_law_due"] (PSp K (R_alike' 0)) :=
  ⟨fun vs H Q E h => by obtain ⟨_, _, _, z, _⟩ := h; exact z.elim, fun A outer s H args us vs Q E _ _ _ _ h => by obtain ⟨_, _, _, z, _⟩ := h; exact z.elim⟩
theorem range_int (m : Nat) : ((m : Int)).toNat = m := Int.toNat_natCast m
theorem trues (m : Nat) : (List.range m).map (fun _ => PyData.bool true) = ((List.range m).map fun _ => true).map PyData.bool := by simp
theorem alike_turn {n : Nat} (T : Txt K mg A) (G__law_alike : FnOk P w K mg base CX0 n A.f__law_alike A.d__law_alike ["_law_found", "_law_due"] (PSp K (R_alike' n))) : FnOk P w K mg base CX0 (n + 1) A.f__law_alike A.d__law_alike ["_law_found", "_law_due"] (PSp K (R_alike n)) := by
  refine pure_ok T.F__law_alike sc__law_alike (fun ss s ⟨_, _, e, _⟩ => by rw [e]; rfl) (fun ss s ⟨_, _, e, _⟩ => by rw [e]; exact no2) (by decide) (fun cdv A outer s H E hr => ?_)
  have hu := hr.units
  refine ⟨_, (pss_cons (ps_if (pt_val (pe_callB (isi2_ K) (by rfl) T.b_isinstance (by decide +kernel) (pa_cons (pv 1) (pa_cons (pe_tup (pa_cons (pe_bltn (v := .ty "list") (by rfl) T.b_list (by decide +kernel) rfl) (pa_cons (pe_bltn (v := .ty "tuple") (by rfl) T.b_tuple (by decide +kernel) rfl) pa_nil))) pa_nil)))) (pss_cons (ps_if (PW.pt (pw_or (pt_cmpR (cmp_ K _ hu) (pe_callB (isi_ K) (by rfl) T.b_isinstance (by decide +kernel) (pa_cons (pv 1) (pa_cons (pe_bltn (v := .ty "list") (by rfl) T.b_list (by decide +kernel) rfl) pa_nil))) (pe_callB (isi_ K) (by rfl) T.b_isinstance (by decide +kernel) (pa_cons (pv 0) (pa_cons (pe_bltn (v := .ty "list") (by rfl) T.b_list (by decide +kernel) rfl) pa_nil))) (nomark _)) (pw_or1 (pt_cmpR (cmp_ K _ hu) (pe_callB (isi_ K) (by rfl) T.b_isinstance (by decide +kernel) (pa_cons (pv 1) (pa_cons (pe_bltn (v := .ty "tuple") (by rfl) T.b_tuple (by decide +kernel) rfl) pa_nil))) (pe_callB (isi_ K) (by rfl) T.b_isinstance (by decide +kernel) (pa_cons (pv 0) (pa_cons (pe_bltn (v := .ty "tuple") (by rfl) T.b_tuple (by decide +kernel) rfl) pa_nil))) (nomark _))))) (pss_one (ps_ret pe_bl)) pss_nil)
    (pss_cons (ps_if (pt_cmpR (cmp_ K _ hu) (pe_callB (len_ K) (by rfl) T.b_len (by decide +kernel) (pa_cons (pv 0) pa_nil)) (pe_callB (len_ K) (by rfl) T.b_len (by decide +kernel) (pa_cons (pv 1) pa_nil)) (nomark _)) (pss_one (ps_ret pe_bl)) pss_nil)
    (pss_one (ps_ret (pe_callB (cr_all rfl) (by rfl) T.b_all (by decide +kernel) (pa_cons (pe_lc (own := [("_law_k", 2)]) (g := gName 2) (tt := tYes) rfl sc__law_alike.nd (pi_range1 (by rfl) T.b_range (pa_cons (pe_callB (len_ K) (by rfl) T.b_len (by decide +kernel) (pa_cons (pv 1) pa_nil)) pa_nil)) (blkOk_by (N := ["_law_found", "_law_due", "_law_k"]) (sc := defScope s__law_alike) (by decide +kernel)) (fun _ _ _ _ _ => (pg_name (i := 2) sc__law_alike.nd rfl (Or.inl rfl))) (fun _ _ _ _ _ => pts_nil) (fun _ _ _ _ _ => (pe_call (G__law_alike) hr (by rfl) T.m__law_alike T.F__law_alike.kp T.B__law_alike .nil pass0 (pa_cons (pe_ix (idx_ K) (pv 0) (pv 2) (fun _ _ => rfl)) (pa_cons (pe_ix (idx_ K) (pv 1) (pv 2) (fun _ _ => rfl)) pa_nil))))) pa_nil)))))) pss_nil)
    (pss_cons (ps_if (pt_val (pe_callB (isi_ K) (by rfl) T.b_isinstance (by decide +kernel) (pa_cons (pv 1) (pa_cons (pe_bltn (v := .ty "str") (by rfl) T.b_str (by decide +kernel) rfl) pa_nil)))) (pss_one (ps_ret (pe_and (pe_callB (isi_ K) (by rfl) T.b_isinstance (by decide +kernel) (pa_cons (pv 0) (pa_cons (pe_bltn (v := .ty "str") (by rfl) T.b_str (by decide +kernel) rfl) pa_nil))) (pe_one (pe_cmpR (cmp_ K _ hu) (pv 0) (pv 1) (nomark _)))))) pss_nil)
    (pss_one (ps_ret (pe_and (pe_callB (isi_ K) (by rfl) T.b_isinstance (by decide +kernel) (pa_cons (pv 0) (pa_cons (pe_bltn (v := .ty "int") (by rfl) T.b_int (by decide +kernel) rfl) pa_nil))) (pe_and (pe_not (pe_callB (isi_ K) (by rfl) T.b_isinstance (by decide +kernel) (pa_cons (pv 0) (pa_cons (pe_bltn (v := .ty "bool") (by rfl) T.b_bool (by decide +kernel) rfl) pa_nil)))) (pe_one (pe_cmpR (cmp_ K _ hu) (pv 0) (pv 1) (nomark _))))))))), fun ss r hR => .inl ?_⟩
  obtain ⟨d, hp, rfl, rfl⟩ := hR
  cases d with
  | none => simp [plain] at hp
  | bool b => simp [plain] at hp
  | dict l => simp [plain] at hp
  | int i =>
    walk_at "no"
    walk_at "no"
    refine' sx_ret (Es.is ?x ?y)
    (case x => walk_at "es")
    (case y => simp)
  | str i =>
    walk_at "no"
    walk_at "yes"
    refine' sx_retS (Es.is ?x ?y)
    (case x => walk_at "es")
    (case y => simp)
  | list ds =>
    cases n with
    | zero => simp [plain] at hp
    | succ n =>
      simp only [plain, Bool.and_eq_true, decide_eq_true_eq] at hp
      walk_at "yes"
      refine sx_stop ?_ rfl
      walk_at "no"
      walk_at "no"
      refine' sx_ret (Es.is (es_all (bs := (List.range ds.length).map fun _ => true) (es_freeze (Es.is (es_lcR (fun _ => PyData.bool true) ?a ?b ?c) ?d))) ?e)
      (case a => exact ea_cons (by walk_at "es") ea_nil)
      (case b => omega)
      (case c =>
        intro i hi
        obtain ⟨x, hx, ha⟩ := alike_items hp.2 (i := i) (by omega)
        refine' es_call (R := R_alike n) (ss := [.py x, .py x]) ?a ⟨x, hx, rfl, rfl⟩ rfl
        (case a =>
          have h1 : Idx (.list ds) (.int i) x := .lst _ _ _ ha
          walk_at "eh"))
      (case d => rw [range_int, trues])
      (case e => rw [all_true])
  | tuple ds =>
    cases n with
    | zero => simp [plain] at hp
    | succ n =>
      simp only [plain, Bool.and_eq_true, decide_eq_true_eq] at hp
      walk_at "yes"
      refine sx_stop ?_ rfl
      walk_at "no"
      walk_at "no"
      refine' sx_ret (Es.is (es_all (bs := (List.range ds.length).map fun _ => true) (es_freeze (Es.is (es_lcR (fun _ => PyData.bool true) ?a ?b ?c) ?d))) ?e)
      (case a => exact ea_cons (by walk_at "es") ea_nil)
      (case b => omega)
      (case c =>
        intro i hi
        obtain ⟨x, hx, ha⟩ := alike_items hp.2 (i := i) (by omega)
        refine' es_call (R := R_alike n) (ss := [.py x, .py x]) ?a ⟨x, hx, rfl, rfl⟩ rfl
        (case a =>
          have h1 : Idx (.tuple ds) (.int i) x := .tup _ _ _ ha
          walk_at "eh"))
      (case d => rw [range_int, trues])
      (case e => rw [all_true])
theorem ok__law_alike (T : Txt K mg A) : ∀ n : Nat, FnOk P w K mg base CX0 (n + 1) A.f__law_alike A.d__law_alike ["_law_found", "_law_due"] (PSp K (R_alike n))
  | 0 => alike_turn T no_alike
  | n + 1 => alike_turn T (ok__law_alike T n)

/-! what is a wish -/
def isWhole : PyData → Bool
  | .int _ => true
  | _ => false
def isWord : PyData → List Str → Bool
  | .str z, l => decide (z ∈ l)
  | _, _ => false
def inLim : PyData → Bool
  | .int n => decide (-(10 ^ 30) ≤ n) && decide (n ≤ 10 ^ 30)
  | _ => false
def isWish : PyData → Bool
  | .tuple [x] => isWord x ["get"]
  | .tuple [x, n] => isWord x ["set", "add"] && (isWhole n && inLim n)
  | _ => false
def okW : PyData → Bool
  | .tuple ds => decide (ds.length ≤ 1000) && ds.all okD
  | d => okD d
def R_whole (ss : List Sl) (s : Sl) : Prop := ∃ d, okD d = true ∧ ss = [.py d] ∧ s = .py (.bool (isWhole d))
theorem ok_is_whole (T : Txt K mg A) : FnOk P w K mg base CX0 1 A.f_is_whole A.d_is_whole ["value"] (PSp K R_whole) := by
  refine pure_ok T.F_is_whole sc_is_whole (fun ss s ⟨_, _, e, _⟩ => by rw [e]; rfl) (fun ss s ⟨_, _, e, _⟩ => by rw [e]; exact no1) (by decide) (fun cdv A outer s H E hr => ?_)
  have hu := hr.units
  refine ⟨_, (pss_one (ps_ret (pe_and (pe_callB (isi_ K) (by rfl) T.b_isinstance (by decide +kernel) (pa_cons (pv 0) (pa_cons (pe_bltn (v := .ty "int") (by rfl) T.b_int (by decide +kernel) rfl) pa_nil))) (pe_one (pe_not (pe_callB (isi_ K) (by rfl) T.b_isinstance (by decide +kernel) (pa_cons (pv 0) (pa_cons (pe_bltn (v := .ty "bool") (by rfl) T.b_bool (by decide +kernel) rfl) pa_nil)))))))), fun ss r hR => .inl ?_⟩
  obtain ⟨d, hd, rfl, rfl⟩ := hR
  cases d with
  | dict l => cases hd
  | none =>
    refine' sx_ret (Es.is ?x ?y)
    (case x => walk_at "es")
    (case y => rfl)
  | bool b =>
    refine' sx_ret (Es.is ?x ?y)
    (case x => walk_at "es")
    (case y => rfl)
  | int b =>
    refine' sx_ret (Es.is ?x ?y)
    (case x => walk_at "es")
    (case y => rfl)
  | str b =>
    refine' sx_ret (Es.is ?x ?y)
    (case x => walk_at "es")
    (case y => rfl)
  | list b =>
    refine' sx_ret (Es.is ?x ?y)
    (case x => walk_at "es")
    (case y => rfl)
  | tuple b =>
    refine' sx_ret (Es.is ?x ?y)
    (case x => walk_at "es")
    (case y => rfl)
def R_word (ss : List Sl) (s : Sl) : Prop := ∃ d l, okD d = true ∧ ss = [.py d, .py (.tuple (l.map PyData.str))] ∧ s = .py (.bool (isWord d l))
theorem ok_is_word (T : Txt K mg A) : FnOk P w K mg base CX0 1 A.f_is_word A.d_is_word ["value", "words"] (PSp K R_word) := by
  refine pure_ok T.F_is_word sc_is_word (fun ss s ⟨_, _, _, e, _⟩ => by rw [e]; rfl) (fun ss s ⟨_, _, _, e, _⟩ => by rw [e]; exact no2) (by decide) (fun cdv A outer s H E hr => ?_)
  have hu := hr.units
  refine ⟨_, (pss_one (ps_ret (pe_and (pe_callB (isi_ K) (by rfl) T.b_isinstance (by decide +kernel) (pa_cons (pv 0) (pa_cons (pe_bltn (v := .ty "str") (by rfl) T.b_str (by decide +kernel) rfl) pa_nil))) (pe_one (pe_cmpR (ins_ K) (pv 0) (pv 1) (by with_unfolding_all rfl)))))), fun ss r hR => .inl ?_⟩
  obtain ⟨d, l, hd, rfl, rfl⟩ := hR
  cases d with
  | dict l => cases hd
  | none =>
    refine' sx_ret (Es.is (es_andV (a := false) (b := false) ?x fun h => Bool.noConfusion h) rfl)
    (case x => walk_at "es")
  | bool b =>
    refine' sx_ret (Es.is (es_andV (a := false) (b := false) ?x fun h => Bool.noConfusion h) rfl)
    (case x => walk_at "es")
  | int b =>
    refine' sx_ret (Es.is (es_andV (a := false) (b := false) ?x fun h => Bool.noConfusion h) rfl)
    (case x => walk_at "es")
  | str b =>
    refine' sx_ret (Es.is (es_andV ?x fun h => es_inT ?a ?b) ?y)
    (case x => walk_at "es")
    (case a => walk_at "ep")
    (case b => walk_at "ep")
    (case y => rfl)
  | list b =>
    refine' sx_ret (Es.is (es_andV (a := false) (b := false) ?x fun h => Bool.noConfusion h) rfl)
    (case x => walk_at "es")
  | tuple b =>
    refine' sx_ret (Es.is (es_andV (a := false) (b := false) ?x fun h => Bool.noConfusion h) rfl)
    (case x => walk_at "es")
def R_iswish (ss : List Sl) (s : Sl) : Prop := ∃ d, okW d = true ∧ ss = [.py d] ∧ s = .py (.bool (isWish d))
theorem ok_is_wish (T : Txt K mg A) : FnOk P w K mg base CX0 2 A.f_is_wish A.d_is_wish ["wish"] (PSp K R_iswish) := by
  have G_is_word : FnOk P w K mg base CX0 1 A.f_is_word A.d_is_word ["value", "words"] (PSp K R_word) := ok_is_word T
  have G_is_whole : FnOk P w K mg base CX0 1 A.f_is_whole A.d_is_whole ["value"] (PSp K R_whole) := ok_is_whole T
  refine pure_ok T.F_is_wish sc_is_wish (fun ss s ⟨_, _, e, _⟩ => by rw [e]; rfl) (fun ss s ⟨_, _, e, _⟩ => by rw [e]; exact no1) (by decide) (fun cdv A outer s H E hr => ?_)
  have hu := hr.units
  obtain ⟨tL, g_LIMIT⟩ := T.g_LIMIT
  refine ⟨_, (pss_cons (ps_if (pt_not (pt_val (pe_callB (isi_ K) (by rfl) T.b_isinstance (by decide +kernel) (pa_cons (pv 0) (pa_cons (pe_bltn (v := .ty "tuple") (by rfl) T.b_tuple (by decide +kernel) rfl) pa_nil))))) (pss_one (ps_ret pe_bl)) pss_nil)
    (pss_cons (ps_if (pt_cmpR (cmp_ K _ hu) (pe_callB (len_ K) (by rfl) T.b_len (by decide +kernel) (pa_cons (pv 0) pa_nil)) pe_int (nomark _)) (pss_one (ps_ret (pe_call (G_is_word) (hr.mono (by decide)) (by rfl) T.m_is_word T.F_is_word.kp T.B_is_word .nil pass0 (pa_cons (pe_ix (idx_ K) (pv 0) pe_int (fun _ _ => rfl)) (pa_cons (pe_tup (pa_cons pe_str pa_nil)) pa_nil))))) pss_nil)
    (pss_cons (ps_if (pt_cmpR (cmp_ K _ hu) (pe_callB (len_ K) (by rfl) T.b_len (by decide +kernel) (pa_cons (pv 0) pa_nil)) pe_int (nomark _)) (pss_cons (ps_asg (pv 0) (pg_tup (by rfl) (pgs_cons (pg_name (i := 1) sc_is_wish.nd rfl (Or.inl rfl)) (pgs_cons (pg_name (i := 2) sc_is_wish.nd rfl (Or.inl rfl)) pgs_nil))))
    (pss_one (ps_ret (pe_and (pe_call (G_is_word) (hr.mono (by decide)) (by rfl) T.m_is_word T.F_is_word.kp T.B_is_word .nil pass0 (pa_cons (pv 1) (pa_cons (pe_tup (pa_cons pe_str (pa_cons pe_str pa_nil))) pa_nil))) (pe_and (pe_call (G_is_whole) (hr.mono (by decide)) (by rfl) T.m_is_whole T.F_is_whole.kp T.B_is_whole .nil pass0 (pa_cons (pv 2) pa_nil)) (pe_one (pe_chain (cmp_ K _ hu) (cmp_ K _ hu) (pe_un un_neg (pe_glob (v := .int (10 ^ 30)) rfl g_LIMIT ⟨_, rfl⟩)) (pv 2) (pe_glob (v := .int (10 ^ 30)) rfl g_LIMIT ⟨_, rfl⟩)))))))) pss_nil)
    (pss_one (ps_ret pe_bl))))), fun ss r hR => .inl ?_⟩
  obtain ⟨d, hd, rfl, rfl⟩ := hR
  cases d with
  | dict l => cases hd
  | none => walk_at "yes"; exact sx_retS (Es.is (es_bl false) rfl)
  | bool b => walk_at "yes"; exact sx_retS (Es.is (es_bl false) rfl)
  | int b => walk_at "yes"; exact sx_retS (Es.is (es_bl false) rfl)
  | str b => walk_at "yes"; exact sx_retS (Es.is (es_bl false) rfl)
  | list b => walk_at "yes"; exact sx_retS (Es.is (es_bl false) rfl)
  | tuple ds =>
    simp only [okW, Bool.and_eq_true] at hd
    obtain ⟨_, hd⟩ := hd
    walk_at "no"
    match ds, hd with
    | [], hd => walk_at "no"; walk_at "no"; exact sx_ret (Es.is (es_bl false) rfl)
    | [x], hd =>
      simp only [List.all_cons, List.all_nil, Bool.and_true] at hd
      walk_at "yes"
      refine' sx_retS (es_call (R := R_word) (ss := [.py x, .py (.tuple ([("get" : Str)].map PyData.str))]) ?a ⟨x, _, hd, rfl, rfl⟩ rfl)
      (case a => walk_at "eh")
    | [x, n], hd =>
      simp only [List.all_cons, List.all_nil, Bool.and_true, Bool.and_eq_true] at hd
      walk_at "no"
      walk_at "yes"
      refine' sx_stop (sx_seq (sx_asgT (d := .tuple [x, n]) ?x1 ?x2) ?h1) rfl
      (case x1 => walk_at "es")
      (case x2 => walk_at "tg")
      (case h1 =>
        refine' sx_ret (es_andV (a := isWord x ["set", "add"]) (b := isWhole n && inLim n) ?a ?bc)
        (case a =>
          refine' es_call (R := R_word) (ss := [.py x, .py (.tuple ([("set" : Str), "add"].map PyData.str))]) ?a1 ⟨x, _, hd.1, rfl, rfl⟩ rfl
          (case a1 => walk_at "eh"))
        (case bc =>
          intro _
          refine' es_andV (a := isWhole n) (b := inLim n) ?b ?c
          (case b =>
            refine' es_call (R := R_whole) (ss := [.py n]) ?b1 ⟨n, hd.2, rfl, rfl⟩ rfl
            (case b1 => walk_at "eh"))
          (case c =>
            intro h
            cases n with
            | int i =>
              refine' es_chain ?c1 ?c2 ?c3 (.le _ _) (.le _ _)
              (case c1 => walk_at "ep")
              (case c2 => walk_at "ep")
              (case c3 => walk_at "ep")
            | none => cases h
            | bool b => cases h
            | str b => cases h
            | list b => cases h
            | tuple b => cases h
            | dict b => cases h)))
    | x :: y :: z :: r, hd =>
      refine' sx_ifN ?x1 ?x2 ?h1
      (case x1 => walk_at "et")
      (case x2 => simp only [List.length_cons, decide_eq_false_iff_not]; omega)
      (case h1 =>
        refine' sx_ifN ?x3 ?x4 ?h2
        (case x3 => walk_at "et")
        (case x4 => simp only [List.length_cons, decide_eq_false_iff_not]; omega)
        (case h2 => exact sx_ret (Es.is (es_bl false) rfl)))

/-! what is no wish is refused -/
def spNeed (K : PySem.W.Frag) (C : Addr) : Sp := fun vs H Q E => ∃ d v, vs = [v] ∧ Dp K H v d ∧ okW d = true ∧ (isWish d = true → ∀ H', Ex H H' → Q .non H') ∧ (isWish d = false → ∀ H', Ex H H' → E (.ref C) none H')
theorem ok_need_wish (T : Txt K mg A) : FnOk P w K mg base (L2N.CX P w) 3 A.f_need_wish A.d_need_wish ["wish"] (spNeed K A.c_BadWish) := by
  have G_is_wish : FnOk P w K mg base CX0 2 A.f_is_wish A.d_is_wish ["wish"] (PSp K R_iswish) := ok_is_wish T
  refine Fun.okG T.F_need_wish sc_need_wish (fun vs H Q E h => ?_) (fun cdv A1 outer s H vs Q E hr h => ?_)
  · obtain ⟨d, v, rfl, _⟩ := h
    rfl
  · refine ⟨_, (pss_one (ps_if (pt_not (pt_val (pe_call (G_is_wish) (hr.mono (by decide)) (by rfl) T.m_is_wish T.F_is_wish.kp T.B_is_wish .nil pass0 (pa_cons (pv 0) pa_nil)))) (pss_one (L2N.ps_raise rfl (L2N.takes_of rfl rfl rfl rfl) (L2N.pmk_own PySem.F.excBase_ValueError T.x_in T.c_BadWish T.k_BW (raises_own T.s_BW T.t_BW) rfl))) pss_nil)), ?_⟩
    obtain ⟨d, v, rfl, hv, hd, h1, h2⟩ := h
    have g : Sg K H H (L2.start ["wish"] [v]) [some (.py d)] := Sg.start (ss := [.py d]) (Two.all H) ⟨hv, trivial⟩ (Nat.le_refl 1) no1
    have es : Es K (tCall (PSp K R_iswish) [] E0 (tCons (tVar 0) tNil)) [some (.py d)] (.py (.bool (isWish d))) := by
      refine' es_call (R := R_iswish) (ss := [.py d]) ?a ⟨d, hd, rfl, rfl⟩ rfl
      (case a => walk_at "eh")
    refine et_not (et_test es) H H _ g _ fun B' H' G => ?_
    cases e : isWish d with
    | true =>
      rw [if_neg (by simp)]
      exact h1 e H' G.h
    | false =>
      rw [if_pos (by simp)]
      exact h2 e H' G.h
theorem exE (T : Txt K mg A) : ExcC K A.c_BadWish := ⟨T.x_hg, T.x_hk, T.s_BW, T.x_hd, T.x_ha, T.x_hn, T.x_ht, T.x_hm⟩
def R_kinds (a : Addr) (ss : List Sl) (s : Sl) : Prop := ss = [.at (.ref a)] ∧ s = .py (.int 1)
theorem no1A {a : V} : ∀ x ∈ [Sl.at a], x.isOwn = false := fun x hx => by
  simp only [List.mem_cons, List.not_mem_nil, or_false] at hx
  subst hx
  rfl
theorem hu_ofH {k : Nat} {A : Around} (r : RoomH k A) : A.units + 64 < cLine := by have := r.un; omega
theorem ok__law_kinds (T : Txt K mg A) : FnZ P w K mg base A.c_BadWish 1 A.f__law_kinds A.d__law_kinds ["_law_e"] (fun a => PSp K (R_kinds a)) := by
  refine pureZ_ok T.F__law_kinds sc__law_kinds (fun a ss s e => by rw [e.1]; rfl) (fun a ss s e => by rw [e.1]; exact no1A) (by decide) (fun cdv A1 outer s H E p hot hz hr => ?_)
  have hu := hu_ofH hr
  have hf : ∃ vs, p.2.data = .fields vs := hot.2.imp fun _ h => h.1
  have hp : p ∈ [p] := List.mem_cons_self
  refine ⟨_, (pss_cons (ps_set (i := 1) sc__law_kinds.nd rfl (Or.inl rfl) (pe_lst (pa_cons (pe_callB (call_isP hp (exE T) hz hf) (by rfl) T.b_isinstance (by decide +kernel) (pa_cons (pv 0) (pa_cons (pe_glob (v := .ref A.c_BadWorld) rfl T.c_BadWorld rfl) pa_nil))) (pa_cons (pe_callB (call_isP hp (exE T) hz hf) (by rfl) T.b_isinstance (by decide +kernel) (pa_cons (pv 0) (pa_cons (pe_glob (v := .ref A.c_NoCaller) rfl T.c_NoCaller rfl) pa_nil))) (pa_cons (pe_callB (call_isP hp (exE T) hz hf) (by rfl) T.b_isinstance (by decide +kernel) (pa_cons (pv 0) (pa_cons (pe_glob (v := .ref A.c_NoHouse) rfl T.c_NoHouse rfl) pa_nil))) (pa_cons (pe_callB (call_isP hp (exE T) hz hf) (by rfl) T.b_isinstance (by decide +kernel) (pa_cons (pv 0) (pa_cons (pe_glob (v := .ref A.c_NoKey) rfl T.c_NoKey rfl) pa_nil))) pa_nil))))))
    (pss_cons (ps_set (i := 1) sc__law_kinds.nd rfl (Or.inl rfl) (pe_op op_cat (pv 1) (pe_lst (pa_cons (pe_callB (call_isP hp (exE T) hz hf) (by rfl) T.b_isinstance (by decide +kernel) (pa_cons (pv 0) (pa_cons (pe_glob (v := .ref A.c_BadWish) rfl T.c_BadWish rfl) pa_nil))) (pa_cons (pe_callB (call_isP hp (exE T) hz hf) (by rfl) T.b_isinstance (by decide +kernel) (pa_cons (pv 0) (pa_cons (pe_glob (v := .ref A.c_Busy) rfl T.c_Busy rfl) pa_nil))) (pa_cons (pe_callB (call_isP hp (exE T) hz hf) (by rfl) T.b_isinstance (by decide +kernel) (pa_cons (pv 0) (pa_cons (pe_glob (v := .ref A.c_Idle) rfl T.c_Idle rfl) pa_nil))) (pa_cons (pe_callB (call_isP hp (exE T) hz hf) (by rfl) T.b_isinstance (by decide +kernel) (pa_cons (pv 0) (pa_cons (pe_glob (v := .ref A.c_NotHere) rfl T.c_NotHere rfl) pa_nil))) pa_nil)))))))
    (pss_one (ps_ret (pe_bm PySem.F.plainAttrs_list PySem.F.slot_list_count PySem.F.type_list_count (mt_lcountB hu) (pe_op op_cat (pv 1) (pe_lst (pa_cons (pe_callB (call_isP hp (exE T) hz hf) (by rfl) T.b_isinstance (by decide +kernel) (pa_cons (pv 0) (pa_cons (pe_glob (v := .ref A.c_NoLetter) rfl T.c_NoLetter rfl) pa_nil))) pa_nil))) (pa_cons pe_bl pa_nil)))))), fun ss s hR => ?_⟩
  obtain ⟨rfl, rfl⟩ := hR
  have i1 := T.i_BadWorld
  have i2 := T.i_NoCaller
  have i3 := T.i_NoHouse
  have i4 := T.i_NoKey
  have i5 := T.i_BadWish
  have i6 := T.i_Busy
  have i7 := T.i_Idle
  have i8 := T.i_NotHere
  have i9 := T.i_NoLetter
  refine sx_seq (sx_asg (es_lstD (ds := [.bool false, .bool false, .bool false, .bool false]) (ead_cons (es_isP (es_var rfl) (es_at _) relV_ref i1) (ead_cons (es_isP (es_var rfl) (es_at _) relV_ref i2) (ead_cons (es_isP (es_var rfl) (es_at _) relV_ref i3) (ead_cons (es_isP (es_var rfl) (es_at _) relV_ref i4) ead_nil)))) (by decide))) ?_
  refine sx_seq (sx_asg (es_catO rfl (es_lstD (ds := [.bool true, .bool false, .bool false, .bool false]) (ead_cons (es_isP (es_var rfl) (es_at _) relV_ref i5) (ead_cons (es_isP (es_var rfl) (es_at _) relV_ref i6) (ead_cons (es_isP (es_var rfl) (es_at _) relV_ref i7) (ead_cons (es_isP (es_var rfl) (es_at _) relV_ref i8) ead_nil)))) (by decide)) (by decide))) ?_
  exact sx_ret (es_cntB (bs := [false, false, false, false, true, false, false, false, false]) (es_catO (ds := [.bool false, .bool false, .bool false, .bool false, .bool true, .bool false, .bool false, .bool false]) rfl (es_lstD (ds := [.bool false]) (ead_cons (es_isP (es_var rfl) (es_at _) relV_ref i9) ead_nil) (by decide)) (by decide)))

/-! twenty-four things that are no wishes -/
def oddL (f : Int) : List PyData := [.none, .tuple [], .tuple [.str "get", .int 1], .tuple [.str "set"], .tuple [.str "add"], .tuple [.str "set", .bool true], .tuple [.str "add", .bool false], .tuple [.str "set", .none], .tuple [.str "add", .str "1"],
  .tuple [.str "set", .int f], .tuple [.str "add", .int f], .tuple [.str "set", .int (-f)], .tuple [.str "add", .int (-f)], .tuple [.str "set", .int 1, .int 2], .tuple [.str "get", .tuple []], .list [.str "get"],
  .list [.str "set", .int 1], .str "get", .int 5, .tuple [.str "Get"], .tuple [.str "take", .int 1], .tuple [.int 1, .int 2], .tuple [.tuple [.str "get"]], .tuple [.str "set", .tuple [.int 1]]]
def farOf (c : Int) : Int := 10 ^ 30 + 1 + c / 24 % 10 ^ 40
def oddOf (c : Int) : PyData := ((oddL (farOf c))[(c % 24).toNat]?).getD .none
theorem odd_in (c : Int) : Idx (.list (oddL (farOf c))) (.int (c % 24)) (oddOf c) ∧ oddOf c ∈ oddL (farOf c) := by
  have h0 : 0 ≤ c % 24 := Int.emod_nonneg _ (by decide)
  have h1 : c % 24 < 24 := Int.emod_lt_of_pos _ (by decide)
  have hl : (c % 24).toNat < (oddL (farOf c)).length := by show (c % 24).toNat < 24; omega
  have e : (oddL (farOf c))[(c % 24).toNat]? = some (oddL (farOf c))[(c % 24).toNat] := List.getElem?_eq_getElem hl
  have ep : oddOf c = (oddL (farOf c))[(c % 24).toNat] := by unfold oddOf; rw [e]; rfl
  refine ⟨.lst _ _ _ ?_, by rw [ep]; exact List.getElem_mem hl⟩
  have ei : c % 24 = (((c % 24).toNat : Nat) : Int) := by omega
  rw [ei]
  refine atI_nat ?_
  rw [e, ep]
theorem far_big (c : Int) : 10 ^ 30 < farOf c := by
  have h : 0 ≤ c / 24 % 10 ^ 40 := Int.emod_nonneg _ (by decide)
  unfold farOf
  omega
theorem odd_no {f : Int} (hf : 10 ^ 30 < f) : ∀ d ∈ oddL f, okW d = true ∧ isWish d = false := by
  have s1 : PyData.strOk "get" = true := by decide +kernel
  have s2 : PyData.strOk "set" = true := by decide +kernel
  have s3 : PyData.strOk "add" = true := by decide +kernel
  have s4 : PyData.strOk "Get" = true := by decide +kernel
  have s5 : PyData.strOk "take" = true := by decide +kernel
  have s6 : PyData.strOk "1" = true := by decide +kernel
  have w1 : isWord (.str "set") ["get"] = false := by decide +kernel
  have w2 : isWord (.str "add") ["get"] = false := by decide +kernel
  have w3 : isWord (.str "Get") ["get"] = false := by decide +kernel
  have w4 : isWord (.str "get") ["set", "add"] = false := by decide +kernel
  have w5 : isWord (.str "take") ["set", "add"] = false := by decide +kernel
  have l1 : inLim (.int f) = false := by
    show (decide (-(10 ^ 30) ≤ f) && decide (f ≤ 10 ^ 30)) = false
    have : decide (f ≤ 10 ^ 30) = false := decide_eq_false (by omega)
    rw [this, Bool.and_false]
  have l2 : inLim (.int (-f)) = false := by
    show (decide (-(10 ^ 30) ≤ -f) && decide (-f ≤ 10 ^ 30)) = false
    have : decide (-(10 ^ 30) ≤ -f) = false := decide_eq_false (by omega)
    rw [this, Bool.false_and]
  intro d hd
  unfold oddL at hd
  simp only [List.mem_cons, List.not_mem_nil, or_false] at hd
  rcases hd with rfl | rfl | rfl | rfl | rfl | rfl | rfl | rfl | rfl | rfl | rfl | rfl | rfl | rfl | rfl | rfl | rfl | rfl | rfl | rfl | rfl | rfl | rfl | rfl <;>
    (refine ⟨?_, ?_⟩ <;> simp [okW, okD, isWish, isWhole, s1, s2, s3, s4, s5, s6, w1, w2, w3, w4, w5, l1, l2] <;> simp [isWord])
def R_odd (ss : List Sl) (s : Sl) : Prop := ∃ c : Int, ss = [.py (.int c)] ∧ s = .py (oddOf c)
theorem ok__law_odd (T : Txt K mg A) : FnOk P w K mg base CX0 1 A.f__law_odd A.d__law_odd ["_law_cell"] (PSp K R_odd) := by
  refine pure_ok T.F__law_odd sc__law_odd (fun ss s ⟨_, e, _⟩ => by rw [e]; rfl) (fun ss s ⟨_, e, _⟩ => by rw [e]; exact no1) (by decide) (fun cdv A1 outer s H E hr => ?_)
  have hu := hr.units
  refine ⟨_, (pss_cons (ps_set (i := 1) sc__law_odd.nd rfl (Or.inl rfl) (pe_op (bin_ K _) (pe_op (bin_ K _) (pe_op (bin_ K _) pe_int pe_int) pe_int) (pe_op (bin_ K _) (pe_op (bin_ K _) (pv 0) pe_int) (pe_op (bin_ K _) pe_int pe_int))))
    (pss_cons (ps_set (i := 2) sc__law_odd.nd rfl (Or.inl rfl) (pe_lst (pa_cons pe_non (pa_cons (pe_tup pa_nil) (pa_cons (pe_tup (pa_cons pe_str (pa_cons pe_int pa_nil))) (pa_cons (pe_tup (pa_cons pe_str pa_nil)) (pa_cons (pe_tup (pa_cons pe_str pa_nil)) (pa_cons (pe_tup (pa_cons pe_str (pa_cons pe_bl pa_nil))) (pa_cons (pe_tup (pa_cons pe_str (pa_cons pe_bl pa_nil))) (pa_cons (pe_tup (pa_cons pe_str (pa_cons pe_non pa_nil))) (pa_cons (pe_tup (pa_cons pe_str (pa_cons pe_str pa_nil))) pa_nil)))))))))))
    (pss_cons (ps_set (i := 2) sc__law_odd.nd rfl (Or.inl rfl) (pe_op op_cat (pv 2) (pe_lst (pa_cons (pe_tup (pa_cons pe_str (pa_cons (pv 1) pa_nil))) (pa_cons (pe_tup (pa_cons pe_str (pa_cons (pv 1) pa_nil))) (pa_cons (pe_tup (pa_cons pe_str (pa_cons (pe_un un_neg (pv 1)) pa_nil))) (pa_cons (pe_tup (pa_cons pe_str (pa_cons (pe_un un_neg (pv 1)) pa_nil))) (pa_cons (pe_tup (pa_cons pe_str (pa_cons pe_int (pa_cons pe_int pa_nil)))) (pa_cons (pe_tup (pa_cons pe_str (pa_cons (pe_tup pa_nil) pa_nil))) (pa_cons (pe_lst (pa_cons pe_str pa_nil)) pa_nil))))))))))
    (pss_cons (ps_set (i := 2) sc__law_odd.nd rfl (Or.inl rfl) (pe_op op_cat (pv 2) (pe_lst (pa_cons (pe_lst (pa_cons pe_str (pa_cons pe_int pa_nil))) (pa_cons pe_str (pa_cons pe_int (pa_cons (pe_tup (pa_cons pe_str pa_nil)) (pa_cons (pe_tup (pa_cons pe_str (pa_cons pe_int pa_nil))) (pa_cons (pe_tup (pa_cons pe_int (pa_cons pe_int pa_nil))) (pa_cons (pe_tup (pa_cons (pe_tup (pa_cons pe_str pa_nil)) pa_nil)) (pa_cons (pe_tup (pa_cons pe_str (pa_cons (pe_tup (pa_cons pe_int pa_nil)) pa_nil))) pa_nil)))))))))))
    (pss_one (ps_ret (pe_ix (idx_ K) (pv 2) (pe_op (bin_ K _) (pv 0) pe_int) (fun _ _ => rfl)))))))), fun ss r hR => .inl ?_⟩
  obtain ⟨c, rfl, rfl⟩ := hR
  have e3 : ((10 : Int) ^ (30 : Int).toNat) + 1 + c / 24 % (10 : Int) ^ (40 : Int).toNat = farOf c := rfl
  refine' sx_seq (sx_asg (s := .py (.int (farOf c))) ?x) ?y
  (case x => walk_at "es")
  (case y =>
    refine' sx_seq (sx_asg (es_lstD (ds := [.none, .tuple [], .tuple [.str "get", .int 1], .tuple [.str "set"], .tuple [.str "add"], .tuple [.str "set", .bool true], .tuple [.str "add", .bool false], .tuple [.str "set", .none], .tuple [.str "add", .str "1"]]) ?a (Nat.le_of_ble_eq_true rfl))) ?b
    (case a => walk_at "ead")
    (case b =>
      refine' sx_seq (sx_asg (es_catO rfl (es_lstD (ds := [.tuple [.str "set", .int (farOf c)], .tuple [.str "add", .int (farOf c)], .tuple [.str "set", .int (-(farOf c))], .tuple [.str "add", .int (-(farOf c))], .tuple [.str "set", .int 1, .int 2], .tuple [.str "get", .tuple []], .list [.str "get"]]) ?a1 (Nat.le_of_ble_eq_true rfl)) (Nat.le_of_ble_eq_true rfl))) ?b1
      (case a1 => walk_at "ead")
      (case b1 =>
        refine' sx_seq (sx_asg (es_catO rfl (es_lstD (ds := [.list [.str "set", .int 1], .str "get", .int 5, .tuple [.str "Get"], .tuple [.str "take", .int 1], .tuple [.int 1, .int 2], .tuple [.tuple [.str "get"]], .tuple [.str "set", .tuple [.int 1]]]) ?a2 (Nat.le_of_ble_eq_true rfl)) (Nat.le_of_ble_eq_true rfl))) ?b2
        (case a2 => walk_at "ead")
        (case b2 =>
          refine sx_freeze (i := 2) (ds := oddL (farOf c)) rfl ?_
          refine' sx_ret (es_idxP (es_var rfl) ?a3 (odd_in c).1)
          (case a3 => walk_at "ep")))))

/-! the refusal, caught -/
def R_refused (ss : List Sl) (s : Sl) : Prop := ∃ d, okW d = true ∧ isWish d = false ∧ ss = [.py d] ∧ s = .py (.bool true)
def teSuite (K : PySem.W.Frag) (C : Addr) (a : Addr) : TE := tAndV (tCB (rIsE K C a) (tCons (tVar 1) (tCons (tC (.ref C)) tNil))) (tAndV (tCB (rIsE K C a) (tCons (tVar 1) (tCons (tC (.ty "ValueError")) tNil))) (tOp (rCmp K .Eq) (tCallZ (PSp K (R_kinds a)) (tCons (tVar 1) tNil)) (tC (.int 1))))
theorem ok__law_refused (T : Txt K mg A) : FnOk P w K mg base CX0 4 A.f__law_refused A.d__law_refused ["_law_thing"] (PSp K R_refused) := by
  have G_need_wish : FnOk P w K mg base (L2N.CX P w) 3 A.f_need_wish A.d_need_wish ["wish"] (spNeed K A.c_BadWish) := ok_need_wish T
  have G__law_kinds : FnZ P w K mg base A.c_BadWish 1 A.f__law_kinds A.d__law_kinds ["_law_e"] (fun a => PSp K (R_kinds a)) := ok__law_kinds T
  refine pure_ok T.F__law_refused sc__law_refused (fun ss s ⟨_, _, _, e, _⟩ => by rw [e]; rfl) (fun ss s ⟨_, _, _, e, _⟩ => by rw [e]; exact no1) (by decide) (fun cdv A1 outer s H E hr => ?_)
  have hu := hr.units
  refine ⟨_, pss_cons (L2N.ps_try_as (i := 1) (tb := fun W => tDrop (tCallS (spNeed K A.c_BadWish) (WE W) (tCons (tVar 0) tNil))) (ts := tsIf A.c_BadWish fun a => tRet (teSuite K A.c_BadWish a)) (Wout := fun _ _ _ _ => False) rfl rfl sc__law_refused.nd rfl rfl ⟨rfl, by decide, .inl T.c_MoveError⟩ takesN
    (fun W pn xe tk _ => by exact (pss_one (ps_expr (pe_callS (CX := L2N.CX P w) (G_need_wish) (hr.mono (by decide)) (by rfl) T.m_need_wish T.F_need_wish.kp T.B_need_wish (fun σ => L2N.passAt tk σ) (pa_cons (pv 0) pa_nil)))))
    (fun a oe cls d pn hz hf => pss_tsIf fun e1 e2 => by
      subst e1 e2
      exact (pss_one (ps_ret (pe_and (pe_callB (call_isE (exE T) hz.zc hf) (by rfl) T.b_isinstance (by decide +kernel) (pa_cons (pv 1) (pa_cons (pe_glob (v := .ref A.c_BadWish) rfl T.c_BadWish rfl) pa_nil))) (pe_and (pe_callB (call_isE (exE T) hz.zc hf) (by rfl) T.b_isinstance (by decide +kernel) (pa_cons (pv 1) (pa_cons (pe_bltn (v := .ty "ValueError") (by rfl) T.b_ValueError (by decide +kernel) rfl) pa_nil))) (pe_one (pe_cmpR (cmp_ K _ hu) (pe_callZ (X := (cxOf CX0 P w K mg base ["_law_thing", "_law_e"] "_law_refused" (defScope s__law_refused) A.f__law_refused cdv A1 outer s H E).nox) (a := a) (oe := oe) (pn := pn) (G__law_kinds) ⟨(hr.mono (j := 1) (by decide)).dp, (hr.mono (j := 1) (by decide)).un⟩ hz hf (by rfl) T.m__law_kinds T.F__law_kinds.kp T.B__law_kinds (pa_cons (pv 1) pa_nil)) pe_int (nomark _)))))))))
    (pss_one (ps_ret pe_bl)), fun ss r hR => .inl ?_⟩
  obtain ⟨d, hd, hw, rfl, rfl⟩ := hR
  intro B H0 σ D g p
  have ha : Eh K (tCons (tVar 0) tNil) [some (.py d), none] [.py d] := by walk_at "eh"
  delta tSeq tDrop tCallS
  dsimp only
  refine ha B H0 σ g _ fun vs B1 H1 G1 hv => ?_
  obtain ⟨v, rfl, hv1⟩ := is1 hv
  refine ⟨d, v, rfl, hv1, hd, fun z => (by rw [hw] at z; cases z), fun _ H' e => ?_⟩
  refine ⟨true, PySem.W.exm_ref T.s_ME T.h_ME T.t_ME T.s_BWME, fun _ a _ => ?_, fun z => Bool.noConfusion z⟩
  refine ⟨rfl, rfl, ?_⟩
  have G2 : Grow B1 H1 (growB B1 H1 H') H' := Grow.all G1.two e
  have G := G1.trans G2
  have g' : Sg K (growB B1 H1 H') H' (σ.set 1 (some (.ref a))) [some (.py d), some (.at (.ref a))] := Sg.set (H0 := H0) (s := .at (.ref a)) 1 (g.grow G) rfl fun z => by cases z
  have es : Es K (teSuite K A.c_BadWish a) [some (.py d), some (.at (.ref a))] (.py (.bool true)) := by
    unfold teSuite
    refine' es_andV (a := true) (b := true) ?a ?b
    (case a => exact es_isP (es_var rfl) (es_at _) relV_ref T.i_BadWish)
    (case b =>
      intro _
      refine' es_andV (a := true) (b := true) ?a1 ?b1
      (case a1 => exact es_isP (es_var rfl) (es_at _) relV_ty T.i_VE)
      (case b1 =>
        intro _
        exact es_cmp (ep_of (es_callZ (R := R_kinds a) (ss := [.at (.ref a)]) (eh_consA (es_var rfl) eh_nil) ⟨rfl, rfl⟩ rfl)) (ep_of (es_int 1)) (.eqI 1 1)))
  exact es _ _ _ g' _ fun v2 B2 H2 G3 R => p v2 B2 H2 ((G.trans G3).b) G3.two R.1

/-- a list of at most 63 ints is handed in, none of more than 1048576 bits; True comes out -/
def spLaw (K : PySem.W.Frag) : Sp := fun vs H Q _ => ∃ (a : Addr) (ns : List Int), vs = [.ref a] ∧ SqL K H a (ns.map V.int) ∧ ns.length ≤ 63 ∧ (∀ z ∈ ns, Builtin.Int.intBits z ≤ 1048576) ∧ ∀ H', Q (.bl true) H'

/-! the law -/
theorem es_cellN {ρ : Rho} {ns : List Int} (k : Nat) (h : ρ[0]? = some (some (.py (.list (ns.map PyData.int))))) : Es K (tCall (PSp K R_cell) [] E0 (tCons (tVar 0) (tCons (tC (.int (k : Int))) tNil))) ρ (.py (.int (cellAt ns k))) :=
  es_call (R := R_cell) (ss := [.py (.list (ns.map PyData.int)), .py (.int (k : Int))]) (eh_cons (ep_of (es_var h)) (eh_cons (ep_of (es_int _)) eh_nil)) ⟨ns, k, rfl, rfl⟩ rfl
theorem es_cell0 {ρ : Rho} {ns : List Int} (h : ρ[0]? = some (some (.py (.list (ns.map PyData.int))))) : Es K (tCall (PSp K R_cell) [] E0 (tCons (tVar 0) (tCons (tC (.int 0)) tNil))) ρ (.py (.int (cellAt ns 0))) := es_cellN 0 h
theorem es_cell1 {ρ : Rho} {ns : List Int} (h : ρ[0]? = some (some (.py (.list (ns.map PyData.int))))) : Es K (tCall (PSp K R_cell) [] E0 (tCons (tVar 0) (tCons (tC (.int 1)) tNil))) ρ (.py (.int (cellAt ns 1))) := es_cellN 1 h
theorem es_cell2 {ρ : Rho} {ns : List Int} (h : ρ[0]? = some (some (.py (.list (ns.map PyData.int))))) : Es K (tCall (PSp K R_cell) [] E0 (tCons (tVar 0) (tCons (tC (.int 2)) tNil))) ρ (.py (.int (cellAt ns 2))) := es_cellN 2 h
theorem es_cell3 {ρ : Rho} {ns : List Int} (h : ρ[0]? = some (some (.py (.list (ns.map PyData.int))))) : Es K (tCall (PSp K R_cell) [] E0 (tCons (tVar 0) (tCons (tC (.int 3)) tNil))) ρ (.py (.int (cellAt ns 3))) := es_cellN 3 h
theorem es_need {ρ : Rho} {C : Addr} {d : PyData} {ta : TA} (ha : Eh K ta ρ [.py d]) (hd : okW d = true) (hw : isWish d = true) : Es K (tCall (spNeed K C) [] E0 ta) ρ (.py .none) := fun B H σ g Q q =>
  ha B H σ g _ fun vs B1 H1 G1 hv => by
    obtain ⟨v, rfl, hv1⟩ := is1 hv
    exact ⟨d, v, rfl, hv1, hd, fun _ H' e => q _ _ H' (G1.trans (Grow.all G1.two e)) (res_py .non), fun z => (by rw [hw] at z; cases z)⟩
def Wish.len : Wish → Int
  | .get => 1
  | _ => 2
theorem Wish.hasLen : ∀ w : Wish, Len w.d w.len
  | .get => .tup _
  | .set _ => .tup _
  | .add _ => .tup _
def Wish.at : Wish → Int → Wish
  | .get, _ => .get
  | .set _, e => .set e
  | .add _, e => .add e
def Wish.inL : Wish → Prop
  | .get => True
  | .set n => -(10 ^ 30) ≤ n ∧ n ≤ 10 ^ 30
  | .add n => -(10 ^ 30) ≤ n ∧ n ≤ 10 ^ 30
theorem wish_ok (w : Wish) : okW w.d = true := by
  have s1 : PyData.strOk "get" = true := by decide +kernel
  have s2 : PyData.strOk "set" = true := by decide +kernel
  have s3 : PyData.strOk "add" = true := by decide +kernel
  cases w <;> simp [Wish.d, okW, okD, s1, s2, s3]
theorem wish_is {w : Wish} (h : w.inL) : isWish w.d = true := by
  have w1 : isWord (.str "get") ["get"] = true := by decide +kernel
  have w2 : isWord (.str "set") ["set", "add"] = true := by decide +kernel
  have w3 : isWord (.str "add") ["set", "add"] = true := by decide +kernel
  have l : ∀ n : Int, (-(10 ^ 30) ≤ n ∧ n ≤ 10 ^ 30) → inLim (.int n) = true := fun n h => by
    show (decide (-(10 ^ 30) ≤ n) && decide (n ≤ 10 ^ 30)) = true
    rw [decide_eq_true h.1, decide_eq_true h.2]
    rfl
  cases w with
  | get => exact w1
  | set n => show (isWord (.str "set") ["set", "add"] && (isWhole (.int n) && inLim (.int n))) = true; rw [w2, l n h]; rfl
  | add n => show (isWord (.str "add") ["set", "add"] && (isWhole (.int n) && inLim (.int n))) = true; rw [w3, l n h]; rfl
theorem wishOf_in (c : Int) : (wishOf c).inL := by
  have h1 : 0 ≤ c / 6 % (2 * 10 ^ 30 + 1) := Int.emod_nonneg _ (by decide)
  have h2 : c / 6 % (2 * 10 ^ 30 + 1) < 2 * 10 ^ 30 + 1 := Int.emod_lt_of_pos _ (by decide)
  have h3 : 0 ≤ c / 6 % 7 := Int.emod_nonneg _ (by decide)
  have h4 : c / 6 % 7 < 7 := Int.emod_lt_of_pos _ (by decide)
  have k : ∀ n : Int, n = (if c / 3 % 2 = 1 then c / 6 % (2 * 10 ^ 30 + 1) - 10 ^ 30 else c / 6 % 7 - 3) → (-(10 ^ 30) ≤ n ∧ n ≤ 10 ^ 30) := fun n e => by
    split at e <;> omega
  unfold wishOf
  dsimp only
  split
  · trivial
  · split
    · exact k _ rfl
    · exact k _ rfl
def endOf (c : Int) : Int := if c / 6 % 2 = 0 then 10 ^ 30 else -(10 ^ 30)
theorem end_at (c : Int) : Idx (.list [.int (10 ^ 30), .int (-(10 ^ 30))]) (.int (c / 6 % 2)) (.int (endOf c)) := by
  have h : c / 6 % 2 = 0 ∨ c / 6 % 2 = 1 := by omega
  unfold endOf
  rcases h with h | h <;> rw [h] <;> exact .lst _ _ _ rfl
def wish2 (c1 c2 : Int) : Wish := if c1 / 2 % 4 = 1 then (wishOf c2).at (endOf c2) else wishOf c2
theorem wish2_in (c1 c2 : Int) : (wish2 c1 c2).inL := by
  unfold wish2
  split
  · have e : -(10 ^ 30) ≤ endOf c2 ∧ endOf c2 ≤ 10 ^ 30 := by unfold endOf; split <;> omega
    cases wishOf c2 with
    | get => trivial
    | set n => exact e
    | add n => exact e
  · exact wishOf_in c2
theorem plain_int (n : Nat) (i : Int) : plain n (.int i) = true := by cases n <;> rfl
theorem plain_pair (a b : Int) : plain 1 (.tuple [.int a, .int b]) = true := by simp [plain, plains, plain_int]
def amtOf (c0 c1 : Int) : Int := if c1 % 2 = 1 then c0 ^ (5 : Int).toNat else c0
def bitsOk (ns : List Int) : Prop := ∀ z ∈ ns, Builtin.Int.intBits z ≤ 1048576
theorem cell_bits {ns : List Int} (h : bitsOk ns) (k : Nat) : Builtin.Int.intBits (cellAt ns k) ≤ 1048576 := by
  unfold cellAt
  cases e : ns[k]? with
  | none => show Builtin.Int.intBits 0 ≤ _; decide +kernel
  | some z => exact h z (List.mem_of_getElem? e)
theorem pow_ok {c : Int} (h : Builtin.Int.intBits c ≤ 1048576) : CPowB c 5 := by
  have e : (2 : Int) ^ 27 = 134217728 := by decide
  refine ⟨by decide, ?_⟩
  rw [e]
  omega
def R_law (ss : List Sl) (s : Sl) : Prop := ∃ ns : List Int, ns.length ≤ 63 ∧ bitsOk ns ∧ ss = [.py (.list (ns.map PyData.int))] ∧ s = .py (.bool true)
local macro_rules | `(tactic| walk_at "es") => `(tactic| first | exact es_cell0 rfl | exact es_cell1 rfl | exact es_cell2 rfl | exact es_cell3 rfl)
theorem ok_law_ (T : Txt K mg A) : FnOk P w K mg base CX0 8 A.f_law A.d_law ["_law_script"] (PSp K R_law) := by
  have G__law_cell_at : FnOk P w K mg base CX0 1 A.f__law_cell_at A.d__law_cell_at ["_law_script", "_law_k"] (PSp K R_cell) := ok__law_cell_at T
  have G__law_wish : FnOk P w K mg base CX0 1 A.f__law_wish A.d__law_wish ["_law_cell"] (PSp K R_wish) := ok__law_wish T
  have G_done : FnOk P w K mg base CX0 1 A.f_done A.d_done ["amount", "wish"] (PSp K R_done) := ok_done T
  have G_need_wish : FnOk P w K mg base (L2N.CX P w) 3 A.f_need_wish A.d_need_wish ["wish"] (spNeed K A.c_BadWish) := ok_need_wish T
  have G__law_alike : FnOk P w K mg base CX0 2 A.f__law_alike A.d__law_alike ["_law_found", "_law_due"] (PSp K (R_alike 1)) := ok__law_alike T 1
  have G__law_odd : FnOk P w K mg base CX0 1 A.f__law_odd A.d__law_odd ["_law_cell"] (PSp K R_odd) := ok__law_odd T
  have G__law_refused : FnOk P w K mg base CX0 4 A.f__law_refused A.d__law_refused ["_law_thing"] (PSp K R_refused) := ok__law_refused T
  refine pure_ok T.F_law sc_law (fun ss s ⟨_, _, _, e, _⟩ => by rw [e]; rfl) (fun ss s ⟨_, _, _, e, _⟩ => by rw [e]; exact no1) (by decide) (fun cdv A1 outer s H E hr => ?_)
  have hu := hr.units
  refine ⟨_, (pss_cons (ps_set (i := 1) sc_law.nd rfl (Or.inl rfl) (pe_call (G__law_cell_at) (hr.mono (by decide)) (by rfl) T.m__law_cell_at T.F__law_cell_at.kp T.B__law_cell_at .nil pass0 (pa_cons (pv 0) (pa_cons pe_int pa_nil))))
    (pss_cons (ps_if (pt_cmpR (cmp_ K _ hu) (pe_op (bin_ K _) (pe_call (G__law_cell_at) (hr.mono (by decide)) (by rfl) T.m__law_cell_at T.F__law_cell_at.kp T.B__law_cell_at .nil pass0 (pa_cons (pv 0) (pa_cons pe_int pa_nil))) pe_int) pe_int (nomark _)) (pss_one (ps_set (i := 1) sc_law.nd rfl (Or.inl rfl) (pe_op op_powB (pv 1) pe_int))) pss_nil)
    (pss_cons (ps_set (i := 2) sc_law.nd rfl (Or.inl rfl) (pe_call (G__law_wish) (hr.mono (by decide)) (by rfl) T.m__law_wish T.F__law_wish.kp T.B__law_wish .nil pass0 (pa_cons (pe_call (G__law_cell_at) (hr.mono (by decide)) (by rfl) T.m__law_cell_at T.F__law_cell_at.kp T.B__law_cell_at .nil pass0 (pa_cons (pv 0) (pa_cons pe_int pa_nil))) pa_nil)))
    (pss_cons (ps_if (PW.pt (pw_and (pt_cmpR (cmp_ K _ hu) (pe_op (bin_ K _) (pe_op (bin_ K _) (pe_call (G__law_cell_at) (hr.mono (by decide)) (by rfl) T.m__law_cell_at T.F__law_cell_at.kp T.B__law_cell_at .nil pass0 (pa_cons (pv 0) (pa_cons pe_int pa_nil))) pe_int) pe_int) pe_int (nomark _)) (pw_and1 (pt_cmpR (cmp_ K _ hu) (pe_callB (len_ K) (by rfl) T.b_len (by decide +kernel) (pa_cons (pv 2) pa_nil)) pe_int (nomark _))))) (pss_one (ps_set (i := 2) sc_law.nd rfl (Or.inl rfl) (pe_tup (pa_cons (pe_ix (idx_ K) (pv 2) pe_int (fun _ _ => rfl)) (pa_cons (pe_ix (idx_ K) (pe_lst (pa_cons (pe_op (bin_ K _) pe_int pe_int) (pa_cons (pe_un un_neg (pe_op (bin_ K _) pe_int pe_int)) pa_nil))) (pe_op (bin_ K _) (pe_op (bin_ K _) (pe_call (G__law_cell_at) (hr.mono (by decide)) (by rfl) T.m__law_cell_at T.F__law_cell_at.kp T.B__law_cell_at .nil pass0 (pa_cons (pv 0) (pa_cons pe_int pa_nil))) pe_int) pe_int) (fun _ _ => rfl)) pa_nil))))) pss_nil)
    (pss_cons (ps_set (i := 3) sc_law.nd rfl (Or.inl rfl) (pe_tup (pa_cons (pv 1) (pa_cons (pv 1) pa_nil))))
    (pss_cons (ps_if (pt_cmpR (cmp_ K _ hu) (pe_ix (idx_ K) (pv 2) pe_int (fun _ _ => rfl)) pe_str (nomark _)) (pss_one (ps_set (i := 3) sc_law.nd rfl (Or.inl rfl) (pe_tup (pa_cons (pe_ix (idx_ K) (pv 2) pe_int (fun _ _ => rfl)) (pa_cons (pv 1) pa_nil))))) pss_nil)
    (pss_cons (ps_if (pt_cmpR (cmp_ K _ hu) (pe_ix (idx_ K) (pv 2) pe_int (fun _ _ => rfl)) pe_str (nomark _)) (pss_one (ps_set (i := 3) sc_law.nd rfl (Or.inl rfl) (pe_tup (pa_cons (pe_op (bin_ K _) (pv 1) (pe_ix (idx_ K) (pv 2) pe_int (fun _ _ => rfl))) (pa_cons (pe_op (bin_ K _) (pv 1) (pe_ix (idx_ K) (pv 2) pe_int (fun _ _ => rfl))) pa_nil))))) pss_nil)
    (pss_cons (ps_if (PW.pt (pw_or (pt_cmpR (cmp_ K _ hu) (pe_call (CX := L2N.CX P w) (G_need_wish) (hr.mono (by decide)) (by rfl) T.m_need_wish T.F_need_wish.kp T.B_need_wish .nil passN (pa_cons (pv 2) pa_nil)) pe_non (nomark _)) (pw_or1 (pt_not (pt_val (pe_call (G__law_alike) (hr.mono (by decide)) (by rfl) T.m__law_alike T.F__law_alike.kp T.B__law_alike .nil pass0 (pa_cons (pe_call (G_done) (hr.mono (by decide)) (by rfl) T.m_done T.F_done.kp T.B_done .nil pass0 (pa_cons (pv 1) (pa_cons (pv 2) pa_nil))) (pa_cons (pv 3) pa_nil)))))))) (pss_one (ps_ret pe_bl)) pss_nil)
    (pss_one (ps_ret (pe_call (G__law_refused) (hr.mono (by decide)) (by rfl) T.m__law_refused T.F__law_refused.kp T.B__law_refused .nil pass0 (pa_cons (pe_call (G__law_odd) (hr.mono (by decide)) (by rfl) T.m__law_odd T.F__law_odd.kp T.B__law_odd .nil pass0 (pa_cons (pe_call (G__law_cell_at) (hr.mono (by decide)) (by rfl) T.m__law_cell_at T.F__law_cell_at.kp T.B__law_cell_at .nil pass0 (pa_cons (pv 0) (pa_cons pe_int pa_nil))) pa_nil)) pa_nil)))))))))))), fun ss r hR => .inl ?_⟩
  obtain ⟨ns, hns, hb, rfl, rfl⟩ := hR
  have e3 : ((10 : Int) ^ (30 : Int).toNat) = 10 ^ 30 := rfl
  -- the amount
  refine' sx_seq (sx_asg (es_cell0 rfl)) ?h1
  (case h1 =>
  refine' sx_seq (sx_if (b := decide (cellAt ns 1 % 2 = 1)) (o := .nx [some (.py (.list (ns.map PyData.int))), some (.py (.int (amtOf (cellAt ns 0) (cellAt ns 1)))), none, none]) ?a ?b ?c) ?h2
  (case a => walk_at "et")
  (case b =>
    intro h
    refine' Sx.is (sx_asg (es_powB (j := 5) ?b1 ?b2 (pow_ok (cell_bits hb 0)))) ?b3
    (case b1 => walk_at "ep")
    (case b2 => walk_at "ep")
    (case b3 => unfold amtOf; rw [if_pos (of_decide_eq_true h)]; rfl))
  (case c =>
    intro h
    refine Sx.is sx_next ?_
    unfold amtOf
    rw [if_neg (of_decide_eq_false h)]
    rfl)
  (case h2 =>
  generalize amtOf (cellAt ns 0) (cellAt ns 1) = a
  -- the wish
  refine' sx_seq (sx_asg (es_call (R := R_wish) (ss := [.py (.int (cellAt ns 2))]) (eh_cons (ep_of (es_cell2 rfl)) eh_nil) ⟨_, rfl, rfl⟩ (noList_wish _))) ?h3
  (case h3 =>
  refine' sx_seq (sx_if (b := decide (cellAt ns 1 / 2 % 4 = 1) && decide ((wishOf (cellAt ns 2)).len = 2)) (o := .nx [some (.py (.list (ns.map PyData.int))), some (.py (.int a)), some (.py (wish2 (cellAt ns 1) (cellAt ns 2)).d), none]) ?a1 ?b1 ?c1) ?h4
  (case a1 =>
    have hl := (wishOf (cellAt ns 2)).hasLen
    refine' et_and ?a2 ?a3
    (case a2 => walk_at "et")
    (case a3 =>
      intro _
      refine' et_test (es_cmp (ep_of (es_len ?a4 hl)) ?a5 (.eqI _ _))
      (case a4 => walk_at "ep")
      (case a5 => walk_at "ep")))
  (case b1 =>
    intro h
    simp only [Bool.and_eq_true, decide_eq_true_eq] at h
    unfold wish2
    rw [if_pos h.1]
    have he := end_at (cellAt ns 2)
    cases hw : wishOf (cellAt ns 2) with
    | get => rw [hw] at h; exact absurd h.2 (by decide)
    | set n =>
      refine' Sx.is (sx_asg (es_tupD (ds := [.str "set", .int (endOf (cellAt ns 2))]) (ead_cons ?b2 (ead_cons ?b3 ead_nil)) (Nat.le_of_ble_eq_true rfl))) rfl
      (case b2 => walk_at "es")
      (case b3 =>
        refine' es_idx (d := .list [.int (10 ^ 30), .int (-(10 ^ 30))]) (e := .int (cellAt ns 2 / 6 % 2)) ?b4 ?b5 he rfl
        (case b4 => walk_at "ep")
        (case b5 => walk_at "ep"))
    | add n =>
      refine' Sx.is (sx_asg (es_tupD (ds := [.str "add", .int (endOf (cellAt ns 2))]) (ead_cons ?b2 (ead_cons ?b3 ead_nil)) (Nat.le_of_ble_eq_true rfl))) rfl
      (case b2 => walk_at "es")
      (case b3 =>
        refine' es_idx (d := .list [.int (10 ^ 30), .int (-(10 ^ 30))]) (e := .int (cellAt ns 2 / 6 % 2)) ?b4 ?b5 he rfl
        (case b4 => walk_at "ep")
        (case b5 => walk_at "ep")))
  (case c1 =>
    intro h
    refine Sx.is sx_next ?_
    have e : wish2 (cellAt ns 1) (cellAt ns 2) = wishOf (cellAt ns 2) := by
      unfold wish2
      by_cases h1 : cellAt ns 1 / 2 % 4 = 1
      · rw [if_pos h1]
        rw [decide_eq_true h1, Bool.true_and] at h
        have h := of_decide_eq_false h
        cases hw : wishOf (cellAt ns 2) with
        | get => rfl
        | set n => rw [hw] at h; exact absurd rfl h
        | add n => rw [hw] at h; exact absurd rfl h
      · rw [if_neg h1]
    rw [e]
    rfl)
  (case h4 =>
  have hi := wish2_in (cellAt ns 1) (cellAt ns 2)
  generalize wish2 (cellAt ns 1) (cellAt ns 2) = w2 at hi
  have ho := wish_ok w2
  have hw := wish_is hi
  have od := odd_in (cellAt ns 3)
  have on := odd_no (far_big (cellAt ns 3)) _ od.2
  walk_at "set"
  cases w2 with
  | get =>
    walk_at "no"
    walk_at "no"
    refine' sx_ifN (b := false) ?j1 rfl ?j3
    (case j1 =>
      refine' et_or (a := false) (b := false) ?k1 ?k2
      (case k1 =>
        refine' et_test (es_cmp (d := .none) (e := .none) (ep_of (es_need (d := (Wish.get).d) (eh_cons ?m1 eh_nil) ho hw)) (ep_of es_non) (.notN _ _ (by simp)))
        (case m1 => walk_at "ep"))
      (case k2 =>
        intro _
        refine' et_not (b := true) (et_test (es_call (R := R_alike 1) (ss := [.py (.tuple [.int ((Wish.get).done a).1, .int ((Wish.get).done a).2]), .py (.tuple [.int ((Wish.get).done a).1, .int ((Wish.get).done a).2])]) (eh_cons (ep_of (es_call (R := R_done) (ss := [.py (.int a), .py (Wish.get).d]) ?m2 ⟨a, _, rfl, rfl⟩ rfl)) ?m3) ⟨_, plain_pair _ _, rfl, rfl⟩ rfl))
        (case m2 => walk_at "eh")
        (case m3 => walk_at "eh")))
    (case j3 =>
      refine sx_ret (es_call (R := R_refused) (ss := [.py (oddOf (cellAt ns 3))]) (eh_cons (ep_call (R := R_odd) (ss := [.py (.int (cellAt ns 3))]) (eh_cons (ep_of (es_cell3 rfl)) eh_nil) ⟨_, rfl, rfl⟩) eh_nil) ⟨_, on.1, on.2, rfl, rfl⟩ rfl))
  | set n =>
    walk_at "yes"
    walk_at "set"
    walk_at "no"
    refine' sx_ifN (b := false) ?j1 rfl ?j3
    (case j1 =>
      refine' et_or (a := false) (b := false) ?k1 ?k2
      (case k1 =>
        refine' et_test (es_cmp (d := .none) (e := .none) (ep_of (es_need (d := (Wish.set n).d) (eh_cons ?m1 eh_nil) ho hw)) (ep_of es_non) (.notN _ _ (by simp)))
        (case m1 => walk_at "ep"))
      (case k2 =>
        intro _
        refine' et_not (b := true) (et_test (es_call (R := R_alike 1) (ss := [.py (.tuple [.int ((Wish.set n).done a).1, .int ((Wish.set n).done a).2]), .py (.tuple [.int ((Wish.set n).done a).1, .int ((Wish.set n).done a).2])]) (eh_cons (ep_of (es_call (R := R_done) (ss := [.py (.int a), .py (Wish.set n).d]) ?m2 ⟨a, _, rfl, rfl⟩ rfl)) ?m3) ⟨_, plain_pair _ _, rfl, rfl⟩ rfl))
        (case m2 => walk_at "eh")
        (case m3 => walk_at "eh")))
    (case j3 =>
      refine sx_ret (es_call (R := R_refused) (ss := [.py (oddOf (cellAt ns 3))]) (eh_cons (ep_call (R := R_odd) (ss := [.py (.int (cellAt ns 3))]) (eh_cons (ep_of (es_cell3 rfl)) eh_nil) ⟨_, rfl, rfl⟩) eh_nil) ⟨_, on.1, on.2, rfl, rfl⟩ rfl))
  | add n =>
    walk_at "no"
    walk_at "yes"
    walk_at "set"
    refine' sx_ifN (b := false) ?j1 rfl ?j3
    (case j1 =>
      refine' et_or (a := false) (b := false) ?k1 ?k2
      (case k1 =>
        refine' et_test (es_cmp (d := .none) (e := .none) (ep_of (es_need (d := (Wish.add n).d) (eh_cons ?m1 eh_nil) ho hw)) (ep_of es_non) (.notN _ _ (by simp)))
        (case m1 => walk_at "ep"))
      (case k2 =>
        intro _
        refine' et_not (b := true) (et_test (es_call (R := R_alike 1) (ss := [.py (.tuple [.int ((Wish.add n).done a).1, .int ((Wish.add n).done a).2]), .py (.tuple [.int ((Wish.add n).done a).1, .int ((Wish.add n).done a).2])]) (eh_cons (ep_of (es_call (R := R_done) (ss := [.py (.int a), .py (Wish.add n).d]) ?m2 ⟨a, _, rfl, rfl⟩ rfl)) ?m3) ⟨_, plain_pair _ _, rfl, rfl⟩ rfl))
        (case m2 => walk_at "eh")
        (case m3 => walk_at "eh")))
    (case j3 =>
      refine sx_ret (es_call (R := R_refused) (ss := [.py (oddOf (cellAt ns 3))]) (eh_cons (ep_call (R := R_odd) (ss := [.py (.int (cellAt ns 3))]) (eh_cons (ep_of (es_cell3 rfl)) eh_nil) ⟨_, rfl, rfl⟩) eh_nil) ⟨_, on.1, on.2, rfl, rfl⟩ rfl))))))
theorem ok_law (T : Txt K mg A) : FnOk P w K mg base CX0 8 A.f_law A.d_law ["_law_script"] (spLaw K) :=
  (ok_law_ T).imp fun vs H Q E h => by
    obtain ⟨a, ns, rfl, hS, hl, hb, k⟩ := h
    refine ⟨[.py (.list (ns.map PyData.int))], .py (.bool true), ⟨.lst hS (DpAll.ints ns), trivial⟩, ⟨ns, hl, hb, rfl, rfl⟩, fun v B' H' _ _ i => ?_⟩
    cases i
    exact k H'

end
end L
namespace L
open PySem L2 Wk
theorem walk {l : PySem.W.OpenLaw} {q : Program} {loose : List Str} {XP : (Str → Option Value) → Heap → Prop} {YP : World → Heap → Prop} {d : DefRec} {K : Params → PySem.W.Frag} (hn : l.most = some 63) (hdf : d.params.defaults = [])
    (hY : ∀ (w : World) (h : Heap), YP w h → (K w.params).In h)
    (F : ∀ (w : World) (mg : Str → Option Value) (fa : Addr) (h : Heap), (K w.params).In h → h.Ns mainGlobals mg → mg d.name = some (.ref fa) →
      ∃ fd : FuncData, (∀ (s : Shared) (u : Value), BindsTo s fd ⟨[u], []⟩ [("_law_script", u)]) ∧ ∀ base : Heap, (K w.params).In base → base.Ns mainGlobals mg → FnOk l.prog w (K w.params) mg base CX0 8 fa fd ["_law_script"] (spLaw (K w.params))) :
    PySem.W.WalkO q loose XP YP l.row.toRowW d [] (fun f vs => PySem.call f vs) :=
  L2.walk_ofB (n := 63) (k := 8) (x := "_law_script") (CX := fun _ => CX0) (sp := fun w => spLaw (K w.params)) hn (by decide) hdf ⟨rfl, by decide, by decide⟩ hY F (fun _ _ a ns hl hb _ hS => ⟨a, ns, rfl, hS, hl, hb, fun _ => rfl⟩) fun _ _ _ _ _ z => z
end L
open PySem PySem.W PyProof.Rows
set_option maxRecDepth 100000 in
set_option maxHeartbeats 0 in
theorem PySem.Challenge.cw_movehouse_k01_a_wish_done_holds : PySem.Challenge.rw_movehouse_k01_a_wish_done.Holds := by
  w_on; o_law; k_head; (case hw => w_witness2)
  k_fill
  refine L.walk (l := PySem.Challenge.rw_movehouse_k01_a_wish_done) rfl rfl (fun w h Y => PySem.W.kIn_of Y) ?F
  case F =>
    intro w mg fa h KX G hmg
    have all := @L.all_mk w _ h mg fa KX G hmg
    suffices hT : ∃ A : L.Adr, L.Txt _ mg A ∧ fa = A.f_law ∧ ∀ (s : Shared) (v : Value), BindsTo s A.d_law ⟨[v], []⟩ [("_law_script", v)] by
      obtain ⟨A, T, rfl, hb⟩ := hT
      exact ⟨A.d_law, hb, fun base _ _ => L.ok_law T⟩
    clear all
    refine' L.all_mk (w := w) KX G hmg ?a1 ?l1 ?c1 ?k1 ?a2 ?l2 ?c2 ?k2 ?a3 ?l3 ?c3 ?k3 ?a4 ?l4 ?c4 ?k4 ?a5 ?l5 ?c5 ?k5 ?a6 ?l6 ?c6 ?k6 ?a7 ?l7 ?c7 ?k7 ?a8 ?l8 ?c8 ?k8 ?a9 ?l9 ?c9 ?k9 ?a10 ?l10 ?c10 ?k10 ?a11 ?l11 ?c11 ?k11 ?a12 ?l12 ?c12 ?k12 ?z_ValueError ?z_all ?z_bool ?z_int ?z_isinstance ?z_len ?z_list ?z_range ?z_str ?z_tuple ?n_MoveError ?n_BadWorld ?n_NoCaller ?n_NoHouse ?n_NoKey ?n_BadWish ?n_Busy ?n_Idle ?n_NotHere ?n_NoLetter ?e_k_BW ?e_s_BW ?e_t_BW ?e_s_ME ?e_t_ME ?e_h_ME ?e_s_BWME ?e_x_hg ?e_x_hk ?e_x_hd ?e_x_ha ?e_x_hn ?e_x_ht ?e_x_hm ?e_x_in ?e_i_VE ?e_i_BadWorld ?e_i_NoCaller ?e_i_NoHouse ?e_i_NoKey ?e_i_BadWish ?e_i_Busy ?e_i_Idle ?e_i_NotHere ?e_i_NoLetter ?y_LIMIT
    (case a1 => k_is)
    (case l1 => k_is)
    (case c1 => k_is)
    (case k1 => k_is)
    (case a2 => k_is)
    (case l2 => k_is)
    (case c2 => k_is)
    (case k2 => k_is)
    (case a3 => k_is)
    (case l3 => k_is)
    (case c3 => k_is)
    (case k3 => k_is)
    (case a4 => k_is)
    (case l4 => k_is)
    (case c4 => k_is)
    (case k4 => k_is)
    (case a5 => k_is)
    (case l5 => k_is)
    (case c5 => k_is)
    (case k5 => k_is)
    (case a6 => k_is)
    (case l6 => k_is)
    (case c6 => k_is)
    (case k6 => k_is)
    (case a7 => k_is)
    (case l7 => k_is)
    (case c7 => k_is)
    (case k7 => k_is)
    (case a8 => k_is)
    (case l8 => k_is)
    (case c8 => k_is)
    (case k8 => k_is)
    (case a9 => k_is)
    (case l9 => k_is)
    (case c9 => k_is)
    (case k9 => k_is)
    (case a10 => k_is)
    (case l10 => k_is)
    (case c10 => k_is)
    (case k10 => k_is)
    (case a11 => k_is)
    (case l11 => k_is)
    (case c11 => k_is)
    (case k11 => k_is)
    (case a12 => k_is)
    (case l12 => k_is)
    (case c12 => k_is)
    (case k12 => k_is)
    (case z_ValueError => k_is)
    (case z_all => k_is)
    (case z_bool => k_is)
    (case z_int => k_is)
    (case z_isinstance => k_is)
    (case z_len => k_is)
    (case z_list => k_is)
    (case z_range => k_is)
    (case z_str => k_is)
    (case z_tuple => k_is)
    (case n_MoveError => k_is)
    (case n_BadWorld => k_is)
    (case n_NoCaller => k_is)
    (case n_NoHouse => k_is)
    (case n_NoKey => k_is)
    (case n_BadWish => k_is)
    (case n_Busy => k_is)
    (case n_Idle => k_is)
    (case n_NotHere => k_is)
    (case n_NoLetter => k_is)
    (case e_k_BW => k_is)
    (case e_s_BW => k_is)
    (case e_t_BW => k_is)
    (case e_s_ME => k_is)
    (case e_t_ME => k_is)
    (case e_h_ME => k_is)
    (case e_s_BWME => k_is)
    (case e_x_hg => k_is)
    (case e_x_hk => k_is)
    (case e_x_hd => k_is)
    (case e_x_ha => k_is)
    (case e_x_hn => k_is)
    (case e_x_ht => k_is)
    (case e_x_hm => k_is)
    (case e_x_in => k_exc)
    (case e_i_VE => kit_is)
    (case e_i_BadWorld => kit_is)
    (case e_i_NoCaller => kit_is)
    (case e_i_NoHouse => kit_is)
    (case e_i_NoKey => kit_is)
    (case e_i_BadWish => kit_is)
    (case e_i_Busy => kit_is)
    (case e_i_Idle => kit_is)
    (case e_i_NotHere => kit_is)
    (case e_i_NoLetter => kit_is)
    (case y_LIMIT => k_is)
#print axioms PySem.Challenge.cw_movehouse_k01_a_wish_done_holds
