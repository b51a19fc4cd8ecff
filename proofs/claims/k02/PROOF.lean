import PyProof.Rows.All
import Wide.All
import OpenK.AllK
import Wide.FinOn
import HandS.ForMost
import HandS.Exc
import HandS.TryOnly
import HandS.ExcOwn
import HandS.WordsExc
import HandS.Evl
import HandS.IsInst
import HandS.Wide
import HandS.Flow
import HandS.DictComp
import HandS.Codes
import PySem.Challenge.RW_movehouse_k02_one_desk
set_option Elab.async false
set_option linter.all false
set_option maxRecDepth 100000
set_option maxHeartbeats 4000000
/-! Readings over data: what an expression's reading gives, as plain data; what a body's reading hands back. -/
namespace Wk
open PySem L2
open Evl (Ex)

/-! ### data in the heap -/
section
variable {K : PySem.W.Frag} {H H' : Hp}
mutual
theorem Dp.mono (e : Ex H H') : ∀ (d : PyData) (v : V), Dp K H v d → Dp K H' v d
  | .none, _, h => by cases h; exact .non
  | .bool b, _, h => by cases h; exact .bl b
  | .int i, _, h => by cases h; exact .int i
  | .str x, _, h => by cases h; exact .str x
  | .list ds, _, h => by
    cases h with
    | lst s a => exact .lst (Evl.ex_l e s) (DpAll.mono e ds _ a)
  | .tuple ds, _, h => by
    cases h with
    | tup s a => exact .tup (Evl.ex_t e s) (DpAll.mono e ds _ a)
  | .dict _, _, h => nomatch h
theorem DpAll.mono (e : Ex H H') : ∀ (ds : List PyData) (vs : List V), DpAll K H vs ds → DpAll K H' vs ds
  | [], _, h => by cases h; exact .nil
  | d :: ds, _, h => by
    cases h with
    | cons a b => exact .cons (Dp.mono e d _ a) (DpAll.mono e ds _ b)
end
theorem DpAll.length : ∀ {vs : List V} {ds : List PyData}, DpAll K H vs ds → vs.length = ds.length
  | _, _, .nil => rfl
  | _, _, .cons _ b => congrArg (· + 1) (DpAll.length b)
theorem DpAll.get : ∀ {vs : List V} {ds : List PyData}, DpAll K H vs ds → ∀ {i : Nat} {d : PyData}, ds[i]? = some d → ∃ v, vs[i]? = some v ∧ Dp K H v d
  | _, _, .nil, i, d, h => by simp at h
  | _, _, .cons a b, 0, d, h => by
    simp at h; subst h
    exact ⟨_, rfl, a⟩
  | _, _, .cons a b, i + 1, d, h => by
    obtain ⟨v, h1, h2⟩ := DpAll.get b (i := i) (d := d) (by simpa using h)
    exact ⟨v, by simpa using h1, h2⟩
theorem DpAll.atI {vs : List V} {ds : List PyData} (a : DpAll K H vs ds) {i : Int} {d : PyData} (h : L2.atI ds i = some d) : ∃ v, L2.atI vs i = some v ∧ Dp K H v d := by
  unfold L2.atI at h ⊢
  rw [DpAll.length a]
  cases e : ixN ds.length i with
  | none => rw [e] at h; cases h
  | some j =>
    rw [e] at h
    exact DpAll.get a h
theorem DpAll.append : ∀ {vs us : List V} {ds es : List PyData}, DpAll K H vs ds → DpAll K H us es → DpAll K H (vs ++ us) (ds ++ es)
  | _, _, _, _, .nil, b => b
  | _, _, _, _, .cons a r, b => .cons a (DpAll.append r b)
theorem DpAll.one {v : V} {d : PyData} (h : Dp K H v d) : DpAll K H [v] [d] := .cons h .nil
theorem DpAll.snoc_of {vs : List V} {ds : List PyData} {v : V} {d : PyData} (a : DpAll K H vs ds) (h : Dp K H v d) : DpAll K H (vs ++ [v]) (ds ++ [d]) := DpAll.append a (DpAll.one h)
theorem DpAll.take : ∀ {vs : List V} {ds : List PyData} (n : Nat), DpAll K H vs ds → DpAll K H (vs.take n) (ds.take n)
  | _, _, 0, _ => .nil
  | _, _, _ + 1, .nil => .nil
  | _, _, n + 1, .cons a r => .cons a (DpAll.take n r)
theorem DpAll.drop : ∀ {vs : List V} {ds : List PyData} (n : Nat), DpAll K H vs ds → DpAll K H (vs.drop n) (ds.drop n)
  | _, _, 0, r => r
  | _, _, _ + 1, .nil => .nil
  | _, _, n + 1, .cons a r => DpAll.drop n r
theorem DpAll.ints : ∀ (ns : List Int), DpAll K H (ns.map V.int) (ns.map PyData.int)
  | [] => .nil
  | n :: r => .cons (.int n) (DpAll.ints r)
theorem DpAll.strs : ∀ (ns : List Str), DpAll K H (ns.map V.str) (ns.map PyData.str)
  | [] => .nil
  | n :: r => .cons (.str n) (DpAll.strs r)
theorem DpAll.bls : ∀ (ns : List Bool), DpAll K H (ns.map V.bl) (ns.map PyData.bool)
  | [] => .nil
  | n :: r => .cons (.bl n) (DpAll.bls r)
theorem DpAll.strs_inv : ∀ {ns : List Str} {vs : List V}, DpAll K H vs (ns.map PyData.str) → vs = ns.map V.str
  | [], _, .nil => rfl
  | n :: r, _, .cons a b => by cases a; rw [DpAll.strs_inv b]; rfl
theorem DpAll.bls_inv : ∀ {ns : List Bool} {vs : List V}, DpAll K H vs (ns.map PyData.bool) → vs = ns.map V.bl
  | [], _, .nil => rfl
  | n :: r, _, .cons a b => by cases a; rw [DpAll.bls_inv b]; rfl
theorem DpAll.ints_inv : ∀ {ns : List Int} {vs : List V}, DpAll K H vs (ns.map PyData.int) → vs = ns.map V.int
  | [], _, .nil => rfl
  | n :: r, _, .cons a b => by cases a; rw [DpAll.ints_inv b]; rfl
end

/-! ### data without lists: it stays whatever happens to lists, dicts, instances -/
mutual
def noList : PyData → Bool
  | .none => true
  | .bool _ => true
  | .int _ => true
  | .str _ => true
  | .tuple ds => noLists ds
  | .list _ => false
  | .dict _ => false
def noLists : List PyData → Bool
  | [] => true
  | d :: ds => noList d && noLists ds
end
/-- tuples are kept -/
def KeepT (K : PySem.W.Frag) (H H' : Hp) : Prop := ∀ a xs, SqT K H a xs → SqT K H' a xs
section
variable {K : PySem.W.Frag} {H H' : Hp}
mutual
theorem Dp.keepT (k : KeepT K H H') : ∀ (d : PyData) (v : V), noList d = true → Dp K H v d → Dp K H' v d
  | .none, _, _, h => by cases h; exact .non
  | .bool b, _, _, h => by cases h; exact .bl b
  | .int i, _, _, h => by cases h; exact .int i
  | .str x, _, _, h => by cases h; exact .str x
  | .list ds, _, n, _ => by simp [noList] at n
  | .tuple ds, _, n, h => by
    cases h with
    | tup s a => exact .tup (k _ _ s) (DpAll.keepT k ds _ (by simpa [noList] using n) a)
  | .dict _, _, _, h => nomatch h
theorem DpAll.keepT (k : KeepT K H H') : ∀ (ds : List PyData) (vs : List V), noLists ds = true → DpAll K H vs ds → DpAll K H' vs ds
  | [], _, _, h => by cases h; exact .nil
  | d :: ds, _, n, h => by
    simp only [noLists, Bool.and_eq_true] at n
    cases h with
    | cons a b => exact .cons (Dp.keepT k d _ n.1 a) (DpAll.keepT k ds _ n.2 b)
end
theorem noLists_append : ∀ (a b : List PyData), noLists (a ++ b) = (noLists a && noLists b)
  | [], b => by simp [noLists]
  | x :: a, b => by simp [noLists, noLists_append a b, Bool.and_assoc]
theorem noLists_map {α : Type} {f : α → PyData} (h : ∀ a, noList (f a) = true) : ∀ l : List α, noLists (l.map f) = true
  | [] => rfl
  | a :: l => by simp [noLists, h a, noLists_map h l]
theorem noLists_of {l : List PyData} (h : ∀ d ∈ l, noList d = true) : noLists l = true := by
  induction l with
  | nil => rfl
  | cons a l ih => simp [noLists, h a (by simp), ih fun d hd => h d (by simp [hd])]
theorem noLists_mem : ∀ {l : List PyData} {d : PyData}, noLists l = true → d ∈ l → noList d = true
  | a :: l, d, h, m => by
    simp only [noLists, Bool.and_eq_true] at h
    rcases List.mem_cons.mp m with e | m
    · rw [e]; exact h.1
    · exact noLists_mem h.2 m
theorem Ex.keepT (e : Ex H H') : KeepT K H H' := fun _ _ h => Evl.ex_t e h
theorem KeepT.trans {H2 : Hp} (a : KeepT K H H') (b : KeepT K H' H2) : KeepT K H H2 := fun x xs h => b x xs (a x xs h)
/-- what may be written: no tuple, nothing locked -/
theorem keepT_upd {p : Addr} {o u : HO} (h : H p = some o) (hm : L2.Mut (some o)) : KeepT K H (upd H p u) := fun a xs hs => by
  rcases hs with (h1 | ⟨ob, h1⟩) | h1
  · have : a ≠ p := fun z => by subst z; rw [h] at h1; cases h1; exact hm
    exact .inl (.inl (by rw [upd_ne this]; exact h1))
  · have : a ≠ p := fun z => by subst z; rw [h] at h1; cases h1; exact hm
    exact .inl (.inr ⟨ob, by rw [upd_ne this]; exact h1⟩)
  · exact .inr h1
end


/-! ### two heaps: B, what stays; H, all. What is in H alone are this body's own lists and dicts -/
def OwnO (o : HO) : Prop := (∃ xs, o = .lst xs) ∨ ∃ kvs, o = .dK kvs
structure Two (B H : Hp) : Prop where
  sub : Ex B H
  out : ∀ q o, H q = some o → B q = none → OwnO o
structure Grow (B H B' H' : Hp) : Prop where
  b : Ex B B'
  h : Ex H H'
  two : Two B' H'
  out : ∀ q, B q = none → H q ≠ none → B' q = none
section
variable {K : PySem.W.Frag} {B H B' H' B2 H2 : Hp}
theorem Grow.refl (t : Two B H) : Grow B H B H := ⟨Evl.Ex.refl B, Evl.Ex.refl H, t, fun _ h _ => h⟩
theorem Grow.trans (a : Grow B H B' H') (b : Grow B' H' B2 H2) : Grow B H B2 H2 :=
  ⟨a.b.trans b.b, a.h.trans b.h, b.two, fun q h1 h2 => b.out q (a.out q h1 h2) (by
    cases e : H q with
    | none => exact absurd e h2
    | some o => rw [a.h q o e]; simp)⟩
/-- a new object that stays -/
theorem Grow.new {p : Addr} {o : HO} (t : Two B H) (h : H p = none) : Grow B H (upd B p o) (upd H p o) where
  b := Evl.Ex.new (by
    cases e : B p with
    | none => rfl
    | some u => rw [t.sub p u e] at h; cases h)
  h := Evl.Ex.new h
  two := ⟨fun q u e => by
      by_cases z : q = p
      · subst z; rw [upd_same] at e ⊢; exact e
      · rw [upd_ne z] at e ⊢; exact t.sub q u e,
    fun q u e1 e2 => by
      by_cases z : q = p
      · subst z; rw [upd_same] at e2; cases e2
      · rw [upd_ne z] at e1 e2; exact t.out q u e1 e2⟩
  out := fun q h1 h2 => by
    have z : q ≠ p := fun z => by subst z; exact h2 h
    rw [upd_ne z]; exact h1
/-- a new list or dict of one's own -/
theorem Grow.own {p : Addr} {o : HO} (t : Two B H) (h : H p = none) (ho : OwnO o) : Grow B H B (upd H p o) where
  b := Evl.Ex.refl B
  h := Evl.Ex.new h
  two := ⟨fun q u e => by
      have z : q ≠ p := fun z => by subst z; rw [t.sub q u e] at h; cases h
      rw [upd_ne z]; exact t.sub q u e,
    fun q u e1 e2 => by
      by_cases z : q = p
      · subst z; rw [upd_same] at e1; cases e1; exact ho
      · rw [upd_ne z] at e1; exact t.out q u e1 e2⟩
  out := fun q h1 _ => h1
/-- all that is new stays -/
def growB (B H H' : Hp) : Hp := fun q => if (B q).isNone && (H q).isSome then none else H' q
theorem Grow.all (t : Two B H) (e : Ex H H') : Grow B H (growB B H H') H' where
  b := fun q o h => by
    unfold growB
    rw [h]
    exact e q o (t.sub q o h)
  h := e
  two := ⟨fun q o h => by
      unfold growB at h
      split at h
      · cases h
      · exact h,
    fun q o h1 h2 => by
      unfold growB at h2
      split at h2
      · rename_i c
        simp only [Bool.and_eq_true, Option.isNone_iff_eq_none, Option.isSome_iff_exists] at c
        obtain ⟨c1, u, c2⟩ := c
        have := e q u c2
        rw [this] at h1; cases h1
        exact t.out q o c2 c1
      · rw [h2] at h1; cases h1⟩
  out := fun q h1 h2 => by
    unfold growB
    cases e : H q with
    | none => exact absurd e h2
    | some o => simp [h1]
theorem Two.tup (t : Two B H) : KeepT K H B := fun a xs h => by
  rcases h with (h | ⟨o, h⟩) | h
  · refine .inl (.inl ?_)
    cases e : B a with
    | none => rcases t.out a _ h e with ⟨_, z⟩ | ⟨_, z⟩ <;> cases z
    | some u => rw [t.sub a u e] at h; exact h
  · refine .inl (.inr ⟨o, ?_⟩)
    cases e : B a with
    | none => rcases t.out a _ h e with ⟨_, z⟩ | ⟨_, z⟩ <;> cases z
    | some u => rw [t.sub a u e] at h; exact h
  · exact .inr h
/-- data without lists stands in B -/
theorem Dp.down (t : Two B H) {v : V} {d : PyData} (hn : noList d = true) (h : Dp K H v d) : Dp K B v d := Dp.keepT t.tup d v hn h
theorem Dp.up (t : Two B H) {v : V} {d : PyData} (h : Dp K B v d) : Dp K H v d := Dp.mono t.sub d v h
theorem DpAll.up (t : Two B H) {vs : List V} {ds : List PyData} (h : DpAll K B vs ds) : DpAll K H vs ds := DpAll.mono t.sub ds vs h
end

/-! ### what a slot, a result holds -/
/-- plain data; one very value; a list of one's own; a dict of one's own -/
inductive Sl where
  | py (d : PyData)
  | at (v : V)
  | own (ds : List PyData)
  | dct (kvs : List (Key × PyData))
def DpKV (K : PySem.W.Frag) (B : Hp) : List (Key × V) → List (Key × PyData) → Prop
  | [], [] => True
  | (k, v) :: r, (j, d) :: s => k = j ∧ Dp K B v d ∧ DpKV K B r s
  | _, _ => False
theorem DpKV.mono {K : PySem.W.Frag} {B B' : Hp} (e : Ex B B') : ∀ {r : List (Key × V)} {s : List (Key × PyData)}, DpKV K B r s → DpKV K B' r s
  | [], [], _ => trivial
  | (_, _) :: _, (_, _) :: _, h => ⟨h.1, Dp.mono e _ _ h.2.1, DpKV.mono e h.2.2⟩
  | [], (_, _) :: _, h => h
  | (_, _) :: _, [], h => h
def Is (K : PySem.W.Frag) (B H : Hp) (v : V) : Sl → Prop
  | .py d => Dp K B v d
  | .at u => v = u
  | .own ds => ∃ p xs, v = .ref p ∧ B p = none ∧ H p = some (.lst xs) ∧ DpAll K B xs ds
  | .dct kvs => ∃ p xs, v = .ref p ∧ B p = none ∧ H p = some (.dK xs) ∧ DpKV K B xs kvs
def Sl.isOwn : Sl → Bool
  | .own _ => true
  | .dct _ => true
  | _ => false
theorem Is.grow {K : PySem.W.Frag} {B H B' H' : Hp} (g : Grow B H B' H') {v : V} : ∀ {s : Sl}, Is K B H v s → Is K B' H' v s
  | .py d, h => Dp.mono g.b d v h
  | .at _, h => h
  | .own ds, ⟨p, xs, e, hb, hh, a⟩ => ⟨p, xs, e, g.out p hb (by rw [hh]; simp), g.h p _ hh, DpAll.mono g.b _ _ a⟩
  | .dct ds, ⟨p, xs, e, hb, hh, a⟩ => ⟨p, xs, e, g.out p hb (by rw [hh]; simp), g.h p _ hh, a.mono g.b⟩
/-- a result: what it is, and new where it is one's own -/
def Res (K : PySem.W.Frag) (H0 B H : Hp) (v : V) (s : Sl) : Prop := Is K B H v s ∧ (s.isOwn = true → ∃ p, v = .ref p ∧ H0 p = none)
def IsAll (K : PySem.W.Frag) (B H : Hp) : List V → List Sl → Prop
  | [], [] => True
  | v :: vs, s :: ss => Is K B H v s ∧ IsAll K B H vs ss
  | _, _ => False
theorem IsAll.grow {K : PySem.W.Frag} {B H B' H' : Hp} (g : Grow B H B' H') : ∀ {vs : List V} {ss : List Sl}, IsAll K B H vs ss → IsAll K B' H' vs ss
  | [], [], _ => trivial
  | _ :: _, _ :: _, h => ⟨h.1.grow g, IsAll.grow g h.2⟩
  | [], _ :: _, h => h
  | _ :: _, [], h => h
theorem IsAll.length {K : PySem.W.Frag} {B H : Hp} : ∀ {vs : List V} {ss : List Sl}, IsAll K B H vs ss → vs.length = ss.length
  | [], [], _ => rfl
  | _ :: _, _ :: _, h => congrArg (· + 1) (IsAll.length h.2)
  | [], _ :: _, h => h.elim
  | _ :: _, [], h => h.elim
theorem IsAll.py {K : PySem.W.Frag} {B H : Hp} : ∀ {vs : List V} {ds : List PyData}, IsAll K B H vs (ds.map Sl.py) → DpAll K B vs ds
  | [], [], _ => .nil
  | _ :: _, _ :: _, h => .cons h.1 (IsAll.py h.2)
  | [], _ :: _, h => h.elim
  | _ :: _, [], h => h.elim
theorem IsAll.get {K : PySem.W.Frag} {B H : Hp} : ∀ {vs : List V} {ss : List Sl} {i : Nat} {s : Sl}, IsAll K B H vs ss → ss[i]? = some s → ∃ v, vs[i]? = some v ∧ Is K B H v s
  | [], [], i, s, _, e => by simp at e
  | v :: _, t :: _, 0, s, h, e => by simp at e; subst e; exact ⟨v, rfl, h.1⟩
  | _ :: _, _ :: _, i + 1, s, h, e => by obtain ⟨u, h1, h2⟩ := IsAll.get h.2 (i := i) (by simpa using e); exact ⟨u, by simpa using h1, h2⟩
  | [], _ :: _, _, _, h, _ => h.elim
  | _ :: _, [], _, _, h, _ => h.elim
theorem is1 {K : PySem.W.Frag} {B H : Hp} {vs : List V} {s : Sl} (h : IsAll K B H vs [s]) : ∃ v, vs = [v] ∧ Is K B H v s := by
  cases vs with
  | nil => exact h.elim
  | cons a r => cases r with
    | nil => exact ⟨a, rfl, h.1⟩
    | cons => exact h.2.elim
abbrev Rho := List (Option Sl)
/-- the slots σ hold what ρ says; what is one's own stands in one slot alone -/
structure Sg (K : PySem.W.Frag) (B H : Hp) (σ : St) (ρ : Rho) : Prop where
  two : Two B H
  len : σ.length = ρ.length
  has : ∀ (i : Nat) (s : Sl), ρ[i]? = some (some s) → ∃ v, σ[i]? = some (some v) ∧ Is K B H v s
  one : ∀ (i j : Nat) (s t : Sl), ρ[i]? = some (some s) → ρ[j]? = some (some t) → s.isOwn = true → t.isOwn = true → σ[i]? = σ[j]? → i = j
section
variable {K : PySem.W.Frag} {B H B' H' : Hp} {σ : St} {ρ : Rho}
theorem Sg.grow (g : Grow B H B' H') (h : Sg K B H σ ρ) : Sg K B' H' σ ρ := ⟨g.two, h.len, fun i s hi => let ⟨v, h1, h2⟩ := h.has i s hi; ⟨v, h1, h2.grow g⟩, h.one⟩
theorem set_cases {α : Type} {l : List α} {i j : Nat} {a x : α} (h : (l.set i a)[j]? = some x) : (i = j ∧ x = a ∧ i < l.length) ∨ (i ≠ j ∧ l[j]? = some x) := by
  by_cases e : i = j
  · subst e
    have hl : i < l.length := by
      refine Classical.byContradiction fun hn => ?_
      rw [List.getElem?_eq_none (by rw [List.length_set]; omega)] at h
      cases h
    rw [List.getElem?_set_self hl] at h
    cases h
    exact .inl ⟨rfl, rfl, hl⟩
  · rw [List.getElem?_set_ne e] at h
    exact .inr ⟨e, h⟩
/-- a slot takes a result -/
theorem Sg.set {H0 : Hp} {v : V} {s : Sl} (i : Nat) (h : Sg K B H σ ρ) (hv : Is K B H v s) (hn : s.isOwn = true → ∀ (j : Nat) (t : Sl), ρ[j]? = some (some t) → t.isOwn = true → σ[j]? ≠ some (some v)) : Sg K B H (σ.set i (some v)) (ρ.set i (some s)) := by
  refine ⟨h.two, by rw [List.length_set, List.length_set]; exact h.len, fun j t hj => ?_, fun j k t u hj hk ht hu e => ?_⟩
  · rcases set_cases hj with ⟨rfl, e, hl⟩ | ⟨ne, hj⟩
    · cases e
      exact ⟨v, by rw [List.getElem?_set_self (h.len ▸ hl)], hv⟩
    · obtain ⟨u, h1, h2⟩ := h.has j t hj
      exact ⟨u, by rw [List.getElem?_set_ne ne]; exact h1, h2⟩
  · rcases set_cases hj with ⟨rfl, e1, hl⟩ | ⟨n1, hj⟩ <;> rcases set_cases hk with ⟨rfl, e2, hl2⟩ | ⟨n2, hk⟩
    · rfl
    · cases e1
      rw [List.getElem?_set_self (h.len ▸ hl), List.getElem?_set_ne n2] at e
      exact absurd e.symm (hn ht k u hk hu)
    · cases e2
      rw [List.getElem?_set_self (h.len ▸ hl2), List.getElem?_set_ne n1] at e
      exact absurd e (hn hu j t hj ht)
    · rw [List.getElem?_set_ne n1, List.getElem?_set_ne n2] at e
      exact h.one j k t u hj hk ht hu e
theorem Sg.forget (i : Nat) (h : Sg K B H σ ρ) : Sg K B H (σ.set i none) (ρ.set i none) := by
  refine ⟨h.two, by rw [List.length_set, List.length_set]; exact h.len, fun j t hj => ?_, fun j k t u hj hk ht hu e => ?_⟩
  · rcases set_cases hj with ⟨rfl, e, hl⟩ | ⟨ne, hj⟩
    · cases e
    · obtain ⟨u, h1, h2⟩ := h.has j t hj
      exact ⟨u, by rw [List.getElem?_set_ne ne]; exact h1, h2⟩
  · rcases set_cases hj with ⟨rfl, e1, hl⟩ | ⟨n1, hj⟩
    · cases e1
    rcases set_cases hk with ⟨rfl, e2, hl2⟩ | ⟨n2, hk⟩
    · cases e2
    rw [List.getElem?_set_ne n1, List.getElem?_set_ne n2] at e
    exact h.one j k t u hj hk ht hu e
/-- the result of an expression goes into a slot -/
theorem Sg.res {H0 : Hp} {v : V} {s : Sl} (i : Nat) (h0 : Ex H0 H) (h : Sg K B H σ ρ) (hold : ∀ (j : Nat) (t : Sl), ρ[j]? = some (some t) → t.isOwn = true → ∀ p : Addr, σ[j]? = some (some (V.ref p)) → H0 p ≠ none) (hv : Res K H0 B H v s) : Sg K B H (σ.set i (some v)) (ρ.set i (some s)) :=
  h.set (H0 := H0) i hv.1 fun ho j t hj ht e => by
    obtain ⟨p, rfl, hp⟩ := hv.2 ho
    exact hold j t hj ht p e hp
theorem Sg.owns (h : Sg K B H σ ρ) : ∀ (j : Nat) (t : Sl), ρ[j]? = some (some t) → t.isOwn = true → ∀ p : Addr, σ[j]? = some (some (V.ref p)) → H p ≠ none := fun j t hj ht p e z => by
  obtain ⟨v, h1, h2⟩ := h.has j t hj
  rw [h1] at e; cases e
  cases t with
  | py => cases ht
  | «at» => cases ht
  | own ds => obtain ⟨q, xs, e, _, hh, _⟩ := h2; cases e; rw [hh] at z; cases z
  | dct ds => obtain ⟨q, xs, e, _, hh, _⟩ := h2; cases e; rw [hh] at z; cases z
/-- a def's slots at its start -/
theorem Sg.start {N : List Str} {vs : List V} {ss : List Sl} (t : Two B H) (h : IsAll K B H vs ss) (hl : ss.length ≤ N.length) (hno : ∀ s ∈ ss, s.isOwn = false) : Sg K B H (L2.start N vs) (ss.map some ++ List.replicate (N.length - ss.length) none) := by
  have hlen := h.length
  have low : ∀ (i : Nat) (s : Sl), (ss.map some ++ List.replicate (N.length - ss.length) none)[i]? = some (some s) → ss[i]? = some s := fun i s hi => by
    have hil : i < ss.length := by
      refine Classical.byContradiction fun hn => ?_
      rw [List.getElem?_append_right (by simp; omega)] at hi
      simp only [List.length_map] at hi
      rw [List.getElem?_replicate] at hi
      split at hi <;> cases hi
    rw [List.getElem?_append_left (by simpa using hil), List.getElem?_map] at hi
    cases e : ss[i]? with
    | none => rw [e] at hi; cases hi
    | some t => rw [e] at hi; simp at hi; rw [hi]
  refine ⟨t, ?_, fun i s hi => ?_, fun i j s u hi _ hs _ _ => ?_⟩
  · simp [L2.start]; omega
  · obtain ⟨v, h1, h2⟩ := h.get (low i s hi)
    refine ⟨v, ?_, h2⟩
    have hiv : i < vs.length := (List.getElem?_eq_some_iff.mp h1).1
    show (vs.map some ++ _)[i]? = _
    rw [List.getElem?_append_left (by simpa using hiv), List.getElem?_map, h1]
    rfl
  · have := hno s (List.mem_of_getElem? (low i s hi))
    rw [this] at hs; cases hs
end
end Wk

/-! Operations, comparisons, places, calls of built-ins over data; what readings give. -/
namespace Wk
open PySem L2
open Evl (Ex)

theorem Ex.upd {H : Hp} {p : Addr} {o : HO} (h : H p = none) : Ex H (upd H p o) := Evl.Ex.new h

/-! ### two operands -/
inductive Bin : Operator → PyData → PyData → PyData → Prop where
  | add (i j : Int) : Bin .Add (.int i) (.int j) (.int (i + j))
  | sub (i j : Int) : Bin .Sub (.int i) (.int j) (.int (i - j))
  | mul (i j : Int) (h : CMul i j) : Bin .Mult (.int i) (.int j) (.int (i * j))
  | fdiv (i j : Int) (h : 0 < j ∧ j < 1073741824) : Bin .FloorDiv (.int i) (.int j) (.int (i / j))
  | mod (i j : Int) (h : 0 < j) : Bin .Mod (.int i) (.int j) (.int (i % j))
  | pow (i j : Int) (h : CPow i j) : Bin .Pow (.int i) (.int j) (.int (i ^ j.toNat))
  | cat (x y : Str) (h : x.length + y.length ≤ sizeLine) : Bin .Add (.str x) (.str y) (.str (x ++ y))
  | catT (xs ys : List PyData) (h : xs ≠ [] ∧ ys ≠ [] ∧ xs.length + ys.length ≤ sizeLine) : Bin .Add (.tuple xs) (.tuple ys) (.tuple (xs ++ ys))
def rBin (K : PySem.W.Frag) (op : Operator) : R2 := fun x y H Q => ∃ d e r, Dp K H x d ∧ Dp K H y e ∧ Bin op d e r ∧ ∀ v H', Ex H H' → Dp K H' v r → Q v H'
section
variable {X : Cx}
theorem op_bin (op : Operator) : OpR X (binaryOp op) (rBin X.K op) := by
  intro pins s σ H x y v u Q I rx ry h
  obtain ⟨d, e, r, hd, he, b, q⟩ := h
  cases b with
  | add i j => cases hd; cases he; exact op_add pins s σ H _ _ v u Q I rx ry ⟨i, j, rfl, rfl, q _ _ (Evl.Ex.refl H) (.int _)⟩
  | sub i j => cases hd; cases he; exact op_sub pins s σ H _ _ v u Q I rx ry ⟨i, j, rfl, rfl, q _ _ (Evl.Ex.refl H) (.int _)⟩
  | mul i j hc => cases hd; cases he; exact op_mul pins s σ H _ _ v u Q I rx ry ⟨i, j, rfl, rfl, hc, q _ _ (Evl.Ex.refl H) (.int _)⟩
  | fdiv i j hc => cases hd; cases he; exact op_fdiv pins s σ H _ _ v u Q I rx ry ⟨i, j, rfl, rfl, hc, q _ _ (Evl.Ex.refl H) (.int _)⟩
  | mod i j hc => cases hd; cases he; exact op_mod pins s σ H _ _ v u Q I rx ry ⟨i, j, rfl, rfl, hc, q _ _ (Evl.Ex.refl H) (.int _)⟩
  | pow i j hc => cases hd; cases he; exact op_pow pins s σ H _ _ v u Q I rx ry ⟨i, j, rfl, rfl, hc, q _ _ (Evl.Ex.refl H) (.int _)⟩
  | cat a b hc => cases hd; cases he; exact op_add_str pins s σ H _ _ v u Q I rx ry ⟨a, b, rfl, rfl, hc, q _ _ (Evl.Ex.refl H) (.str _)⟩
  | catT xs ys hc =>
    cases hd with
    | tup s1 a1 =>
      cases he with
      | tup s2 a2 =>
        obtain ⟨h1, h2, h3⟩ := hc
        have n1 := DpAll.length a1
        have n2 := DpAll.length a2
        refine op_catT pins s σ H _ _ v u Q I rx ry ⟨_, _, _, _, rfl, rfl, s1, s2, ?_, by omega, ?_, ?_⟩
        · intro z; subst z; cases xs with
          | nil => exact h1 rfl
          | cons => cases n1
        · intro z; subst z; cases ys with
          | nil => exact absurd rfl h2
          | cons => cases n2
        · intro _ p hp
          exact q _ _ (Ex.upd hp) (.tup (SqT.of upd_same) (DpAll.mono (Ex.upd hp) _ _ (DpAll.append a1 a2)))
end

/-! ### comparisons -/
inductive Cmp : CmpOp → PyData → PyData → Bool → Prop where
  | lt (i j : Int) : Cmp .Lt (.int i) (.int j) (decide (i < j))
  | le (i j : Int) : Cmp .LtE (.int i) (.int j) (decide (i ≤ j))
  | gt (i j : Int) : Cmp .Gt (.int i) (.int j) (decide (j < i))
  | ge (i j : Int) : Cmp .GtE (.int i) (.int j) (decide (j ≤ i))
  | eqI (i j : Int) : Cmp .Eq (.int i) (.int j) (decide (i = j))
  | neI (i j : Int) : Cmp .NotEq (.int i) (.int j) (!decide (i = j))
  | eqS (i j : Str) : Cmp .Eq (.str i) (.str j) (decide (i = j))
  | neS (i j : Str) : Cmp .NotEq (.str i) (.str j) (!decide (i = j))
  | eqB (i j : Bool) : Cmp .Eq (.bool i) (.bool j) (decide (i = j))
  | neB (i j : Bool) : Cmp .NotEq (.bool i) (.bool j) (!decide (i = j))
  | eq (d e : PyData) (h : SeqAt.shaped d = true ∧ SeqAt.shaped e = true) : Cmp .Eq d e (PyData.eqv d e)
  | ne (d e : PyData) (h : SeqAt.shaped d = true ∧ SeqAt.shaped e = true) : Cmp .NotEq d e (!PyData.eqv d e)
  | isN (d : PyData) (b : Bool) (h : b = true ↔ d = .none) : Cmp .Is d .none b
  | notN (d : PyData) (b : Bool) (h : b = true ↔ d ≠ .none) : Cmp .IsNot d .none b
def rCmp (K : PySem.W.Frag) (op : CmpOp) : R2 := fun x y H Q => ∃ d e b, Dp K H x d ∧ Dp K H y e ∧ Cmp op d e b ∧ Q (.bl b) H
theorem Dp.non_iff {K : PySem.W.Frag} {H : Hp} {x : V} {d : PyData} (h : Dp K H x d) : x = .non ↔ d = .none := by
  cases h <;> simp
section
variable {X : Cx}
theorem op_cmp (op : CmpOp) (hu : X.A.units + 64 < cLine) : OpR X (compareOp op) (rCmp X.K op) := by
  intro pins s σ H x y v u Q I rx ry h
  obtain ⟨d, e, b, hd, he, c, q⟩ := h
  cases c with
  | lt i j => cases hd; cases he; exact op_lt pins s σ H _ _ v u Q I rx ry ⟨i, j, rfl, rfl, q⟩
  | le i j => cases hd; cases he; exact op_le pins s σ H _ _ v u Q I rx ry ⟨i, j, rfl, rfl, q⟩
  | gt i j => cases hd; cases he; exact op_gt pins s σ H _ _ v u Q I rx ry ⟨i, j, rfl, rfl, q⟩
  | ge i j => cases hd; cases he; exact op_ge pins s σ H _ _ v u Q I rx ry ⟨i, j, rfl, rfl, q⟩
  | eqI i j => cases hd; cases he; exact op_eq pins s σ H _ _ v u Q I rx ry ⟨rfl, by simpa using q⟩
  | neI i j => cases hd; cases he; exact op_ne pins s σ H _ _ v u Q I rx ry ⟨rfl, by simpa using q⟩
  | eqS i j => cases hd; cases he; exact op_eq pins s σ H _ _ v u Q I rx ry ⟨rfl, by simpa using q⟩
  | neS i j => cases hd; cases he; exact op_ne pins s σ H _ _ v u Q I rx ry ⟨rfl, by simpa using q⟩
  | eqB i j => cases hd; cases he; exact op_eq pins s σ H _ _ v u Q I rx ry ⟨rfl, by simpa using q⟩
  | neB i j => cases hd; cases he; exact op_ne pins s σ H _ _ v u Q I rx ry ⟨rfl, by simpa using q⟩
  | eq _ _ hc => exact op_eqD hu pins s σ H _ _ v u Q I rx ry ⟨d, e, hd, he, hc.1, hc.2, q⟩
  | ne _ _ hc => exact op_neD hu pins s σ H _ _ v u Q I rx ry ⟨d, e, hd, he, hc.1, hc.2, q⟩
  | isN _ _ hb =>
    cases he
    refine op_isN pins s σ H _ _ v u Q I rx ry ⟨rfl, ?_⟩
    have : decide (x = V.non) = b := by
      rw [Bool.eq_iff_iff, decide_eq_true_iff, Dp.non_iff hd, hb]
    rw [this]; exact q
  | notN _ _ hb =>
    cases he
    refine op_notN pins s σ H _ _ v u Q I rx ry ⟨rfl, ?_⟩
    have : (!decide (x = V.non)) = b := by
      rw [Bool.eq_iff_iff, Bool.not_eq_true', decide_eq_false_iff_not, Dp.non_iff hd, hb]
    rw [this]; exact q
end

/-! ### a place: xs[i], t[i], z[i] -/
inductive Idx : PyData → PyData → PyData → Prop where
  | lst (ds : List PyData) (i : Int) (r : PyData) (h : atI ds i = some r) : Idx (.list ds) (.int i) r
  | tup (ds : List PyData) (i : Int) (r : PyData) (h : atI ds i = some r) : Idx (.tuple ds) (.int i) r
  | str (z : Str) (i : Int) (c : Nat) (h : z.length ≤ sizeLine ∧ atI z.cps.toList i = some c) : Idx (.str z) (.int i) (.str ⟨#[c]⟩)
def rIdx (K : PySem.W.Frag) : R2 := fun x y H Q => ∃ d e r, Dp K H x d ∧ Dp K H y e ∧ Idx d e r ∧ ∀ v, Dp K H v r → (∀ B, Evl.Ex B H → Dp K B x d → Dp K B v r) → Q v H
theorem ix_idx {X : Cx} : IxR X (rIdx X.K) := by
  intro value slice pins s σ H x y v u Q I rx ry h hs
  obtain ⟨d, e, r, hd, he, b, q⟩ := h
  cases b with
  | lst ds i r ha =>
    cases hd with
    | @lst a xs _ s1 a1 =>
      cases he
      obtain ⟨w, h1, h2⟩ := DpAll.atI a1 ha
      refine ix_list value slice pins s σ H _ _ v u Q I rx ry ⟨_, _, i, w, rfl, rfl, s1, h1, q w h2 fun B t hB => ?_⟩ hs
      cases hB with
      | @lst _ ys _ s2 a2 =>
        have : xs = ys := I.list_inj s1 (Evl.ex_l t s2)
        subst this
        obtain ⟨w', h3, h4⟩ := DpAll.atI a2 ha
        rw [h1] at h3; cases h3
        exact h4
  | tup ds i r ha =>
    cases hd with
    | @tup a xs _ s1 a1 =>
      cases he
      obtain ⟨w, h1, h2⟩ := DpAll.atI a1 ha
      refine ix_tup value slice pins s σ H _ _ v u Q I rx ry ⟨_, _, i, w, rfl, rfl, s1, h1, q w h2 fun B t hB => ?_⟩ hs
      cases hB with
      | @tup _ ys _ s2 a2 =>
        have : xs = ys := I.tuple_inj s1 (Evl.ex_t t s2)
        subst this
        obtain ⟨w', h3, h4⟩ := DpAll.atI a2 ha
        rw [h1] at h3; cases h3
        exact h4
  | str z i c hc =>
    cases hd
    cases he
    exact ix_str value slice pins s σ H _ _ v u Q I rx ry ⟨z, i, c, rfl, rfl, hc.1, hc.2, q _ (.str _) fun _ _ _ => .str _⟩ hs

/-! ### a slice: xs[lo:hi], z[lo:hi] -/
inductive Slc : PyData → Option Int → Option Int → PyData → Prop where
  | lst (ds : List PyData) (lo hi : Option Int) : Slc (.list ds) lo hi (.list ((ds.drop (HT.sIx ds.length 0 lo)).take (HT.sIx ds.length ds.length hi - HT.sIx ds.length 0 lo)))
  | str (z : Str) (lo hi : Option Int) (h : z.length ≤ sizeLine) : Slc (.str z) lo hi (.str (cutS z lo hi))
def rSlc (K : PySem.W.Frag) : V → Option Int → Option Int → Hp → VK → Prop := fun x lo hi H Q => ∃ d r, Dp K H x d ∧ Slc d lo hi r ∧
  (∀ z, r = .str z → Q (.str z) H) ∧ ∀ ds, r = .list ds → ∀ p xs, H p = none → DpAll K H xs ds → (∀ B, Two B H → (∀ es, d = .list es → Dp K B x d → DpAll K B xs ds) ∧ (noLists ds = true → DpAll K B xs ds)) → Q (.ref p) (upd H p (.lst xs))
theorem sl_slc {X : Cx} : SlR X (rSlc X.K) := by
  intro pins s σ H x v vl vu lo hi sl Q I rx hs pl pu h
  obtain ⟨d, r, hd, b, q⟩ := h
  cases b with
  | lst ds lo hi =>
    cases hd with
    | @lst a xs _ s1 a1 =>
      refine sl_list pins s σ H _ v vl vu lo hi sl Q I rx hs pl pu ⟨a, xs, rfl, s1, fun p hp => ?_⟩
      have cut : ∀ {B : Hp} {xs : List V}, DpAll X.K B xs ds → DpAll X.K B (cutV xs lo hi) ((ds.drop (HT.sIx ds.length 0 lo)).take (HT.sIx ds.length ds.length hi - HT.sIx ds.length 0 lo)) := fun {B xs} a => by
        unfold cutV
        rw [DpAll.length a]
        exact DpAll.take _ (DpAll.drop _ a)
      refine q.2 _ rfl p _ hp (cut a1) fun B t => ⟨fun es he hB => ?_, fun hn => DpAll.keepT t.tup _ _ hn (cut a1)⟩
      cases he
      cases hB with
      | @lst _ ys _ s2 a2 =>
        have : xs = ys := I.list_inj s1 (Evl.ex_l t.sub s2)
        subst this
        exact cut a2
  | str z lo hi hz =>
    cases hd
    exact sl_str pins s σ H _ v vl vu lo hi sl Q I rx hs pl pu ⟨z, rfl, hz, q.1 _ rfl⟩

/-! ### built-ins by values -/
inductive Len : PyData → Int → Prop where
  | lst (ds : List PyData) : Len (.list ds) ds.length
  | tup (ds : List PyData) : Len (.tuple ds) ds.length
  | str (z : Str) (h : z.length ≤ sizeLine) : Len (.str z) z.length
def rLen (K : PySem.W.Frag) : List V → Hp → VK → Prop := fun xs H Q => ∃ x d n, xs = [x] ∧ Dp K H x d ∧ Len d n ∧ Q (.int n) H
theorem call_lenU {X : Cx} : CallR X (.builtin "len") (rLen X.K) := by
  intro pins s σ H xs us Q I r h
  obtain ⟨x, d, n, rfl, hd, l, q⟩ := h
  cases l with
  | lst ds =>
    cases hd with
    | @lst a ys _ s1 a1 => exact call_len_seq pins s σ H _ us Q I r ⟨a, ys, rfl, .inl s1, by rw [DpAll.length a1]; exact q⟩
  | tup ds =>
    cases hd with
    | @tup a ys _ s1 a1 => exact call_len_seq pins s σ H _ us Q I r ⟨a, ys, rfl, .inr s1, by rw [DpAll.length a1]; exact q⟩
  | str z hz =>
    cases hd
    exact call_len_str pins s σ H _ us Q I r ⟨z, rfl, hz, q⟩
/-- the built-in class of a value -/
inductive Kind : PyData → String → Prop where
  | non : Kind .none "NoneType"
  | bl (b : Bool) : Kind (.bool b) "bool"
  | int (i : Int) : Kind (.int i) "int"
  | str (x : Str) : Kind (.str x) "str"
  | lst (ds : List PyData) : Kind (.list ds) "list"
  | tup (ds : List PyData) : Kind (.tuple ds) "tuple"
theorem Kind.ty {K : PySem.W.Frag} {H : Hp} {x : V} {d : PyData} {n : String} (hd : Dp K H x d) (k : Kind d n) : TyX K H x (.type n) := by
  cases k with
  | non => cases hd; exact .base .non
  | bl b => cases hd; exact .base (.bl b)
  | int i => cases hd; exact .base (.int i)
  | str x => cases hd; exact .base (.str x)
  | lst ds =>
    cases hd with
    | lst s1 a1 =>
      rcases s1 with (h | ⟨o, h⟩) | ⟨o, its, n, h, c, _⟩
      · exact .base (.lst h)
      · exact .base (.frz h)
      · exact .kList h c
  | tup ds =>
    cases hd with
    | tup s1 a1 =>
      rcases s1 with (h | ⟨o, h⟩) | ⟨o, its, n, h, c, _⟩
      · exact .base (.tup h)
      · exact .fTuple h
      · exact .kTuple h c
/-- isinstance(x, T), T a built-in class -/
def rIsiB (K : PySem.W.Frag) : List V → Hp → VK → Prop := fun xs H Q => ∃ x d n m b, xs = [x, .ty m] ∧ Dp K H x d ∧ Kind d n ∧ kitB n m = some b ∧ Q (.bl b) H
theorem call_isiB {X : Cx} : CallR X (.builtin "isinstance") (rIsiB X.K) := by
  intro pins s σ H xs us Q I r h
  obtain ⟨x, d, n, m, b, rfl, hd, k, e, q⟩ := h
  exact call_isi pins s σ H _ us Q I r ⟨x, _, _, _, b, rfl, .ty m, k.ty hd, kit_ty e, q⟩
/-- isinstance(x, (T1, T2)) -/
def rIsi2 (K : PySem.W.Frag) : List V → Hp → VK → Prop := fun xs H Q => ∃ x d n tp m1 m2 b1 b2, xs = [x, .ref tp] ∧ H tp = some (.tup [.ty m1, .ty m2]) ∧ Dp K H x d ∧ Kind d n ∧ kitB n m1 = some b1 ∧ kitB n m2 = some b2 ∧ Q (.bl (b1 || b2)) H
theorem call_isi2 {X : Cx} : CallR X (.builtin "isinstance") (rIsi2 X.K) := by
  intro pins s σ H xs us Q I r h
  obtain ⟨x, d, n, tp, m1, m2, b1, b2, rfl, ht, hd, k, e1, e2, q⟩ := h
  refine call_isiT pins s σ H _ us Q I r ⟨x, tp, _, _, _, b1 || b2, rfl, ht, .cons (.ty m1) (.cons (.ty m2) .nil), k.ty hd, ?_, q⟩
  refine kitAny_cons (b := b1) (kit_ty e1) (fun h1 => ?_) (fun h1 => by rw [h1]; rfl)
  refine kitAny_cons (b := b2) (kit_ty e2) (fun h2 => ?_) (fun h2 => by rw [h2, h1]; rfl)
  rw [h1, h2]
  rfl

/-! ### the same with K told: within a comprehension -/
section
variable {X : Cx}
theorem bin_ (K : PySem.W.Frag) (op : Operator) (h : X.K = K := by rfl) : OpR X (binaryOp op) (rBin K op) := h ▸ op_bin op
theorem cmp_ (K : PySem.W.Frag) (op : CmpOp) (hu : X.A.units + 64 < cLine) (h : X.K = K := by rfl) : OpR X (compareOp op) (rCmp K op) := h ▸ op_cmp op hu
theorem idx_ (K : PySem.W.Frag) (h : X.K = K := by rfl) : IxR X (rIdx K) := h ▸ ix_idx
theorem slc_ (K : PySem.W.Frag) (h : X.K = K := by rfl) : SlR X (rSlc K) := h ▸ sl_slc
theorem len_ (K : PySem.W.Frag) (h : X.K = K := by rfl) : CallR X (.builtin "len") (rLen K) := h ▸ call_lenU
theorem isi_ (K : PySem.W.Frag) (h : X.K = K := by rfl) : CallR X (.builtin "isinstance") (rIsiB K) := h ▸ call_isiB
theorem isi2_ (K : PySem.W.Frag) (h : X.K = K := by rfl) : CallR X (.builtin "isinstance") (rIsi2 K) := h ▸ call_isi2
end

/-! ### the built-in classes among each other -/
theorem kit_NoneType_list : kitB "NoneType" "list" = some false := by decide +kernel
theorem kit_NoneType_tuple : kitB "NoneType" "tuple" = some false := by decide +kernel
theorem kit_NoneType_str : kitB "NoneType" "str" = some false := by decide +kernel
theorem kit_NoneType_int : kitB "NoneType" "int" = some false := by decide +kernel
theorem kit_NoneType_bool : kitB "NoneType" "bool" = some false := by decide +kernel
theorem kit_NoneType_dict : kitB "NoneType" "dict" = some false := by decide +kernel
theorem kit_bool_list : kitB "bool" "list" = some false := by decide +kernel
theorem kit_bool_tuple : kitB "bool" "tuple" = some false := by decide +kernel
theorem kit_bool_str : kitB "bool" "str" = some false := by decide +kernel
theorem kit_bool_int : kitB "bool" "int" = some true := by decide +kernel
theorem kit_bool_bool : kitB "bool" "bool" = some true := by decide +kernel
theorem kit_bool_dict : kitB "bool" "dict" = some false := by decide +kernel
theorem kit_int_list : kitB "int" "list" = some false := by decide +kernel
theorem kit_int_tuple : kitB "int" "tuple" = some false := by decide +kernel
theorem kit_int_str : kitB "int" "str" = some false := by decide +kernel
theorem kit_int_int : kitB "int" "int" = some true := by decide +kernel
theorem kit_int_bool : kitB "int" "bool" = some false := by decide +kernel
theorem kit_int_dict : kitB "int" "dict" = some false := by decide +kernel
theorem kit_str_list : kitB "str" "list" = some false := by decide +kernel
theorem kit_str_tuple : kitB "str" "tuple" = some false := by decide +kernel
theorem kit_str_str : kitB "str" "str" = some true := by decide +kernel
theorem kit_str_int : kitB "str" "int" = some false := by decide +kernel
theorem kit_str_bool : kitB "str" "bool" = some false := by decide +kernel
theorem kit_str_dict : kitB "str" "dict" = some false := by decide +kernel
theorem kit_list_list : kitB "list" "list" = some true := by decide +kernel
theorem kit_list_tuple : kitB "list" "tuple" = some false := by decide +kernel
theorem kit_list_str : kitB "list" "str" = some false := by decide +kernel
theorem kit_list_int : kitB "list" "int" = some false := by decide +kernel
theorem kit_list_bool : kitB "list" "bool" = some false := by decide +kernel
theorem kit_list_dict : kitB "list" "dict" = some false := by decide +kernel
theorem kit_tuple_list : kitB "tuple" "list" = some false := by decide +kernel
theorem kit_tuple_tuple : kitB "tuple" "tuple" = some true := by decide +kernel
theorem kit_tuple_str : kitB "tuple" "str" = some false := by decide +kernel
theorem kit_tuple_int : kitB "tuple" "int" = some false := by decide +kernel
theorem kit_tuple_bool : kitB "tuple" "bool" = some false := by decide +kernel
theorem kit_tuple_dict : kitB "tuple" "dict" = some false := by decide +kernel
theorem kit_dict_list : kitB "dict" "list" = some false := by decide +kernel
theorem kit_dict_tuple : kitB "dict" "tuple" = some false := by decide +kernel
theorem kit_dict_str : kitB "dict" "str" = some false := by decide +kernel
theorem kit_dict_int : kitB "dict" "int" = some false := by decide +kernel
theorem kit_dict_bool : kitB "dict" "bool" = some false := by decide +kernel
theorem kit_dict_dict : kitB "dict" "dict" = some true := by decide +kernel

/-! ### what a reading gives -/
section
variable {K : PySem.W.Frag} {ρ : Rho} {ta tb te tl : TE} {s : Sl} {d e r : PyData} {b : Bool} {t u : TT}
/-- the reading gives what s tells, from slots as ρ says -/
def Es (K : PySem.W.Frag) (te : TE) (ρ : Rho) (s : Sl) : Prop := ∀ B H σ, Sg K B H σ ρ → ∀ Q : VK, (∀ v B' H', Grow B H B' H' → Res K H B' H' v s → Q v H') → te σ H Q
/-- .. what may be read as d -/
def Ep (K : PySem.W.Frag) (te : TE) (ρ : Rho) (d : PyData) : Prop := ∀ B H σ, Sg K B H σ ρ → ∀ Q : VK, (∀ v B' H', Grow B H B' H' → Dp K H' v d → Q v H') → te σ H Q
def Et (K : PySem.W.Frag) (t : TT) (ρ : Rho) (b : Bool) : Prop := ∀ B H σ, Sg K B H σ ρ → ∀ Q : Bool → Hp → Prop, (∀ B' H', Grow B H B' H' → Q b H') → t σ H Q
def Ea (K : PySem.W.Frag) (t : TA) (ρ : Rho) (ss : List Sl) : Prop := ∀ B H σ, Sg K B H σ ρ → ∀ Q : List V → Hp → Prop, (∀ vs B' H', Grow B H B' H' → IsAll K B' H' vs ss → Q vs H') → t σ H Q
def Eo (K : PySem.W.Frag) (to : TO) (ρ : Rho) (o : Option Int) : Prop := ∀ B H σ, Sg K B H σ ρ → ∀ Q : Option Int → Hp → Prop, (∀ B' H', Grow B H B' H' → Q o H') → to σ H Q
theorem res_py {H0 B H : Hp} {v : V} (h : Dp K B v d) : Res K H0 B H v (.py d) := ⟨h, fun z => by cases z⟩
theorem Es.is {s' : Sl} (h : Es K te ρ s) (e : s = s') : Es K te ρ s' := e ▸ h
theorem Ep.is {d' : PyData} (h : Ep K te ρ d) (e : d = d') : Ep K te ρ d' := e ▸ h
theorem Et.is {b' : Bool} (h : Et K t ρ b) (e : b = b') : Et K t ρ b' := e ▸ h
theorem ep_of (h : Es K te ρ (.py d)) : Ep K te ρ d := fun B H σ g Q q => h B H σ g Q fun v B1 H1 G R => q v B1 H1 G (Dp.up G.two R.1)
theorem ep_own {i : Nat} {ds : List PyData} (h : ρ[i]? = some (some (.own ds))) : Ep K (tVar i) ρ (.list ds) := fun B H σ g Q q => by
  obtain ⟨v, h1, p, xs, rfl, hb, hh, a⟩ := g.has i _ h
  exact ⟨_, h1, q _ B H (Grow.refl g.two) (.lst (SqL.of hh) (DpAll.up g.two a))⟩
theorem es_var {i : Nat} (h : ρ[i]? = some (some s)) (hn : s.isOwn = false := by rfl) : Es K (tVar i) ρ s := fun B H σ g Q q => by
  obtain ⟨v, h1, h2⟩ := g.has i s h
  exact ⟨v, h1, q v B H (Grow.refl g.two) ⟨h2, fun z => by rw [hn] at z; cases z⟩⟩
theorem es_val {v : V} (h : ∀ B : Hp, Dp K B v d) : Es K (tC v) ρ (.py d) := fun B H σ g Q q => q _ B H (Grow.refl g.two) (res_py (h B))
theorem es_int (i : Int) : Es K (tC (.int i)) ρ (.py (.int i)) := es_val fun _ => .int i
theorem es_str (x : Str) : Es K (tC (.str x)) ρ (.py (.str x)) := es_val fun _ => .str x
theorem es_bl (b : Bool) : Es K (tC (.bl b)) ρ (.py (.bool b)) := es_val fun _ => .bl b
theorem es_non : Es K (tC .non) ρ (.py .none) := es_val fun _ => .non
theorem es_at (v : V) : Es K (tC v) ρ (.at v) := fun B H σ g Q q => q _ B H (Grow.refl g.two) ⟨rfl, fun z => by cases z⟩
theorem es_bin {op : Operator} (ha : Ep K ta ρ d) (hb : Ep K tb ρ e) (h : Bin op d e r) (hn : noList r = true) : Es K (tOp (rBin K op) ta tb) ρ (.py r) := fun B H σ g Q q =>
  ha B H σ g _ fun x B1 H1 G1 hx => hb B1 H1 σ (g.grow G1) _ fun y B2 H2 G2 hy => ⟨d, e, r, Dp.mono G2.h d x hx, hy, h, fun v H3 e3 hv =>
    have G3 : Grow B2 H2 (growB B2 H2 H3) H3 := Grow.all G2.two e3
    q v _ H3 (G1.trans (G2.trans G3)) (res_py (Dp.down G3.two hn hv))⟩
theorem es_cmp {op : CmpOp} (ha : Ep K ta ρ d) (hb : Ep K tb ρ e) (h : Cmp op d e b) : Es K (tOp (rCmp K op) ta tb) ρ (.py (.bool b)) := fun B H σ g Q q =>
  ha B H σ g _ fun x B1 H1 G1 hx => hb B1 H1 σ (g.grow G1) _ fun y B2 H2 G2 hy => ⟨d, e, b, Dp.mono G2.h d x hx, hy, h, q _ B2 H2 (G1.trans G2) (res_py (.bl b))⟩
/-- an item that is no list -/
theorem es_idx (ha : Ep K ta ρ d) (hb : Ep K tb ρ e) (h : Idx d e r) (hn : noList r = true) : Es K (tOp (rIdx K) ta tb) ρ (.py r) := fun B H σ g Q q =>
  ha B H σ g _ fun x B1 H1 G1 hx => hb B1 H1 σ (g.grow G1) _ fun y B2 H2 G2 hy => ⟨d, e, r, Dp.mono G2.h d x hx, hy, h, fun v hv _ => q v B2 H2 (G1.trans G2) (res_py (Dp.down G2.two hn hv))⟩
/-- an item of what stays -/
theorem es_idxP (ha : Es K ta ρ (.py d)) (hb : Ep K tb ρ e) (h : Idx d e r) : Es K (tOp (rIdx K) ta tb) ρ (.py r) := fun B H σ g Q q =>
  ha B H σ g _ fun x B1 H1 G1 hx => hb B1 H1 σ (g.grow G1) _ fun y B2 H2 G2 hy =>
    have hx2 : Dp K B2 x d := Dp.mono G2.b d x hx.1
    ⟨d, e, r, Dp.up G2.two hx2, hy, h, fun v hv hb => q v B2 H2 (G1.trans G2) (res_py (hb B2 G2.two.sub hx2))⟩
theorem ep_idx (ha : Ep K ta ρ d) (hb : Ep K tb ρ e) (h : Idx d e r) : Ep K (tOp (rIdx K) ta tb) ρ r := fun B H σ g Q q =>
  ha B H σ g _ fun x B1 H1 G1 hx => hb B1 H1 σ (g.grow G1) _ fun y B2 H2 G2 hy => ⟨d, e, r, Dp.mono G2.h d x hx, hy, h, fun v hv _ => q v B2 H2 (G1.trans G2) hv⟩
theorem eo_none : Eo K tNoPart ρ none := fun B H σ g Q q => q B H (Grow.refl g.two)
theorem eo_some {i : Int} (h : Ep K te ρ (.int i)) : Eo K (tPart te) ρ (some i) := fun B H σ g Q q => h B H σ g _ fun v B1 H1 G hv => by
  cases hv
  exact ⟨i, rfl, q B1 H1 G⟩
theorem es_slcS {tl th : TO} {lo hi : Option Int} {z z' : Str} (ha : Ep K ta ρ (.str z)) (hl : Eo K tl ρ lo) (hh : Eo K th ρ hi) (hz : z.length ≤ sizeLine) (e : cutS z lo hi = z') : Es K (tSl (rSlc K) ta tl th) ρ (.py (.str z')) := fun B H σ g Q q =>
  ha B H σ g _ fun x B1 H1 G1 hx => hl B1 H1 σ (g.grow G1) _ fun B2 H2 G2 => hh B2 H2 σ (g.grow (G1.trans G2)) _ fun B3 H3 G3 =>
    ⟨_, _, Dp.mono (G2.h.trans G3.h) _ x hx, .str z lo hi hz, fun w ew => by cases ew; rw [e]; exact q _ B3 H3 (G1.trans (G2.trans G3)) (res_py (.str _)), fun ds eds => by cases eds⟩
/-- a slice of a list: a new list -/
theorem es_slcL {tl th : TO} {lo hi : Option Int} {ds es : List PyData} (ha : Es K ta ρ (.py (.list ds))) (hl : Eo K tl ρ lo) (hh : Eo K th ρ hi) (e : (ds.drop (HT.sIx ds.length 0 lo)).take (HT.sIx ds.length ds.length hi - HT.sIx ds.length 0 lo) = es) : Es K (tSl (rSlc K) ta tl th) ρ (.own es) := fun B H σ g Q q =>
  ha B H σ g _ fun x B1 H1 G1 hx => hl B1 H1 σ (g.grow G1) _ fun B2 H2 G2 => hh B2 H2 σ (g.grow (G1.trans G2)) _ fun B3 H3 G3 =>
    have h3 : Dp K B3 x (.list ds) := Dp.mono (G2.b.trans G3.b) _ x hx.1
    ⟨_, _, Dp.up G3.two h3, .lst ds lo hi, fun w ew => (by cases ew), fun ds' eds p xs hp a ab => by
      cases eds
      have a3 := (ab B3 G3.two).1 _ rfl h3
      rw [e] at a3
      have G4 := Grow.own (o := .lst xs) G3.two hp (.inl ⟨xs, rfl⟩)
      have hp0 : H p = none := by
        cases e0 : H p with
        | none => rfl
        | some o => have := (G1.trans (G2.trans G3)).h p o e0; rw [this] at hp; cases hp
      have hb3 : B3 p = none := by
        cases e0 : B3 p with
        | none => rfl
        | some o => have := G3.two.sub p o e0; rw [this] at hp; cases hp
      exact q _ B3 _ (G1.trans (G2.trans (G3.trans G4))) ⟨⟨p, xs, rfl, hb3, upd_same, a3⟩, fun _ => ⟨p, rfl, hp0⟩⟩⟩
theorem ea_nil : Ea K tNil ρ [] := fun B H σ g Q q => q [] B H (Grow.refl g.two) trivial
theorem ea_cons {tr : TA} {ss : List Sl} (ha : Es K te ρ s) (hr : Ea K tr ρ ss) : Ea K (tCons te tr) ρ (s :: ss) := fun B H σ g Q q =>
  ha B H σ g _ fun x B1 H1 G1 hx => hr B1 H1 σ (g.grow G1) _ fun xs B2 H2 G2 hxs => q _ B2 H2 (G1.trans G2) ⟨hx.1.grow G2, hxs⟩
theorem Two.free {B H : Hp} (t : Two B H) {p : Addr} (hp : H p = none) : B p = none := by
  cases e : B p with
  | none => rfl
  | some o => rw [t.sub p o e] at hp; cases hp
theorem Grow.free {B H B' H' : Hp} (G : Grow B H B' H') {p : Addr} (hp : H' p = none) : H p = none := by
  cases e : H p with
  | none => rfl
  | some o => rw [G.h p o e] at hp; cases hp
/-- a tuple, a list that is made -/
theorem es_tup {ta : TA} {ss : List Sl} {ds : List PyData} (h : Ea K ta ρ ss) (hs : ss = ds.map Sl.py) (hl : ds.length ≤ 1000) : Es K (tTup ta) ρ (.py (.tuple ds)) := fun B H σ g Q q =>
  h B H σ g _ fun vs B1 H1 G1 hv => by
    subst hs
    have a := IsAll.py hv
    refine ⟨Nat.le_trans (by rw [DpAll.length a]; exact hl) (by decide), fun p hp => ?_⟩
    have G2 := Grow.new (o := .tup vs) G1.two hp
    exact q _ _ _ (G1.trans G2) (res_py (.tup (SqT.of upd_same) (DpAll.mono G2.b _ _ a)))
theorem es_lst {ta : TA} {ss : List Sl} {ds : List PyData} (h : Ea K ta ρ ss) (hs : ss = ds.map Sl.py) (hl : ds.length ≤ 1000) : Es K (tLst ta) ρ (.own ds) := fun B H σ g Q q =>
  h B H σ g _ fun vs B1 H1 G1 hv => by
    subst hs
    have a := IsAll.py hv
    refine ⟨Nat.le_trans (by rw [DpAll.length a]; exact hl) (by decide), fun p hp => ?_⟩
    have G2 := Grow.own (o := .lst vs) G1.two hp (.inl ⟨vs, rfl⟩)
    exact q _ _ _ (G1.trans G2) ⟨⟨p, vs, rfl, G1.two.free hp, upd_same, a⟩, fun _ => ⟨p, rfl, G1.free hp⟩⟩
theorem es_dct : Es K tDNewK ρ (.dct []) := fun B H σ g Q q p hp =>
  have G2 := Grow.own (o := .dK []) g.two hp (.inr ⟨[], rfl⟩)
  q _ _ _ G2 ⟨⟨p, [], rfl, g.two.free hp, upd_same, trivial⟩, fun _ => ⟨p, rfl, hp⟩⟩
/-- a new list is told as data: from now on it stays -/
theorem es_freeze {ds : List PyData} (h : Es K te ρ (.own ds)) : Es K te ρ (.py (.list ds)) := fun B H σ g Q q =>
  h B H σ g _ fun v B1 H1 G1 R => by
    obtain ⟨⟨p, xs, rfl, hb, hh, a⟩, hn⟩ := R
    obtain ⟨p', e, hp⟩ := hn rfl
    cases e
    have e1 : Ex B1 (upd B1 p (.lst xs)) := Evl.Ex.new hb
    refine q _ (upd B1 p (.lst xs)) H1 ⟨G1.b.trans e1, G1.h, ⟨fun q u e => ?_, fun q u e1 e2 => ?_⟩, fun q h1 h2 => ?_⟩ (res_py (.lst (SqL.of upd_same) (DpAll.mono e1 _ _ a)))
    · by_cases z : q = p
      · subst z; rw [upd_same] at e; cases e; exact hh
      · rw [upd_ne z] at e; exact G1.two.sub q u e
    · by_cases z : q = p
      · subst z; rw [upd_same] at e2; cases e2
      · rw [upd_ne z] at e2; exact G1.two.out q u e1 e2
    · have z : q ≠ p := fun z => by subst z; exact h2 hp
      rw [upd_ne z]; exact G1.out q h1 h2
/-- arguments that are plain data -/
def Ead (K : PySem.W.Frag) (t : TA) (ρ : Rho) (ds : List PyData) : Prop := Ea K t ρ (ds.map Sl.py)
theorem ead_nil : Ead K tNil ρ [] := ea_nil
theorem ead_cons {tr : TA} {ds : List PyData} (ha : Es K te ρ (.py d)) (hr : Ead K tr ρ ds) : Ead K (tCons te tr) ρ (d :: ds) := ea_cons ha hr
theorem es_tupD {ta : TA} {ds : List PyData} (h : Ead K ta ρ ds) (hl : ds.length ≤ 1000) : Es K (tTup ta) ρ (.py (.tuple ds)) := es_tup h rfl hl
theorem es_lstD {ta : TA} {ds : List PyData} (h : Ead K ta ρ ds) (hl : ds.length ≤ 1000) : Es K (tLst ta) ρ (.own ds) := es_lst h rfl hl
theorem es_lstF {ta : TA} {ds : List PyData} (h : Ead K ta ρ ds) (hl : ds.length ≤ 1000) : Es K (tLst ta) ρ (.py (.list ds)) := es_freeze (es_lstD h hl)
theorem et_test (h : Es K te ρ (.py (.bool b))) : Et K (tTest te) ρ b := fun B H σ g Q q => h B H σ g _ fun v B1 H1 G R => by
  have R := R.1
  cases R
  exact ⟨b, rfl, q B1 H1 G⟩
theorem et_B (h : Es K te ρ (.py (.bool b))) : Et K (tB te) ρ b := fun B H σ g Q q => h B H σ g _ fun v B1 H1 G R => by
  have R := R.1
  cases R
  exact ⟨b, rfl, q B1 H1 G⟩
theorem et_and {a : Bool} (h1 : Et K t ρ a) (h2 : a = true → Et K u ρ b) : Et K (tAnd t u) ρ (a && b) := fun B H σ g Q q => h1 B H σ g _ fun B1 H1 G1 => by
  cases a with
  | true => exact iteT (h2 rfl B1 H1 σ (g.grow G1) _ fun B2 H2 G2 => q B2 H2 (G1.trans G2))
  | false => exact iteF (q B1 H1 G1)
theorem et_or {a : Bool} (h1 : Et K t ρ a) (h2 : a = false → Et K u ρ b) : Et K (tOr t u) ρ (a || b) := fun B H σ g Q q => h1 B H σ g _ fun B1 H1 G1 => by
  cases a with
  | false => exact iteF (h2 rfl B1 H1 σ (g.grow G1) _ fun B2 H2 G2 => q B2 H2 (G1.trans G2))
  | true => exact iteT (q B1 H1 G1)
theorem et_not (h : Et K t ρ b) : Et K (tNot t) ρ (!b) := fun B H σ g Q q => h B H σ g _ fun B1 H1 G => q B1 H1 G
theorem es_andV {a : Bool} (h1 : Es K ta ρ (.py (.bool a))) (h2 : a = true → Es K tb ρ (.py (.bool b))) : Es K (tAndV ta tb) ρ (.py (.bool (a && b))) := fun B H σ g Q q => h1 B H σ g _ fun v B1 H1 G1 R => by
  have R := R.1
  cases R
  refine ⟨a, rfl, ?_⟩
  cases a with
  | true => exact iteT (h2 rfl B1 H1 σ (g.grow G1) _ fun v B2 H2 G2 R => q v B2 H2 (G1.trans G2) (res_py R.1))
  | false => exact iteF (q _ B1 H1 G1 (res_py (.bl false)))
theorem es_orV {a : Bool} (h1 : Es K ta ρ (.py (.bool a))) (h2 : a = false → Es K tb ρ (.py (.bool b))) : Es K (tOrV ta tb) ρ (.py (.bool (a || b))) := fun B H σ g Q q => h1 B H σ g _ fun v B1 H1 G1 R => by
  have R := R.1
  cases R
  refine ⟨a, rfl, ?_⟩
  cases a with
  | false => exact iteF (h2 rfl B1 H1 σ (g.grow G1) _ fun v B2 H2 G2 R => q v B2 H2 (G1.trans G2) (res_py R.1))
  | true => exact iteT (q _ B1 H1 G1 (res_py (.bl true)))
theorem es_notV (h : Es K ta ρ (.py (.bool b))) : Es K (tNotV ta) ρ (.py (.bool (!b))) := fun B H σ g Q q => h B H σ g _ fun v B1 H1 G R => by
  have R := R.1
  cases R
  exact ⟨b, rfl, q _ B1 H1 G (res_py (.bl _))⟩
theorem es_neg {i : Int} (h : Es K ta ρ (.py (.int i))) : Es K (tUn (rU fun i => .int (-i)) ta) ρ (.py (.int (-i))) := fun B H σ g Q q => h B H σ g _ fun v B1 H1 G R => by
  have R := R.1
  cases R
  exact ⟨i, rfl, q _ B1 H1 G (res_py (.int _))⟩
theorem es_len {n : Int} (h : Ep K te ρ d) (l : Len d n) : Es K (tCB (rLen K) (tCons te tNil)) ρ (.py (.int n)) := fun B H σ g Q q =>
  h B H σ g _ fun x B1 H1 G1 hx => ⟨x, d, n, rfl, hx, l, q _ B1 H1 G1 (res_py (.int n))⟩
theorem es_isi {n m : String} (h : Ep K te ρ d) (hm : Es K ta ρ (.at (.ty m))) (k : Kind d n) (e : kitB n m = some b) : Es K (tCB (rIsiB K) (tCons te (tCons ta tNil))) ρ (.py (.bool b)) := fun B H σ g Q q =>
  h B H σ g _ fun x B1 H1 G1 hx => hm B1 H1 σ (g.grow G1) _ fun y B2 H2 G2 hy => by
    have hy : y = .ty m := hy.1
    subst hy
    exact ⟨x, d, n, m, b, rfl, Dp.mono G2.h d x hx, k, e, q _ B2 H2 (G1.trans G2) (res_py (.bl b))⟩
theorem es_isi2 {t1 t2 : TE} {n m1 m2 : String} {b1 b2 : Bool} (h : Ep K te ρ d) (h1 : Es K t1 ρ (.at (.ty m1))) (h2 : Es K t2 ρ (.at (.ty m2))) (k : Kind d n) (e1 : kitB n m1 = some b1) (e2 : kitB n m2 = some b2) :
    Es K (tCB (rIsi2 K) (tCons te (tCons (tTup (tCons t1 (tCons t2 tNil))) tNil))) ρ (.py (.bool (b1 || b2))) := fun B H σ g Q q =>
  h B H σ g _ fun x B1 H1 x1 hx => h1 B1 H1 σ (g.grow x1) _ fun y B2 H2 x2 hy => h2 B2 H2 σ (g.grow (x1.trans x2)) _ fun z B3 H3 x3 hz => by
    have hy : y = .ty m1 := hy.1
    have hz : z = .ty m2 := hz.1
    subst hy
    subst hz
    refine ⟨by show 2 ≤ sizeLine; decide, fun p hp => ?_⟩
    have G4 := Grow.new (o := .tup [.ty m1, .ty m2]) x3.two hp
    exact ⟨x, d, n, p, m1, m2, b1, b2, rfl, upd_same, Dp.mono (x2.h.trans (x3.h.trans G4.h)) d x hx, k, e1, e2, q _ _ _ (x1.trans (x2.trans (x3.trans G4))) (res_py (.bl _))⟩
/-- all(list of truths) -/
theorem es_all {bs : List Bool} (h : Es K te ρ (.py (.list (bs.map PyData.bool)))) : Es K (tCB (rAll K) (tCons te tNil)) ρ (.py (.bool (bs.all id))) := fun B H σ g Q q =>
  h B H σ g _ fun x B1 H1 G R => by
    have R := Dp.up G.two R.1
    cases R with
    | @lst a xs _ s1 a1 =>
      rw [DpAll.bls_inv a1] at s1
      exact ⟨a, bs, rfl, s1, q _ B1 H1 G (res_py (.bl _))⟩
/-- "..".join(list of texts) -/
theorem es_join {to : TE} {z : Str} {ys : List Str} (ho : Es K to ρ (.py (.str z))) (h : Es K te ρ (.py (.list (ys.map PyData.str)))) (hl : (ys.map (·.length)).sum + ys.length * z.length ≤ 16777216) :
    Es K (tM1 (fun x xs H Q => ∃ a p, ∃ ys : List Str, x = .str a ∧ xs = [.ref p] ∧ (SqL K H p (ys.map V.str) ∨ SqT K H p (ys.map V.str)) ∧ (ys.map (·.length)).sum + ys.length * a.length ≤ 16777216 ∧ Q (.str (Txt.join a ys)) H) to te) ρ (.py (.str (Txt.join z ys))) := fun B H σ g Q q =>
  ho B H σ g _ fun x B1 H1 G1 hx => by
    have hx := hx.1
    cases hx
    refine ⟨⟨z, rfl⟩, ?_⟩
    refine h B1 H1 σ (g.grow G1) _ fun y B2 H2 G2 R => ?_
    have R := Dp.up G2.two R.1
    cases R with
    | @lst a xs _ s1 a1 =>
      rw [DpAll.strs_inv a1] at s1
      exact ⟨z, a, ys, rfl, rfl, .inl s1, hl, q _ B2 H2 (G1.trans G2) (res_py (.str _))⟩
/-- list(xs): a copy -/
theorem es_listOf {ds : List PyData} (h : Es K te ρ (.py (.list ds))) : Es K (tCB (fun xs H Q => ∃ p ys, xs = [V.ref p] ∧ (SqL K H p ys ∨ SqT K H p ys) ∧ ∀ l, H l = none → Q (.ref l) (upd H l (.lst ys))) (tCons te tNil)) ρ (.own ds) := fun B H σ g Q q =>
  h B H σ g _ fun x B1 H1 G1 R => by
    have R := R.1
    cases R with
    | @lst a xs _ s1 a1 =>
      refine ⟨a, xs, rfl, .inl (Evl.ex_l G1.two.sub s1), fun l hl => ?_⟩
      have G2 := Grow.own (o := .lst xs) G1.two hl (.inl ⟨xs, rfl⟩)
      exact q _ _ _ (G1.trans G2) ⟨⟨l, xs, rfl, G1.two.free hl, upd_same, a1⟩, fun _ => ⟨l, rfl, G1.free hl⟩⟩
end

/-! ### list comprehensions with one clause, no condition -/
section
variable {K : PySem.W.Frag} {ρ : Rho} {te tl : TE}
/-- ρ with the names of the comprehension forgotten -/
def wipeR (ρ : Rho) (vs : List Nat) : Rho := vs.foldr (fun i r => r.set i none) ρ
theorem Sg.wipe {B H : Hp} {σ : St} (h : Sg K B H σ ρ) : ∀ (vs : List Nat), Sg K B H (L2.wipe σ vs) (wipeR ρ vs)
  | [] => h
  | v :: vs => Sg.forget v (Sg.wipe h vs)
theorem wipe_set {σ : St} {j : Nat} {x : V} : L2.wipe ((L2.wipe σ [j]).set j (some x)) [j] = L2.wipe σ [j] := by
  show (((σ.set j none).set j (some x)).set j none) = σ.set j none
  rw [List.set_set, List.set_set]
/-- an own cell is written -/
theorem Grow.put {B H B' H' : Hp} {D : Addr} {o : HO} (G : Grow B H B' H') (h : H D = none) (hb : B' D = none) (ho : OwnO o) : Grow B H B' (upd H' D o) where
  b := G.b
  h := Evl.Ex.mut G.h h
  two := ⟨fun q u e => by
      have z : q ≠ D := fun z => by subst z; rw [hb] at e; cases e
      rw [upd_ne z]; exact G.two.sub q u e,
    fun q u e1 e2 => by
      by_cases z : q = D
      · subst z; rw [upd_same] at e1; cases e1; exact ho
      · rw [upd_ne z] at e1; exact G.two.out q u e1 e2⟩
  out := G.out
/-- a comprehension so far -/
def Filled (K : PySem.W.Frag) (B H : Hp) (D : Addr) (ds : List PyData) (H' : Hp) : Prop := ∃ B' xs, Grow B H B' H' ∧ B' D = none ∧ H' D = some (.lst xs) ∧ DpAll K B' xs ds
theorem Filled.start {B H : Hp} (t : Two B H) {D : Addr} (hD : H D = none) : Filled K B H D [] (upd H D (.lst [])) :=
  ⟨B, [], Grow.own t hD (.inl ⟨[], rfl⟩), t.free hD, upd_same, .nil⟩
theorem Filled.more {B H H2 B3 H3 : Hp} {D : Addr} {ds : List PyData} {d : PyData} {v : V} {B2 : Hp} {xs : List V} (hD : H D = none) (G : Grow B H B2 H2) (hb : B2 D = none) (hL : H2 D = some (.lst xs)) (a : DpAll K B2 xs ds) (G3 : Grow B2 H2 B3 H3) (hv : Dp K B3 v d) :
    Filled K B H D (ds ++ [d]) (upd H3 D (.lst (xs ++ [v]))) :=
  have hb3 : B3 D = none := G3.out D hb (by rw [hL]; simp)
  ⟨B3, xs ++ [v], (G.trans G3).put hD hb3 (.inl ⟨_, rfl⟩), hb3, upd_same, DpAll.snoc_of (DpAll.mono G3.b _ _ a) hv⟩
theorem Filled.own {B H H2 : Hp} {D : Addr} {ds : List PyData} (hD : H D = none) (h : Filled K B H D ds H2) : ∃ B2, Grow B H B2 H2 ∧ Res K H B2 H2 (.ref D) (.own ds) :=
  let ⟨B2, xs, G, hb, hL, a⟩ := h
  ⟨B2, G, ⟨D, xs, rfl, hb, hL, a⟩, fun _ => ⟨D, rfl, hD⟩⟩
/-- over range(n) -/
theorem es_lcR {ta : TA} {j : Nat} {n : Int} (f : Nat → PyData) (h : Ea K ta ρ [.py (.int n)]) (hn : -1000 ≤ n ∧ n ≤ 1000) (he : ∀ i : Nat, (i : Int) < n → Es K te ((wipeR ρ [j]).set j (some (.py (.int (i : Int))))) (.py (f i))) :
    Es K (tLc (iRng1 ta) (gName j) tYes te [j]) ρ (.own ((List.range n.toNat).map f)) := fun B H σ g Q q =>
  h B H σ g _ fun vs B1 H1 G1 hv => by
    obtain ⟨v, rfl, hw⟩ := is1 hv
    have hw : Dp K B1 v (.int n) := hw
    have hv : v = .int n := by cases hw; rfl
    subst hv
    refine ⟨n, rfl, Int.le_trans (by decide) hn.1, Int.lt_of_le_of_lt hn.2 (by decide), fun D hD => ?_⟩
    refine lc_range (lo := 0) (n := n.toNat) (fun i H2 => Filled K B1 H1 D ((List.range i).map f) H2) (Filled.start G1.two hD) ?_ ?_
    · rintro i H2 hi ⟨B2, xs, G2, hb, hL, hA⟩
      have g2 : Sg K B2 H2 ((L2.wipe σ [j]).set j (some (.int (0 + (i : Int))))) ((wipeR ρ [j]).set j (some (.py (.int (i : Int))))) :=
        Sg.set (H0 := H) j (Sg.wipe (g.grow (G1.trans G2)) [j]) (by rw [Int.zero_add]; exact Dp.int _) (fun z => by cases z)
      refine ⟨wipe_set, ?_⟩
      unfold tYes
      simp only [if_true]
      refine he i (by omega) B2 H2 _ g2 _ fun v B3 H3 G3 hv => ?_
      have hlen := DpAll.length hA
      simp at hlen
      refine ⟨xs, G3.h _ _ hL, Nat.lt_of_le_of_lt (m := 1000) (by omega) (by decide), ?_⟩
      have := Filled.more hD G2 hb hL hA G3 hv.1
      rw [List.range_succ, List.map_append]
      exact this
    · intro H2 hF
      obtain ⟨B2, G2, R⟩ := hF.own hD
      exact q _ B2 _ (G1.trans G2) ⟨R.1, fun _ => ⟨D, rfl, G1.free hD⟩⟩
/-- over a list of data -/
theorem es_lcL {j : Nat} {ds : List PyData} (f : PyData → PyData) (h : Es K tl ρ (.py (.list ds))) (hz : ds.length ≤ 1000) (he : ∀ d ∈ ds, Es K te ((wipeR ρ [j]).set j (some (.py d))) (.py (f d))) :
    Es K (tLc (iList K tl) (gName j) tYes te [j]) ρ (.own (ds.map f)) := fun B H σ g Q q =>
  h B H σ g _ fun v B1 H1 G1 hv => by
    have hv := hv.1
    cases hv with
    | @lst a ys _ s1 a1 =>
      refine ⟨a, rfl, ⟨ys, Evl.ex_l G1.two.sub s1⟩, fun D hD => ?_⟩
      have hlen := DpAll.length a1
      refine lc_list (K := K) (a := a) (xs := ys) (fun i H2 => Filled K B1 H1 D ((ds.take i).map f) H2) (Filled.start G1.two hD) (fun i H2 _ ⟨_, _, G2, _⟩ => Evl.ex_l (G1.two.sub.trans G2.h) s1) ?_ ?_
      · rintro i x H2 hi ⟨B2, xs, G2, hb, hL, hA⟩
        have hil : i < ds.length := by rw [← hlen]; exact (List.getElem?_eq_some_iff.mp hi).1
        have hdi : ds[i]? = some ds[i] := List.getElem?_eq_getElem hil
        obtain ⟨x', hx', hd⟩ := DpAll.get a1 hdi
        rw [hi] at hx'; cases hx'
        have g2 : Sg K B2 H2 ((L2.wipe σ [j]).set j (some x)) ((wipeR ρ [j]).set j (some (.py ds[i]))) := Sg.set (H0 := H) j (Sg.wipe (g.grow (G1.trans G2)) [j]) (Dp.mono G2.b _ _ hd) (fun z => by cases z)
        refine ⟨wipe_set, ?_⟩
        unfold tYes
        simp only [if_true]
        have hmem : ds[i] ∈ ds := List.getElem_mem hil
        refine he _ hmem B2 H2 _ g2 _ fun v B3 H3 G3 hv => ?_
        have hlen := DpAll.length hA
        simp at hlen
        refine ⟨xs, G3.h _ _ hL, Nat.lt_of_le_of_lt (m := 1000) (by omega) (by decide), ?_⟩
        have := Filled.more hD G2 hb hL hA G3 hv.1
        rw [List.take_succ, hdi, List.map_append]
        exact this
      · intro H2 hF
        rw [hlen, List.take_length] at hF
        obtain ⟨B2, G2, R⟩ := hF.own hD
        exact q _ B2 _ (G1.trans G2) ⟨R.1, fun _ => ⟨D, rfl, G1.free hD⟩⟩
end
end Wk

/-! Bodies over data: statements, loops, defs, calls of defs. -/
namespace Wk
open PySem L2
open Evl (Ex)

/-! ### dicts of data -/
def dLook : List (Key × PyData) → Key → Option PyData
  | [], _ => none
  | p :: r, k => if p.1 = k then some p.2 else dLook r k
def dPut : List (Key × PyData) → Key → PyData → List (Key × PyData)
  | [], k, d => [(k, d)]
  | p :: r, k, d => if p.1 = k then (p.1, d) :: (if (dLook r k).isSome then dPut r k d else r) else p :: dPut r k d
theorem dLook_put : ∀ (l : List (Key × PyData)) (k j : Key) (d : PyData), dLook (dPut l k d) j = if j = k then some d else dLook l j
  | [], k, j, d => by
    simp only [dPut, dLook]
    by_cases e : j = k
    · subst e; simp
    · have : ¬ k = j := fun z => e z.symm
      simp [e, this]
  | p :: r, k, j, d => by
    have ih := dLook_put r k j d
    unfold dPut
    by_cases e : p.1 = k
    · simp only [e, if_true, dLook]
      by_cases ej : j = k
      · subst ej; simp
      · have : ¬ k = j := fun z => ej z.symm
        simp only [ej, this, if_false]
        split
        · rw [ih, if_neg ej]
        · rfl
    · simp only [e, if_false, dLook]
      by_cases ej : p.1 = j
      · have : ¬ j = k := fun z => e (ej.trans z)
        simp [ej, this]
      · simp only [ej, if_false, ih]
theorem DpKV.look {K : PySem.W.Frag} {B : Hp} : ∀ {r : List (Key × V)} {s : List (Key × PyData)} (k : Key), DpKV K B r s → (valV r k = none ∧ dLook s k = none) ∨ ∃ v d, valV r k = some v ∧ dLook s k = some d ∧ Dp K B v d
  | [], [], k, _ => .inl ⟨rfl, rfl⟩
  | (a, v) :: r, (b, d) :: s, k, h => by
    obtain ⟨rfl, h1, h2⟩ := h
    by_cases e : a = k
    · exact .inr ⟨v, d, valV_pos e, by simp [dLook, e], h1⟩
    · have := DpKV.look k h2
      rw [valV_neg (p := (a, v)) e]
      simpa [dLook, e] using this
  | [], (_, _) :: _, _, h => h.elim
  | (_, _) :: _, [], _, h => h.elim
theorem DpKV.len {K : PySem.W.Frag} {B : Hp} : ∀ {r : List (Key × V)} {s : List (Key × PyData)}, DpKV K B r s → r.length = s.length
  | [], [], _ => rfl
  | (_, _) :: _, (_, _) :: _, h => congrArg (· + 1) (DpKV.len h.2.2)
  | [], (_, _) :: _, h => h.elim
  | (_, _) :: _, [], h => h.elim
theorem DpKV.map {K : PySem.W.Frag} {B : Hp} {k : Key} {v : V} {d : PyData} (hv : Dp K B v d) : ∀ {r : List (Key × V)} {s : List (Key × PyData)}, DpKV K B r s → DpKV K B (r.map fun kv => if kv.1 = k then (kv.1, v) else kv) (s.map fun kv => if kv.1 = k then (kv.1, d) else kv)
  | [], [], _ => trivial
  | (a, x) :: r, (b, y) :: s, h => by
    obtain ⟨rfl, h1, h2⟩ := h
    simp only [List.map_cons]
    by_cases e : a = k
    · simp only [e, if_true]; exact ⟨rfl, hv, DpKV.map hv h2⟩
    · simp only [e, if_false]; exact ⟨rfl, h1, DpKV.map hv h2⟩
  | [], (_, _) :: _, h => h.elim
  | (_, _) :: _, [], h => h.elim
theorem DpKV.snoc {K : PySem.W.Frag} {B : Hp} {k : Key} {v : V} {d : PyData} (hv : Dp K B v d) : ∀ {r : List (Key × V)} {s : List (Key × PyData)}, DpKV K B r s → DpKV K B (r ++ [(k, v)]) (s ++ [(k, d)])
  | [], [], _ => ⟨rfl, hv, trivial⟩
  | (_, _) :: _, (_, _) :: _, h => ⟨h.1, h.2.1, DpKV.snoc hv h.2.2⟩
  | [], (_, _) :: _, h => h.elim
  | (_, _) :: _, [], h => h.elim
/-- the pairs behind d[k] = x -/
def dSet (l : List (Key × PyData)) (k : Key) (d : PyData) : List (Key × PyData) := if (dLook l k).isSome then l.map (fun kv => if kv.1 = k then (kv.1, d) else kv) else l ++ [(k, d)]
theorem dLook_map (k j : Key) (d : PyData) : ∀ l : List (Key × PyData), dLook (l.map fun kv => if kv.1 = k then (kv.1, d) else kv) j = if j = k then (dLook l j).map fun _ => d else dLook l j
  | [] => by simp [dLook]
  | p :: r => by
    have ih := dLook_map k j d r
    simp only [List.map_cons]
    by_cases e : p.1 = k
    · simp only [e, if_true, dLook]
      by_cases ej : j = k
      · subst ej; simp
      · have : ¬ k = j := fun z => ej z.symm
        simp only [ej, this, if_false]
        rw [ih, if_neg ej]
    · simp only [e, if_false, dLook]
      by_cases ej : p.1 = j
      · have : ¬ j = k := fun z => e (ej.trans z)
        simp [ej, this]
      · simp only [ej, if_false, ih]
theorem dLook_snoc (k j : Key) (d : PyData) : ∀ l : List (Key × PyData), dLook l k = none → dLook (l ++ [(k, d)]) j = if j = k then some d else dLook l j
  | [], _ => by
    simp only [List.nil_append, dLook]
    by_cases e : j = k
    · subst e; simp
    · have : ¬ k = j := fun z => e z.symm
      simp [e, this]
  | p :: r, h => by
    simp only [dLook] at h
    by_cases e : p.1 = k
    · simp [e] at h
    · simp only [e, if_false] at h
      have ih := dLook_snoc k j d r h
      simp only [List.cons_append, dLook]
      by_cases ej : p.1 = j
      · have : ¬ j = k := fun z => e (ej.trans z)
        simp [ej, this]
      · simp only [ej, if_false, ih]
theorem dLook_set (l : List (Key × PyData)) (k j : Key) (d : PyData) : dLook (dSet l k d) j = if j = k then some d else dLook l j := by
  unfold dSet
  split
  · rename_i h
    rw [dLook_map]
    by_cases e : j = k
    · subst e
      obtain ⟨x, hx⟩ := Option.isSome_iff_exists.mp h
      simp [hx]
    · simp [e]
  · rename_i h
    exact dLook_snoc k j d l (by cases e : dLook l k with
      | none => rfl
      | some x => rw [e] at h; simp at h)
theorem DpKV.put {K : PySem.W.Frag} {B : Hp} {k : Key} {v : V} {d : PyData} {r : List (Key × V)} {s : List (Key × PyData)} (h : DpKV K B r s) (hv : Dp K B v d) : DpKV K B (putK r k v) (dSet s k d) := by
  unfold putK dSet
  rw [valV_any]
  rcases h.look k with ⟨h1, h2⟩ | ⟨x, y, h1, h2, _⟩
  · rw [h1, h2]; simp; exact h.snoc hv
  · rw [h1, h2]; simp; exact h.map hv
theorem dSet_len (l : List (Key × PyData)) (k : Key) (d : PyData) : (dSet l k d).length ≤ l.length + 1 := by
  unfold dSet; split
  · rw [List.length_map]; omega
  · simp

/-! ### what a body comes to -/
inductive Out where
  | nx (ρ : Rho)
  | rt (s : Sl)
  | bk (ρ : Rho)
  | ct (ρ : Rho)
def Post (K : PySem.W.Frag) (B : Hp) (D : Ends) : Out → Prop
  | .nx ρ' => ∀ B' H' σ', Ex B B' → Sg K B' H' σ' ρ' → D.nx σ' H'
  | .rt s => ∀ v B' H', Ex B B' → Two B' H' → Is K B' H' v s → D.rt v H'
  | .bk ρ' => ∀ B' H' σ', Ex B B' → Sg K B' H' σ' ρ' → D.bk σ' H'
  | .ct ρ' => ∀ B' H' σ', Ex B B' → Sg K B' H' σ' ρ' → D.ct σ' H'
theorem Post.later {K : PySem.W.Frag} {B B1 : Hp} {D : Ends} (e : Ex B B1) : ∀ {o : Out}, Post K B D o → Post K B1 D o
  | .nx _, p => fun B' H' σ' e' => p B' H' σ' (e.trans e')
  | .rt _, p => fun v B' H' e' => p v B' H' (e.trans e')
  | .bk _, p => fun B' H' σ' e' => p B' H' σ' (e.trans e')
  | .ct _, p => fun B' H' σ' e' => p B' H' σ' (e.trans e')
def Sx (K : PySem.W.Frag) (t : TS) (ρ : Rho) (o : Out) : Prop := ∀ B H σ D, Sg K B H σ ρ → Post K B D o → t D σ H
def Out.goes : Out → Bool
  | .nx _ => true
  | _ => false
section
variable {K : PySem.W.Frag} {ρ ρ' ρ1 ρ2 : Rho} {te tl : TE} {c : TT} {t u tb : TS} {o : Out} {s : Sl} {d : PyData} {b : Bool}
theorem Sx.is {o' : Out} (h : Sx K t ρ o) (e : o = o') : Sx K t ρ o' := e ▸ h
theorem sx_next : Sx K tNext ρ (.nx ρ) := fun B H σ D g p => p B H σ (Evl.Ex.refl B) g
theorem sx_brk : Sx K tBreak ρ (.bk ρ) := fun B H σ D g p => p B H σ (Evl.Ex.refl B) g
theorem sx_cont : Sx K tCont ρ (.ct ρ) := fun B H σ D g p => p B H σ (Evl.Ex.refl B) g
theorem sx_seq (h1 : Sx K t ρ (.nx ρ')) (h2 : Sx K u ρ' o) : Sx K (tSeq t u) ρ o := fun B H σ D g p =>
  h1 B H σ { D with nx := u D } g fun B' H' σ' e g' => h2 B' H' σ' D g' (p.later e)
theorem sx_stop (h1 : Sx K t ρ o) (ho : o.goes = false) : Sx K (tSeq t u) ρ o := fun B H σ D g p =>
  h1 B H σ { D with nx := u D } g (by cases o with
    | nx => cases ho
    | rt => exact p
    | bk => exact p
    | ct => exact p)
theorem sx_if (h : Et K c ρ b) (h1 : b = true → Sx K t ρ o) (h2 : b = false → Sx K u ρ o) : Sx K (tIfS c t u) ρ o := fun B H σ D g p =>
  h B H σ g _ fun B1 H1 G => by
    cases b with
    | true => exact iteT (h1 rfl B1 H1 σ D (g.grow G) (p.later G.b))
    | false => exact iteF (h2 rfl B1 H1 σ D (g.grow G) (p.later G.b))
/-- an if with something behind -/
theorem sx_ifs (h : Et K c ρ b) (h1 : b = true → Sx K (tSeq t tb) ρ o) (h2 : b = false → Sx K (tSeq u tb) ρ o) : Sx K (tSeq (tIfS c t u) tb) ρ o := fun B H σ D g p =>
  h B H σ g _ fun B1 H1 G => by
    cases b with
    | true => exact iteT (h1 rfl B1 H1 σ D (g.grow G) (p.later G.b))
    | false => exact iteF (h2 rfl B1 H1 σ D (g.grow G) (p.later G.b))
theorem sx_ifY (h : Et K c ρ b) (hb : b = true) (h1 : Sx K (tSeq t tb) ρ o) : Sx K (tSeq (tIfS c t u) tb) ρ o := sx_ifs h (fun _ => h1) fun z => by rw [hb] at z; cases z
theorem sx_ifN (h : Et K c ρ b) (hb : b = false) (h1 : Sx K tb ρ o) : Sx K (tSeq (tIfS c t tNext) tb) ρ o := sx_ifs h (fun z => by rw [hb] at z; cases z) fun _ => sx_seq sx_next h1
theorem sx_ifN' (h : Et K c ρ b) (hb : b = false) (h1 : Sx K (tSeq u tb) ρ o) : Sx K (tSeq (tIfS c t u) tb) ρ o := sx_ifs h (fun z => by rw [hb] at z; cases z) fun _ => h1
theorem sx_if1Y (h : Et K c ρ b) (hb : b = true) (h1 : Sx K t ρ o) : Sx K (tIfS c t u) ρ o := sx_if h (fun _ => h1) fun z => by rw [hb] at z; cases z
theorem sx_if1N (h : Et K c ρ b) (hb : b = false) (h1 : Sx K u ρ o) : Sx K (tIfS c t u) ρ o := sx_if h (fun z => by rw [hb] at z; cases z) fun _ => h1
theorem sx_retS (h : Es K te ρ s) : Sx K (tSeq (tRet te) u) ρ (.rt s) := sx_stop (fun B H σ D g p => h B H σ g _ fun v B1 H1 G R => p v B1 H1 G.b G.two R.1) rfl
theorem sx_skip (h : Sx K u ρ o) : Sx K (tSeq tNext u) ρ o := sx_seq sx_next h
theorem sx_ret (h : Es K te ρ s) : Sx K (tRet te) ρ (.rt s) := fun B H σ D g p => h B H σ g _ fun v B1 H1 G R => p v B1 H1 G.b G.two R.1
theorem sx_retN : Sx K tRetN ρ (.rt (.py .none)) := fun B H σ D g p => p .non B H (Evl.Ex.refl B) g.two .non
theorem sx_retOwn {i : Nat} (h : ρ[i]? = some (some s)) : Sx K (tRet (tVar i)) ρ (.rt s) := fun B H σ D g p => by
  obtain ⟨v, h1, h2⟩ := g.has i _ h
  exact ⟨v, h1, p v B H (Evl.Ex.refl B) g.two h2⟩
theorem sx_asg {i : Nat} (h : Es K te ρ s) : Sx K (tAsg te (gName i)) ρ (.nx (ρ.set i (some s))) := fun B H σ D g p => h B H σ g _ fun v B1 H1 G R =>
  p B1 H1 _ G.b ((g.grow G).res (H0 := H) i G.h (fun j t hj ht q e => g.owns j t hj ht q e) R)
theorem sx_drop (h : Es K te ρ s) : Sx K (tDrop te) ρ (.nx ρ) := fun B H σ D g p => h B H σ g _ fun v B1 H1 G R => p B1 H1 σ G.b (g.grow G)
/-! targets -/
def Tg (K : PySem.W.Frag) (g : TG) (d : PyData) (ρ ρ' : Rho) : Prop := ∀ B H σ v Q, Sg K B H σ ρ → Dp K B v d → (∀ σ', Sg K B H σ' ρ' → Q σ' H) → g v σ H Q
def Tgs (K : PySem.W.Frag) (g : TGs) (ds : List PyData) (ρ ρ' : Rho) : Prop := ∀ B H σ vs Q, Sg K B H σ ρ → DpAll K B vs ds → (∀ σ', Sg K B H σ' ρ' → Q σ' H) → g vs σ H Q
theorem tg_name {i : Nat} : Tg K (gName i) d ρ (ρ.set i (some (.py d))) := fun B H σ v Q g hv q => q _ (g.set (H0 := H) i hv fun z => by cases z)
theorem tgs_nil : Tgs K gNil [] ρ ρ := fun B H σ vs Q g hv q => by cases hv; exact ⟨rfl, q σ g⟩
theorem tgs_cons {tg : TG} {tgs : TGs} {ds : List PyData} (h1 : Tg K tg d ρ ρ1) (h2 : Tgs K tgs ds ρ1 ρ2) : Tgs K (gCons tg tgs) (d :: ds) ρ ρ2 := fun B H σ vs Q g hv q => by
  cases hv with
  | cons a r => exact ⟨_, _, rfl, h1 B H σ _ _ g a fun σ' g' => h2 B H σ' _ _ g' r q⟩
theorem tg_tup {n : Nat} {tgs : TGs} {ds : List PyData} (h : Tgs K tgs ds ρ ρ') (hn : ds.length = n) : Tg K (gTup K n tgs) (.tuple ds) ρ ρ' := fun B H σ v Q g hv q => by
  cases hv with
  | @tup a xs _ s1 a1 => exact ⟨a, xs, rfl, Evl.ex_t g.two.sub s1, (DpAll.length a1).trans hn, h B H σ _ _ g a1 q⟩
theorem sx_asgT {tg : TG} (h : Es K te ρ (.py d)) (ht : Tg K tg d ρ ρ') : Sx K (tAsg te tg) ρ (.nx ρ') := fun B H σ D g p => h B H σ g _ fun v B1 H1 G R =>
  ht B1 H1 σ v _ (g.grow G) R.1 fun σ' g' => p B1 H1 σ' G.b g'
/-! one's own lists and dicts -/
theorem Sg.put {B H : Hp} {σ : St} {i : Nat} {p : Addr} {u : HO} {s' : Sl} (g : Sg K B H σ ρ) (hs : ρ[i]? = some (some s)) (hso : s.isOwn = true) (hi : σ[i]? = some (some (.ref p))) (hb : B p = none) (hn : s'.isOwn = true) (hu : OwnO u) (hI : Is K B (upd H p u) (.ref p) s') : Sg K B (upd H p u) σ (ρ.set i (some s')) := by
  have other : ∀ j t, j ≠ i → ρ[j]? = some (some t) → ∀ v, σ[j]? = some (some v) → Is K B H v t → Is K B (upd H p u) v t := fun j t hj ht v hv h => by
    cases t with
    | py d => exact h
    | «at» x => exact h
    | own ds =>
      obtain ⟨q, xs, rfl, hq, hh, a⟩ := h
      have ne : q ≠ p := fun z => by
        subst z
        exact hj (g.one j i _ s ht hs rfl hso (by rw [hv, hi]))
      exact ⟨q, xs, rfl, hq, by rw [upd_ne ne]; exact hh, a⟩
    | dct ds =>
      obtain ⟨q, xs, rfl, hq, hh, a⟩ := h
      have ne : q ≠ p := fun z => by
        subst z
        exact hj (g.one j i _ s ht hs rfl hso (by rw [hv, hi]))
      exact ⟨q, xs, rfl, hq, by rw [upd_ne ne]; exact hh, a⟩
  refine ⟨⟨fun q o e => ?_, fun q o e1 e2 => ?_⟩, by rw [List.length_set]; exact g.len, fun j t hj => ?_, fun j k t x hj hk ht hx e => ?_⟩
  · have ne : q ≠ p := fun z => by subst z; rw [hb] at e; cases e
    rw [upd_ne ne]; exact g.two.sub q o e
  · by_cases z : q = p
    · subst z; rw [upd_same] at e1; cases e1; exact hu
    · rw [upd_ne z] at e1; exact g.two.out q o e1 e2
  · rcases set_cases hj with ⟨rfl, e, hl⟩ | ⟨ne, hj⟩
    · cases e; exact ⟨_, hi, hI⟩
    · obtain ⟨v, h1, h2⟩ := g.has j t hj
      exact ⟨v, h1, other j t (fun z => ne z.symm) hj v h1 h2⟩
  · rcases set_cases hj with ⟨rfl, e1, hl⟩ | ⟨n1, hj⟩ <;> rcases set_cases hk with ⟨rfl, e2, hl2⟩ | ⟨n2, hk⟩
    · rfl
    · exact g.one i k s x hs hk hso hx e
    · exact g.one j i t s hj hs ht hso e
    · exact g.one j k t x hj hk ht hx e
/-- xs.append(e), xs in slot i -/
theorem sx_app {i : Nat} {ds : List PyData} (hi : ρ[i]? = some (some (.own ds))) (h : Es K te ρ (.py d)) (hl : ds.length < 100000) : Sx K (tDrop (tBM K "list" rAppend (tVar i) (tCons te tNil))) ρ (.nx (ρ.set i (some (.own (ds ++ [d]))))) := fun B H σ D g p => by
  obtain ⟨v, h1, q, xs, rfl, hb, hh, a⟩ := g.has i _ hi
  refine ⟨_, h1, .inl ⟨rfl, _, SqL.of hh⟩, ?_⟩
  refine h B H σ g _ fun w B1 H1 G R => ?_
  have g1 := g.grow G
  obtain ⟨v', h1', q', xs', e', hb', hh', a'⟩ := g1.has i _ hi
  rw [h1] at h1'; cases h1'; cases e'
  refine ⟨q, xs', w, rfl, rfl, hh', by rw [DpAll.length a']; exact Nat.lt_of_lt_of_le hl (by decide), ?_⟩
  exact p B1 _ σ G.b (g1.put hi rfl h1 hb' rfl (.inl ⟨_, rfl⟩) ⟨q, _, rfl, hb', upd_same, DpAll.snoc_of a' R.1⟩)
/-- d[k] = e, d in slot i -/
theorem sx_dput {i : Nat} {kvs : List (Key × PyData)} {k : Key} {dk : PyData} {tk : TE} (hi : ρ[i]? = some (some (.dct kvs))) (h : Es K te ρ (.py d)) (hk : Es K tk ρ (.py dk)) (ek : ∀ (B : Hp) v, Dp K B v dk → v = kV k) (hl : kvs.length < 100000) : Sx K (sDPut (tVar i) tk te) ρ (.nx (ρ.set i (some (.dct (dSet kvs k d))))) := fun B H σ D g p => by
  refine h B H σ g _ fun w B1 H1 G R => ?_
  have g1 := g.grow G
  obtain ⟨v', h1', q', xs', e', hb', hh', a'⟩ := g1.has i _ hi
  subst e'
  refine ⟨_, h1', ?_⟩
  refine hk B1 H1 σ g1 _ fun y B2 H2 G2 R2 => ?_
  have g2 := g1.grow G2
  obtain ⟨v2, h2, q2, xs2, e2, hb2, hh2, a2⟩ := g2.has i _ hi
  rw [h1'] at h2; cases h2; cases e2
  have ey := ek _ _ R2.1
  subst ey
  refine ⟨q', _, rfl, DPut.k hh2 (by rw [a2.len]; exact Nat.lt_of_lt_of_le hl (by decide)), ?_⟩
  exact p B2 _ σ (G.b.trans G2.b) (g2.put hi rfl h1' hb2 rfl (.inr ⟨_, rfl⟩) ⟨q', _, rfl, hb2, upd_same, a2.put (Dp.mono G2.b _ _ R.1)⟩)
theorem es_dget2 {i : Nat} {kvs : List (Key × PyData)} {k : Key} {dk x : PyData} {tk tx : TE} (hi : ρ[i]? = some (some (.dct kvs))) (hk : Es K tk ρ (.py dk)) (ek : ∀ (B : Hp) v, Dp K B v dk → v = kV k) (hx : Es K tx ρ (.py x)) : Es K (tDGet2 (tVar i) tk tx) ρ (.py ((dLook kvs k).getD x)) := fun B H σ g Q q => by
  obtain ⟨v, h1, p, xs, rfl, hb, hh, a⟩ := g.has i _ hi
  refine ⟨_, h1, p, rfl, .inl ⟨xs, .inl hh⟩, ?_⟩
  refine hk B H σ g _ fun y B1 H1 G1 R1 => ?_
  refine hx B1 H1 σ (g.grow G1) _ fun z B2 H2 G2 R2 => ?_
  have ey := ek _ _ R1.1
  subst ey
  have hh2 := G2.h p _ (G1.h p _ hh)
  refine ⟨_, DGet.k hh2, ?_⟩
  have a2 := DpKV.mono (G1.b.trans G2.b) a
  rcases a2.look k with ⟨e1, e2⟩ | ⟨v, d, e1, e2, hd⟩
  · rw [e1]
    refine q _ B2 H2 (G1.trans G2) (res_py ?_)
    rw [e2]
    exact R2.1
  · rw [e1]
    refine q _ B2 H2 (G1.trans G2) (res_py ?_)
    rw [e2]
    exact hd
theorem es_dget {i : Nat} {kvs : List (Key × PyData)} {k : Key} {dk r : PyData} {tk : TE} (hi : ρ[i]? = some (some (.dct kvs))) (hk : Es K tk ρ (.py dk)) (ek : ∀ (B : Hp) v, Dp K B v dk → v = kV k) (hr : dLook kvs k = some r) : Es K (tDGet (tVar i) tk) ρ (.py r) := fun B H σ g Q q => by
  obtain ⟨v, h1, p, xs, rfl, hb, hh, a⟩ := g.has i _ hi
  refine ⟨_, h1, ?_⟩
  refine hk B H σ g _ fun y B1 H1 G1 R1 => ?_
  have ey := ek _ _ R1.1
  subst ey
  have hh2 := G1.h p _ hh
  have a2 := DpKV.mono G1.b a
  rcases a2.look k with ⟨e1, e2⟩ | ⟨v, d, e1, e2, hd⟩
  · rw [hr] at e2; cases e2
  · rw [hr] at e2; cases e2
    refine ⟨p, v, rfl, by rw [← e1]; exact DGet.k hh2, q v B1 H1 G1 (res_py hd)⟩
/-- {k: e for k in a list} -/
theorem es_dcL {tk tv : TE} {j : Nat} {ds : List PyData} (kf : PyData → Key) (f : PyData → PyData) (h : Es K tl ρ (.py (.list ds))) (hz : ds.length ≤ 1000)
    (hk : ∀ d ∈ ds, ∃ dk, Es K tk ((wipeR ρ [j]).set j (some (.py d))) (.py dk) ∧ ∀ (B : Hp) v, Dp K B v dk → v = kV (kf d)) (he : ∀ d ∈ ds, Es K tv ((wipeR ρ [j]).set j (some (.py d))) (.py (f d))) :
    Es K (tDc (iList K tl) (gName j) tYes tk tv [j]) ρ (.dct (ds.foldl (fun l d => dSet l (kf d) (f d)) [])) := fun B H σ g Q q =>
  h B H σ g _ fun v B1 H1 G1 hv => by
    have hv := hv.1
    cases hv with
    | @lst a ys _ s1 a1 =>
      refine ⟨a, rfl, ⟨ys, Evl.ex_l G1.two.sub s1⟩, fun D hD => ?_⟩
      have hlen := DpAll.length a1
      have sd : ∀ (l : List PyData) (acc : List (Key × PyData)), (l.foldl (fun l d => dSet l (kf d) (f d)) acc).length ≤ acc.length + l.length := by
        intro l
        induction l with
        | nil => intro acc; simp
        | cons d l ih => intro acc; have := ih (dSet acc (kf d) (f d)); have h2 := dSet_len acc (kf d) (f d); simp only [List.foldl_cons, List.length_cons]; omega
      let Pv : Nat → Hp → Prop := fun i H2 => ∃ B2 xs, Grow B1 H1 B2 H2 ∧ B2 D = none ∧ H2 D = some (.dK xs) ∧ DpKV K B2 xs ((ds.take i).foldl (fun l d => dSet l (kf d) (f d)) [])
      have walk : ∀ i x H2, ys[i]? = some x → Pv i H2 → gName j x (L2.wipe σ [j]) H2 fun σ2 H3 => L2.wipe σ2 [j] = L2.wipe σ [j] ∧ tYes σ2 H3 fun b H4 =>
          if b = true then tk σ2 H4 fun y H5 => tv σ2 H5 fun z H6 => ∃ kvs k, y = kV k ∧ H6 D = some (.dK kvs) ∧ kvs.length < sizeLine ∧ Pv (i + 1) (upd H6 D (.dK (putK kvs k z))) else Pv (i + 1) H4 := by
        rintro i x H2 hi ⟨B2, xs, G2, hb, hL, hA⟩
        have hil : i < ds.length := by rw [← hlen]; exact (List.getElem?_eq_some_iff.mp hi).1
        have hdi : ds[i]? = some ds[i] := List.getElem?_eq_getElem hil
        obtain ⟨x', hx', hd⟩ := DpAll.get a1 hdi
        rw [hi] at hx'; cases hx'
        have g2 : Sg K B2 H2 ((L2.wipe σ [j]).set j (some x)) ((wipeR ρ [j]).set j (some (.py ds[i]))) := Sg.set (H0 := H) j (Sg.wipe (g.grow (G1.trans G2)) [j]) (Dp.mono G2.b _ _ hd) (fun z => by cases z)
        refine ⟨wipe_set, ?_⟩
        unfold tYes
        simp only [if_true]
        have hmem : ds[i] ∈ ds := List.getElem_mem hil
        obtain ⟨dk, ek, eV⟩ := hk _ hmem
        refine ek B2 H2 _ g2 _ fun y B3 H3 G3 hy => ?_
        refine he _ hmem B3 H3 _ (g2.grow G3) _ fun z B4 H4 G4 hz4 => ?_
        have ey := eV _ _ hy.1
        have hL4 : H4 D = some (.dK xs) := G4.h _ _ (G3.h _ _ hL)
        have hb4 : B4 D = none := G4.out D (G3.out D hb (by rw [hL]; simp)) (by rw [G3.h _ _ hL]; simp)
        refine ⟨xs, kf ds[i], ey, hL4, ?_, B4, _, ((G2.trans G3).trans G4).put hD hb4 (.inr ⟨_, rfl⟩), hb4, upd_same, ?_⟩
        · rw [hA.len]
          have := sd (ds.take i) []
          have h3 : (ds.take i).length ≤ 1000 := by rw [List.length_take]; omega
          refine Nat.lt_of_le_of_lt (m := 1000) ?_ (by decide)
          simp at this ⊢
          omega
        · rw [List.take_succ, hdi, List.foldl_append]
          exact (DpKV.mono (G3.b.trans G4.b) hA).put hz4.1
      have fin : ∀ H2, Pv ys.length H2 → Q (.ref D) H2 := by
        rintro H2 ⟨B2, xs, G2, hb, hL, hA⟩
        rw [hlen, List.take_length] at hA
        exact q _ B2 _ (G1.trans G2) ⟨⟨D, xs, rfl, hb, hL, hA⟩, fun _ => ⟨D, rfl, G1.free hD⟩⟩
      refine ⟨fun i m H2 => m = ys.length - i ∧ i ≤ ys.length ∧ Pv i H2, ⟨ys.length, by simp, Nat.zero_le _, B1, [], Grow.own G1.two hD (.inr ⟨[], rfl⟩), G1.two.free hD, upd_same, trivial⟩, ?_⟩
      rintro i m H2 ⟨rfl, hi, p⟩
      have hs : SqL K H2 a ys := by
        obtain ⟨B2, xs, G2, _⟩ := p
        exact Evl.ex_l (G1.two.sub.trans G2.h) s1
      by_cases hlt : i < ys.length
      · refine .inr ⟨⟨ys, ys[i], hs, by simp [hlt]⟩, Pv (i + 1), fun H' p' => ⟨ys.length - (i + 1), by omega, rfl, hlt, p'⟩, fun x H' y => ?_⟩
        obtain ⟨e, y⟩ := y
        subst e
        exact walk i x _ (y ys hs) p
      · have e : i = ys.length := by omega
        subst e
        exact .inl ⟨⟨ys, hs, Nat.le_refl _⟩, fin H2 p⟩
/-- a list of one's own stays from now on -/
theorem sx_freeze {i : Nat} {ds : List PyData} (hi : ρ[i]? = some (some (.own ds))) (h : Sx K t (ρ.set i (some (.py (.list ds)))) o) : Sx K t ρ o := fun B H σ D g p => by
  obtain ⟨v, h1, q, xs, rfl, hb, hh, a⟩ := g.has i _ hi
  have e1 : Ex B (upd B q (.lst xs)) := Evl.Ex.new hb
  have two : Two (upd B q (.lst xs)) H := ⟨fun x u e => by
      by_cases z : x = q
      · subst z; rw [upd_same] at e; cases e; exact hh
      · rw [upd_ne z] at e; exact g.two.sub x u e,
    fun x u e1 e2 => by
      by_cases z : x = q
      · subst z; rw [upd_same] at e2; cases e2
      · rw [upd_ne z] at e2; exact g.two.out x u e1 e2⟩
  refine h (upd B q (.lst xs)) H σ D ⟨two, by rw [List.length_set]; exact g.len, fun j t hj => ?_, fun j k t x hj hk ht hx e => ?_⟩ (p.later e1)
  · rcases set_cases hj with ⟨rfl, e, hl⟩ | ⟨ne, hj⟩
    · cases e
      exact ⟨_, h1, .lst (SqL.of upd_same) (DpAll.mono e1 _ _ a)⟩
    · obtain ⟨v, h3, h4⟩ := g.has j t hj
      refine ⟨v, h3, ?_⟩
      cases t with
      | py d => exact Dp.mono e1 _ _ h4
      | «at» x => exact h4
      | own es =>
        obtain ⟨y, ys, rfl, hy, hyy, ay⟩ := h4
        have n : y ≠ q := fun z => by subst z; exact ne (g.one i j _ _ hi hj rfl rfl (by rw [h1, h3]))
        exact ⟨y, ys, rfl, by rw [upd_ne n]; exact hy, hyy, DpAll.mono e1 _ _ ay⟩
      | dct es =>
        obtain ⟨y, ys, rfl, hy, hyy, ay⟩ := h4
        have n : y ≠ q := fun z => by subst z; exact ne (g.one i j _ _ hi hj rfl rfl (by rw [h1, h3]))
        exact ⟨y, ys, rfl, by rw [upd_ne n]; exact hy, hyy, DpKV.mono e1 ay⟩
  · rcases set_cases hj with ⟨rfl, e1, hl⟩ | ⟨n1, hj⟩
    · cases e1; cases ht
    rcases set_cases hk with ⟨rfl, e2, hl2⟩ | ⟨n2, hk⟩
    · cases e2; cases hx
    exact g.one j k t x hj hk ht hx e
/-! loops over a list of data -/
inductive Lp (K : PySem.W.Frag) (tg : TG) (tb : TS) : List PyData → Rho → Out → Prop where
  | nil (ρ : Rho) : Lp K tg tb [] ρ (.nx ρ)
  | more {d : PyData} {ds : List PyData} {ρ ρ1 ρ2 : Rho} {o : Out} (h : Tg K tg d ρ ρ1) (hb : Sx K tb ρ1 (.nx ρ2)) (r : Lp K tg tb ds ρ2 o) : Lp K tg tb (d :: ds) ρ o
  | cont {d : PyData} {ds : List PyData} {ρ ρ1 ρ2 : Rho} {o : Out} (h : Tg K tg d ρ ρ1) (hb : Sx K tb ρ1 (.ct ρ2)) (r : Lp K tg tb ds ρ2 o) : Lp K tg tb (d :: ds) ρ o
  | brk {d : PyData} {ds : List PyData} {ρ ρ1 ρ2 : Rho} (h : Tg K tg d ρ ρ1) (hb : Sx K tb ρ1 (.bk ρ2)) : Lp K tg tb (d :: ds) ρ (.nx ρ2)
  | ret {d : PyData} {ds : List PyData} {ρ ρ1 : Rho} {s : Sl} (h : Tg K tg d ρ ρ1) (hb : Sx K tb ρ1 (.rt s)) : Lp K tg tb (d :: ds) ρ (.rt s)
theorem lp_turn {tg : TG} {ds : List PyData} {B B1 H1 : Hp} {σ1 : St} {x : V} {D : Ends} {N : St → Hp → Prop} (hl : Lp K tg tb (d :: ds) ρ o) (p : Post K B D o) (e : Ex B B1) (g : Sg K B1 H1 σ1 ρ) (hx : Dp K B1 x d)
    (hN : ∀ B2 H2 σ2 ρ2, Ex B B2 → Sg K B2 H2 σ2 ρ2 → Lp K tg tb ds ρ2 o → N σ2 H2) : tg x σ1 H1 fun σ2 H2 => tb { D with nx := N, ct := N, bk := D.nx } σ2 H2 := by
  cases hl with
  | more h hb r => exact h B1 H1 σ1 x _ g hx fun σ2 g2 => hb B1 H1 σ2 _ g2 fun B3 H3 σ3 e3 g3 => hN B3 H3 σ3 _ (e.trans e3) g3 r
  | cont h hb r => exact h B1 H1 σ1 x _ g hx fun σ2 g2 => hb B1 H1 σ2 _ g2 fun B3 H3 σ3 e3 g3 => hN B3 H3 σ3 _ (e.trans e3) g3 r
  | brk h hb => exact h B1 H1 σ1 x _ g hx fun σ2 g2 => hb B1 H1 σ2 _ g2 fun B3 H3 σ3 e3 g3 => p B3 H3 σ3 (e.trans e3) g3
  | ret h hb => exact h B1 H1 σ1 x _ g hx fun σ2 g2 => hb B1 H1 σ2 _ g2 fun v B3 H3 e3 t3 i3 => p v B3 H3 (e.trans e3) t3 i3
theorem lp_end {tg : TG} (hl : Lp K tg tb [] ρ o) : o = .nx ρ := by cases hl; rfl
theorem sx_for {tg : TG} {ds : List PyData} (h : Es K tl ρ (.py (.list ds))) (hl : Lp K tg tb ds ρ o) : Sx K (tFor (iList K tl) tg tb) ρ o := fun B H σ D g p => h B H σ g _ fun v B1 H1 G R => by
  have R := R.1
  cases R with
  | @lst a ys _ s1 a1 =>
    have hlen := DpAll.length a1
    refine ⟨a, rfl, ⟨ys, Evl.ex_l G.two.sub s1⟩, for_list (K := K) (a := a) (xs := ys) (fun i σ' H' => ∃ B' ρ', Ex B1 B' ∧ Sg K B' H' σ' ρ' ∧ Lp K tg tb (ds.drop i) ρ' o) ⟨B1, ρ, Evl.Ex.refl _, g.grow G, by simpa using hl⟩ (fun i σ' H' _ ⟨B', _, e, g', _⟩ => Evl.ex_l (e.trans g'.two.sub) s1) ?_ ?_⟩
    · rintro i x σ' H' hi ⟨B', ρ', e, g', l'⟩
      have hil : i < ds.length := by rw [← hlen]; exact (List.getElem?_eq_some_iff.mp hi).1
      have hdi : ds[i]? = some ds[i] := List.getElem?_eq_getElem hil
      obtain ⟨x', hx', hd⟩ := DpAll.get a1 hdi
      rw [hi] at hx'; cases hx'
      rw [List.drop_eq_getElem_cons hil] at l'
      exact lp_turn (B := B1) l' (p.later G.b) e g' (Dp.mono e _ _ hd) fun B2 H2 σ2 ρ2 e2 g2 l2 => ⟨B2, ρ2, e2, g2, l2⟩
    · rintro σ' H' ⟨B', ρ', e, g', l'⟩
      rw [hlen, List.drop_length] at l'
      have := lp_end l'
      subst this
      exact p B' H' σ' (G.b.trans e) g'
theorem sx_forT {tg : TG} {ds : List PyData} (h : Es K tl ρ (.py (.tuple ds))) (hl : Lp K tg tb ds ρ o) : Sx K (tFor (iTup K tl) tg tb) ρ o := fun B H σ D g p => h B H σ g _ fun v B1 H1 G R => by
  have R := R.1
  cases R with
  | @tup a ys _ s1 a1 =>
    have hlen := DpAll.length a1
    refine ⟨a, rfl, ⟨ys, Evl.ex_t G.two.sub s1⟩, for_tup (K := K) (a := a) (xs := ys) (fun i σ' H' => ∃ B' ρ', Ex B1 B' ∧ Sg K B' H' σ' ρ' ∧ Lp K tg tb (ds.drop i) ρ' o) ⟨B1, ρ, Evl.Ex.refl _, g.grow G, by simpa using hl⟩ (fun i σ' H' _ ⟨B', _, e, g', _⟩ => Evl.ex_t (e.trans g'.two.sub) s1) ?_ ?_⟩
    · rintro i x σ' H' hi ⟨B', ρ', e, g', l'⟩
      have hil : i < ds.length := by rw [← hlen]; exact (List.getElem?_eq_some_iff.mp hi).1
      have hdi : ds[i]? = some ds[i] := List.getElem?_eq_getElem hil
      obtain ⟨x', hx', hd⟩ := DpAll.get a1 hdi
      rw [hi] at hx'; cases hx'
      rw [List.drop_eq_getElem_cons hil] at l'
      exact lp_turn (B := B1) l' (p.later G.b) e g' (Dp.mono e _ _ hd) fun B2 H2 σ2 ρ2 e2 g2 l2 => ⟨B2, ρ2, e2, g2, l2⟩
    · rintro σ' H' ⟨B', ρ', e, g', l'⟩
      rw [hlen, List.drop_length] at l'
      have := lp_end l'
      subst this
      exact p B' H' σ' (G.b.trans e) g'
/-- for k in range(n) -/
theorem sx_forR {tg : TG} {ta : TA} {n : Int} (h : Ea K ta ρ [.py (.int n)]) (hn : -1000 ≤ n ∧ n ≤ 1000) (hl : Lp K tg tb ((List.range n.toNat).map fun i : Nat => PyData.int (i : Int)) ρ o) : Sx K (tFor (iRng1 ta) tg tb) ρ o := fun B H σ D g p => h B H σ g _ fun vs B1 H1 G R => by
  obtain ⟨v, rfl, hw⟩ := is1 R
  have hw : Dp K B1 v (.int n) := hw
  have hv : v = .int n := by cases hw; rfl
  subst hv
  refine ⟨n, rfl, Int.le_trans (by decide) hn.1, Int.lt_of_le_of_lt hn.2 (by decide), for_range (lo := 0) (n := n.toNat) (fun i σ' H' => ∃ B' ρ', Ex B1 B' ∧ Sg K B' H' σ' ρ' ∧ Lp K tg tb (((List.range n.toNat).map fun i : Nat => PyData.int (i : Int)).drop i) ρ' o) ⟨B1, ρ, Evl.Ex.refl _, g.grow G, by simpa using hl⟩ ?_ ?_⟩
  · rintro i σ' H' hi ⟨B', ρ', e, g', l'⟩
    have hil : i < ((List.range n.toNat).map fun i : Nat => PyData.int (i : Int)).length := by simpa using hi
    rw [List.drop_eq_getElem_cons hil] at l'
    refine lp_turn (B := B1) l' (p.later G.b) e g' ?_ fun B2 H2 σ2 ρ2 e2 g2 l2 => ⟨B2, ρ2, e2, g2, l2⟩
    simp
    exact .int _
  · rintro σ' H' ⟨B', ρ', e, g', l'⟩
    rw [List.drop_eq_nil_of_le (by simp)] at l'
    have := lp_end l'
    subst this
    exact p B' H' σ' (G.b.trans e) g'

/-- a loop by what holds between its turns -/
def TurnI (K : PySem.W.Frag) (tg : TG) (tb : TS) (I : List PyData → Rho → Prop) (o : Out) : Prop := ∀ d ds ρ, I (d :: ds) ρ → ∃ ρ1, Tg K tg d ρ ρ1 ∧ ((∃ ρ2, (Sx K tb ρ1 (.nx ρ2) ∨ Sx K tb ρ1 (.ct ρ2)) ∧ I ds ρ2) ∨ ∃ s, o = .rt s ∧ Sx K tb ρ1 (.rt s))
theorem lp_inv {tg : TG} {I : List PyData → Rho → Prop} (turn : TurnI K tg tb I o) : ∀ ds ρ, I ds ρ → (∃ ρ', Lp K tg tb ds ρ (.nx ρ') ∧ I [] ρ') ∨ ∃ s, o = .rt s ∧ Lp K tg tb ds ρ (.rt s)
  | [], ρ, h => .inl ⟨ρ, .nil ρ, h⟩
  | d :: ds, ρ, h => by
    obtain ⟨ρ1, h1, h2⟩ := turn d ds ρ h
    rcases h2 with ⟨ρ2, h2, h3⟩ | ⟨s, e, h2⟩
    · rcases lp_inv turn ds ρ2 h3 with ⟨ρ', l, i⟩ | ⟨s, e, l⟩
      · rcases h2 with h2 | h2
        · exact .inl ⟨ρ', .more h1 h2 l, i⟩
        · exact .inl ⟨ρ', .cont h1 h2 l, i⟩
      · rcases h2 with h2 | h2
        · exact .inr ⟨s, e, .more h1 h2 l⟩
        · exact .inr ⟨s, e, .cont h1 h2 l⟩
    · exact .inr ⟨s, e, .ret h1 h2⟩
theorem sx_forI {tg : TG} {ds : List PyData} (I : List PyData → Rho → Prop) (h : Es K tl ρ (.py (.list ds))) (h0 : I ds ρ) (turn : TurnI K tg tb I o) (fin : ∀ ρ', I [] ρ' → Sx K u ρ' o) : Sx K (tSeq (tFor (iList K tl) tg tb) u) ρ o := by
  rcases lp_inv turn ds ρ h0 with ⟨ρ', l, i⟩ | ⟨s, e, l⟩
  · exact sx_seq (sx_for h l) (fin ρ' i)
  · rw [e]; exact sx_stop (sx_for h l) rfl
theorem sx_forTI {tg : TG} {ds : List PyData} (I : List PyData → Rho → Prop) (h : Es K tl ρ (.py (.tuple ds))) (h0 : I ds ρ) (turn : TurnI K tg tb I o) (fin : ∀ ρ', I [] ρ' → Sx K u ρ' o) : Sx K (tSeq (tFor (iTup K tl) tg tb) u) ρ o := by
  rcases lp_inv turn ds ρ h0 with ⟨ρ', l, i⟩ | ⟨s, e, l⟩
  · exact sx_seq (sx_forT h l) (fin ρ' i)
  · rw [e]; exact sx_stop (sx_forT h l) rfl
theorem sx_forRI {tg : TG} {ta : TA} {n : Int} (I : List PyData → Rho → Prop) (h : Ea K ta ρ [.py (.int n)]) (hn : -1000 ≤ n ∧ n ≤ 1000) (h0 : I ((List.range n.toNat).map fun i : Nat => PyData.int (i : Int)) ρ) (turn : TurnI K tg tb I o) (fin : ∀ ρ', I [] ρ' → Sx K u ρ' o) : Sx K (tSeq (tFor (iRng1 ta) tg tb) u) ρ o := by
  rcases lp_inv turn _ ρ h0 with ⟨ρ', l, i⟩ | ⟨s, e, l⟩
  · exact sx_seq (sx_forR h hn l) (fin ρ' i)
  · rw [e]; exact sx_stop (sx_forR h hn l) rfl

/-! ### defs over data -/
/-- a def's promise: for arguments and a result that stand in R to each other, all that stands is kept -/
def PSp (K : PySem.W.Frag) (R : List Sl → Sl → Prop) : Sp := fun vs H Q _ => ∃ ss s, IsAll K H H vs ss ∧ R ss s ∧ ∀ v B' H', Ex H B' → Two B' H' → Is K B' H' v s → Q v H'
/-- arguments, as they may be read -/
def Eh (K : PySem.W.Frag) (t : TA) (ρ : Rho) (ss : List Sl) : Prop := ∀ B H σ, Sg K B H σ ρ → ∀ Q : List V → Hp → Prop, (∀ vs B' H', Grow B H B' H' → IsAll K H' H' vs ss → Q vs H') → t σ H Q
theorem eh_nil : Eh K tNil ρ [] := fun B H σ g Q q => q [] B H (Grow.refl g.two) trivial
theorem Two.all (H : Hp) : Two H H := ⟨Evl.Ex.refl H, fun q o e1 e2 => by rw [e1] at e2; cases e2⟩
theorem isAll_up {B H H' : Hp} (e : Ex H H') : ∀ {vs : List V} {ss : List Sl}, IsAll K H H vs ss → IsAll K H' H' vs ss
  | [], [], _ => trivial
  | v :: vs, s :: ss, h => by
    refine ⟨?_, isAll_up (B := B) e h.2⟩
    have h1 := h.1
    cases s with
    | py d => exact Dp.mono e _ _ h1
    | «at» x => exact h1
    | own ds =>
      obtain ⟨p, xs, _, hb, hh, _⟩ := h1
      rw [hb] at hh
      cases hh
    | dct ds =>
      obtain ⟨p, xs, _, hb, hh, _⟩ := h1
      rw [hb] at hh
      cases hh
  | [], _ :: _, h => h.elim
  | _ :: _, [], h => h.elim
theorem eh_cons {tr : TA} {ss : List Sl} (ha : Ep K te ρ d) (hr : Eh K tr ρ ss) : Eh K (tCons te tr) ρ (.py d :: ss) := fun B H σ g Q q =>
  ha B H σ g _ fun x B1 H1 G1 hx => hr B1 H1 σ (g.grow G1) _ fun xs B2 H2 G2 hxs => q _ B2 H2 (G1.trans G2) ⟨Dp.mono G2.h _ _ hx, hxs⟩
theorem eh_consA {tr : TA} {ss : List Sl} {x : V} (ha : Es K te ρ (.at x)) (hr : Eh K tr ρ ss) : Eh K (tCons te tr) ρ (.at x :: ss) := fun B H σ g Q q =>
  ha B H σ g _ fun y B1 H1 G1 hx => hr B1 H1 σ (g.grow G1) _ fun xs B2 H2 G2 hxs => q _ B2 H2 (G1.trans G2) ⟨hx.1, hxs⟩
def Sl.flat : Sl → Bool
  | .py d => noList d
  | .at _ => true
  | .own ds => noLists ds
  | .dct _ => false
theorem es_call {R : List Sl → Sl → Prop} {E : XK} {ta : TA} {ss : List Sl} (ha : Eh K ta ρ ss) (hR : R ss s) (hf : s.flat = true) : Es K (tCall (PSp K R) [] E ta) ρ s := fun B H σ g Q q =>
  ha B H σ g _ fun vs B1 H1 G1 hv => by
    refine ⟨ss, s, by rw [List.append_nil]; exact hv, hR, fun v B' H' e t i => ?_⟩
    have e1 : Ex H1 H' := e.trans t.sub
    have G2 : Grow B1 H1 (growB B1 H1 H') H' := Grow.all G1.two e1
    cases s with
    | py d => exact q v _ H' (G1.trans G2) (res_py (Dp.down G2.two hf (Dp.up t i)))
    | «at» x => exact q v _ H' (G1.trans G2) ⟨i, fun z => by cases z⟩
    | dct kvs => cases hf
    | own ds =>
      obtain ⟨p, xs, rfl, hb, hh, a⟩ := i
      have hp1 : H1 p = none := by
        cases e0 : H1 p with
        | none => rfl
        | some o => rw [e p o e0] at hb; cases hb
      let B2 : Hp := fun x => if x = p then none else growB B1 H1 H' x
      have hB2 : B2 p = none := by show (if p = p then none else _) = none; rw [if_pos rfl]
      have nB2 : ∀ x, x ≠ p → B2 x = growB B1 H1 H' x := fun x hx => by show (if x = p then none else _) = _; rw [if_neg hx]
      have two2 : Two B2 H' := ⟨fun x o ex => by
          by_cases z : x = p
          · subst z; rw [hB2] at ex; cases ex
          · rw [nB2 x z] at ex; exact G2.two.sub x o ex,
        fun x o e1 e2 => by
          by_cases z : x = p
          · subst z; rw [hh] at e1; cases e1; exact .inl ⟨_, rfl⟩
          · rw [nB2 x z] at e2; exact G2.two.out x o e1 e2⟩
      have G3 : Grow B1 H1 B2 H' := ⟨fun x o ex => by
          have z : x ≠ p := fun z => by subst z; rw [G1.two.sub x o ex] at hp1; cases hp1
          rw [nB2 x z]; exact G2.b x o ex, e1, two2, fun x h1 h2 => by
          have z : x ≠ p := fun z => by subst z; exact h2 hp1
          rw [nB2 x z]; exact G2.out x h1 h2⟩
      exact q _ B2 H' (G1.trans G3) ⟨⟨p, xs, rfl, hB2, hh, DpAll.keepT two2.tup _ _ hf (DpAll.up t a)⟩, fun _ => ⟨p, rfl, G1.free hp1⟩⟩
end
section
open PyProof.Rows
variable {P : Program} {w : World} {K : PySem.W.Frag} {mg : Str → Option Value} {base : Heap}
/-- how a def keeps such a promise: its body comes to a return of s, or to its end (None) -/
theorem pure_ok {x qual : Str} {st : Stmt} {f : Addr} {fd : FuncData} {N ps : List Str} {k : Nat} {R : List Sl → Sl → Prop} (F : Fun K x qual st f fd) (S : FnScope N ps (defScope st)) (hlen : ∀ ss s, R ss s → ss.length = ps.length) (hno : ∀ ss s, R ss s → ∀ x ∈ ss, x.isOwn = false) (hN : ps.length ≤ N.length)
    (hbody : ∀ (cdv : Value) (A : Around) (outer : List Env) (s : Shared) (H : Hp) (E : XK), Room k (A.deeper (envOfC qual (defScope st) s.heap.objs.size f cdv)) →
      ∃ t, PSs (cxOf CX0 P w K mg base N qual (defScope st) f cdv A outer s H E).nox (defBody st) t ∧ ∀ ss s, R ss s → Sx K t (ss.map some ++ List.replicate (N.length - ss.length) none) (.rt s) ∨ (s = .py .none ∧ ∃ ρ', Sx K t (ss.map some ++ List.replicate (N.length - ss.length) none) (.nx ρ'))) :
    FnOk P w K mg base CX0 (k + 1) f fd ps (PSp K R) := by
  refine F.ok S (fun vs H Q E h => ?_) (fun cdv A outer s H vs Q E hr h => ?_)
  · obtain ⟨ss, s, i, r, _⟩ := h
    exact i.length.trans (hlen ss s r)
  · obtain ⟨ss, s', i, r, q⟩ := h
    obtain ⟨t, hp, hb⟩ := hbody cdv A outer s H E hr
    refine ⟨t, hp, ?_⟩
    have g : Sg K H H (L2.start N vs) (ss.map some ++ List.replicate (N.length - ss.length) none) := Sg.start (Two.all H) i (by rw [hlen ss s' r]; exact hN) (hno ss s' r)
    rcases hb ss s' r with h | ⟨rfl, ρ', h⟩
    · exact h H H _ _ g fun v B' H' e t i => q v B' H' e t i
    · exact h H H _ _ g fun B' H' σ' e g' => q .non B' H' e g'.two .non
end
section
open PySem.Spec PyProof.Rows
variable {X : Cx}
/-- name = {..} on one line, the name a local -/
theorem ps_setDc {i : Nat} {y : Str} {py : Pos} {kx vx tg iter : Expr} {ifs : List Expr} {scope : Scope} {own : List (Str × Nat)} {pos spos : Pos}
    {wi : TI} {g : TG} {tt : TT} {tk tv : TE}
    (hc : X.calm = true) (hN : X.N.Nodup) (hy : X.N[i]? = some y)
    (hyl : X.env.scope.names.lookup y = some .local)
    (hsw : swapsWith (.DictComp kx vx [⟨tg, iter, ifs, 0⟩] scope pos) (some (.Name y py)) spos.line X.env = pure true)
    (hi : PI X tg iter wi) (ok : BlkOk X.N X.env.scope scope own)
    (hg : ∀ s H C cl fp, PG (X.blk s H scope (compEnvC scope cl C X.env) fp) tg g)
    (ht : ∀ s H C cl fp, PTs (X.blk s H scope (compEnvC scope cl C X.env) fp) ifs tt)
    (hk : ∀ s H C cl fp, PE (X.blk s H scope (compEnvC scope cl C X.env) fp) kx tk)
    (he : ∀ s H C cl fp, PE (X.blk s H scope (compEnvC scope cl C X.env) fp) vx tv)
    (hs : ∀ x, foldedSetIterable iter X.env x = pure x := by intro _; rfl) :
    PS X (.Assign [.Name y py] (.DictComp kx vx [⟨tg, iter, ifs, 0⟩] scope pos) spos) (tAsg (tDc wi g tt tk tv (own.map (·.2))) (gName i)) := by
  constructor
  intro pins s σ H D I h0
  rw [exec_Assign_Name_used _ _ _ _ hsw]
  apply wpAny_bind
  apply wpAny_standAt
  apply wpAny_bind
  show wpAny _ X.A (bind (comprehension (.DictComp kx vx [⟨tg, iter, ifs, 0⟩] scope pos) scope X.env (firstIterPos [⟨tg, iter, ifs, 0⟩] pos) newDict false (eval iter X.env) (some (assign (.Name y py) X.env))) fun _ => _) _ _ s
  have h1 : tDc wi g tt tk tv (own.map (·.2)) σ H (fun x H1 => gName i x σ H1 D.nx) := h0
  apply wpAny_bind
  have core := dc_core (pos := pos) (use := some (assign (.Name y py) X.env)) (pos' := firstIterPos [⟨tg, iter, ifs, 0⟩] pos)
    (Qf := fun _ s' => SP X pins D .next s') hc hN I hi ok hg ht hk he hs h1 (fun L C s' m H' I' q hn f => by
      show wpAny _ _ (assign (.Name y py) X.env (.ref L)) _ _ _
      obtain ⟨f0, f1, f2, f3, f4, f5⟩ := f
      apply wpAny_assign_Name
      refine store_ok2 (v := .ref L) I' hN hy (.inl hyl) rfl ?_ (.inr hyl)
      rintro s2 I2 ⟨a, sb, ha⟩
      have haC : C ≠ a := by
        rcases ha with rfl | z
        · exact f1
        · rintro rfl; exact f4 y _ z rfl
      refine ⟨m, hn.sameBut sb haC, ?_⟩
      intro h3 sb3
      have J := I2.turned (t' := s2.toks) (h' := h3) (it := C) (fun b o hb e => by rw [sb3.2 b hb]; exact e) f0 f1 f3 f4 f5
      exact ⟨_, H', J, q⟩)
  refine thn core ?_
  intro _ s' hq
  exact wpAny_pure (wpAny_pure hq)
theorem sw_dict {kx vx : Expr} {gs : List Comprehension} {scope : Scope} {pos py : Pos} {y : Str} {l : Nat} {env : Env} (hk : env.scope.kind = .function)
    (hy : env.scope.names.lookup y = some .local) (hl : (py.line == pos.line) = true)
    (hf : (scope.names.any fun (n, k) => n == y && (k == .local || k == .cell)) = false) :
    swapsWith (.DictComp kx vx gs scope pos) (some (.Name y py)) l env = pure true := by
  have k1 : env.kindOf y = some .local := hy
  have k2 : env.blockKind = .function := by
    unfold Env.blockKind
    rw [hk]; rfl
  unfold swapsWith
  simp only [Expr.pos, k2, k1, hl, hf]
  rfl
end
end Wk

namespace L
open PySem L2 Wk
def top (i : Nat) : Stmt := PySem.Challenge.pw_movehouse_k02_one_desk.main.body.getD i (.Pass ⟨0, 0, 0, 0⟩)
abbrev s_done : Stmt := top 1
abbrev s_played : Stmt := top 2
abbrev s__law_cell_at : Stmt := top 4
abbrev s__law_alike : Stmt := top 5
abbrev s__law_wish : Stmt := top 6
abbrev s__law_keys : Stmt := top 7
abbrev s__law_done : Stmt := top 8
abbrev s_law : Stmt := top 9
theorem sc_done : FnScope ["amount", "wish", "word", "n"] ["amount", "wish"] (defScope s_done) := ⟨rfl, rfl, rfl, by decide +kernel, rfl, by decide +kernel, by decide +kernel⟩
theorem sc_played : FnScope ["keys", "rows", "key", "amounts", "answers", "wish", "amount", "told"] ["keys", "rows"] (defScope s_played) := ⟨rfl, rfl, rfl, by decide +kernel, rfl, by decide +kernel, by decide +kernel⟩
theorem sc__law_cell_at : FnScope ["_law_script", "_law_k"] ["_law_script", "_law_k"] (defScope s__law_cell_at) := ⟨rfl, rfl, rfl, by decide +kernel, rfl, by decide +kernel, by decide +kernel⟩
theorem sc__law_alike : FnScope ["_law_found", "_law_due", "_law_k"] ["_law_found", "_law_due"] (defScope s__law_alike) := ⟨rfl, rfl, rfl, by decide +kernel, rfl, by decide +kernel, by decide +kernel⟩
theorem sc__law_wish : FnScope ["_law_cell", "_law_number"] ["_law_cell"] (defScope s__law_wish) := ⟨rfl, rfl, rfl, by decide +kernel, rfl, by decide +kernel, by decide +kernel⟩
theorem sc__law_keys : FnScope ["_law_cell", "_law_letters", "_law_many", "_law_size", "_law_at", "_law_turn", "_law_rest", "_law_k"] ["_law_cell"] (defScope s__law_keys) := ⟨rfl, rfl, rfl, by decide +kernel, rfl, by decide +kernel, by decide +kernel⟩
theorem sc__law_done : FnScope ["_law_amount", "_law_wish_here"] ["_law_amount", "_law_wish_here"] (defScope s__law_done) := ⟨rfl, rfl, rfl, by decide +kernel, rfl, by decide +kernel, by decide +kernel⟩
theorem sc_law : FnScope ["_law_script", "_law_keys_here", "_law_rows", "_law_handed", "_law_found", "_law_amounts", "_law_due", "_law_key", "_law_wish_here", "_law_amount", "_law_told", "_law_cell"] ["_law_script"] (defScope s_law) := ⟨rfl, rfl, rfl, by decide +kernel, rfl, by decide +kernel, by decide +kernel⟩
/-- where the top has put things -/
structure Adr where
  f_done : Addr
  d_done : FuncData
  f_played : Addr
  d_played : FuncData
  f__law_cell_at : Addr
  d__law_cell_at : FuncData
  f__law_alike : Addr
  d__law_alike : FuncData
  f__law_wish : Addr
  d__law_wish : FuncData
  f__law_keys : Addr
  d__law_keys : FuncData
  f__law_done : Addr
  d__law_done : FuncData
  f_law : Addr
  d_law : FuncData
/-- what the top has written -/
structure Txt (K : PySem.W.Frag) (mg : Str → Option Value) (A : Adr) : Prop where
  F_done : Fun K "done" "done" s_done A.f_done A.d_done
  B_done : Binds K A.d_done ["amount", "wish"] []
  m_done : mg "done" = some (.ref A.f_done)
  F_played : Fun K "played" "played" s_played A.f_played A.d_played
  B_played : Binds K A.d_played ["keys", "rows"] []
  m_played : mg "played" = some (.ref A.f_played)
  F__law_cell_at : Fun K "_law_cell_at" "_law_cell_at" s__law_cell_at A.f__law_cell_at A.d__law_cell_at
  B__law_cell_at : Binds K A.d__law_cell_at ["_law_script", "_law_k"] []
  m__law_cell_at : mg "_law_cell_at" = some (.ref A.f__law_cell_at)
  F__law_alike : Fun K "_law_alike" "_law_alike" s__law_alike A.f__law_alike A.d__law_alike
  B__law_alike : Binds K A.d__law_alike ["_law_found", "_law_due"] []
  m__law_alike : mg "_law_alike" = some (.ref A.f__law_alike)
  F__law_wish : Fun K "_law_wish" "_law_wish" s__law_wish A.f__law_wish A.d__law_wish
  B__law_wish : Binds K A.d__law_wish ["_law_cell"] []
  m__law_wish : mg "_law_wish" = some (.ref A.f__law_wish)
  F__law_keys : Fun K "_law_keys" "_law_keys" s__law_keys A.f__law_keys A.d__law_keys
  B__law_keys : Binds K A.d__law_keys ["_law_cell"] []
  m__law_keys : mg "_law_keys" = some (.ref A.f__law_keys)
  F__law_done : Fun K "_law_done" "_law_done" s__law_done A.f__law_done A.d__law_done
  B__law_done : Binds K A.d__law_done ["_law_amount", "_law_wish_here"] []
  m__law_done : mg "_law_done" = some (.ref A.f__law_done)
  F_law : Fun K "law" "law" s_law A.f_law A.d_law
  B_law : Binds K A.d_law ["_law_script"] []
  m_law : mg "law" = some (.ref A.f_law)
  b_all : mg "all" = none
  b_bool : mg "bool" = none
  b_int : mg "int" = none
  b_isinstance : mg "isinstance" = none
  b_len : mg "len" = none
  b_list : mg "list" = none
  b_range : mg "range" = none
  b_str : mg "str" = none
  b_tuple : mg "tuple" = none
theorem all_mk {w : World} {K : PySem.W.Frag} {h : Heap} {mg : Str → Option Value} {fa : Addr} (X : K.In h) (G : h.Ns mainGlobals mg) (hfa : mg "law" = some (.ref fa))
    {f1 : Addr} {od1 an1 : Option Addr} {sl1 : Array (Option Value)} {oc1 kV1 dc1 pm1 cd1 ct1 : Value}
    {f2 : Addr} {od2 an2 : Option Addr} {sl2 : Array (Option Value)} {oc2 kV2 dc2 pm2 cd2 ct2 : Value}
    {f3 : Addr} {od3 an3 : Option Addr} {sl3 : Array (Option Value)} {oc3 kV3 dc3 pm3 cd3 ct3 : Value}
    {f4 : Addr} {od4 an4 : Option Addr} {sl4 : Array (Option Value)} {oc4 kV4 dc4 pm4 cd4 ct4 : Value}
    {f5 : Addr} {od5 an5 : Option Addr} {sl5 : Array (Option Value)} {oc5 kV5 dc5 pm5 cd5 ct5 : Value}
    {f6 : Addr} {od6 an6 : Option Addr} {sl6 : Array (Option Value)} {oc6 kV6 dc6 pm6 cd6 ct6 : Value}
    {f7 : Addr} {od7 an7 : Option Addr} {sl7 : Array (Option Value)} {oc7 kV7 dc7 pm7 cd7 ct7 : Value}
    {f8 : Addr} {od8 an8 : Option Addr} {sl8 : Array (Option Value)} {oc8 kV8 dc8 pm8 cd8 ct8 : Value}
    (a1 : PySem.W.nsIn K mainGlobals "done" = some (some (.ref f1)))
    (l1 : K.lookup f1 = some ⟨oc1, od1, .func (PySem.W.fnOf "done" "done" (defArgs s_done) (defBody s_done) (defScope s_done) .none kV1 dc1 pm1 an1 cd1 ct1), sl1⟩)
    (c1 : PySem.W.codeIn K cd1 "done" = true)
    (k1 : PySem.W.keepIn K (.ref f1) = true)
    (a2 : PySem.W.nsIn K mainGlobals "played" = some (some (.ref f2)))
    (l2 : K.lookup f2 = some ⟨oc2, od2, .func (PySem.W.fnOf "played" "played" (defArgs s_played) (defBody s_played) (defScope s_played) .none kV2 dc2 pm2 an2 cd2 ct2), sl2⟩)
    (c2 : PySem.W.codeIn K cd2 "played" = true)
    (k2 : PySem.W.keepIn K (.ref f2) = true)
    (a3 : PySem.W.nsIn K mainGlobals "_law_cell_at" = some (some (.ref f3)))
    (l3 : K.lookup f3 = some ⟨oc3, od3, .func (PySem.W.fnOf "_law_cell_at" "_law_cell_at" (defArgs s__law_cell_at) (defBody s__law_cell_at) (defScope s__law_cell_at) .none kV3 dc3 pm3 an3 cd3 ct3), sl3⟩)
    (c3 : PySem.W.codeIn K cd3 "_law_cell_at" = true)
    (k3 : PySem.W.keepIn K (.ref f3) = true)
    (a4 : PySem.W.nsIn K mainGlobals "_law_alike" = some (some (.ref f4)))
    (l4 : K.lookup f4 = some ⟨oc4, od4, .func (PySem.W.fnOf "_law_alike" "_law_alike" (defArgs s__law_alike) (defBody s__law_alike) (defScope s__law_alike) .none kV4 dc4 pm4 an4 cd4 ct4), sl4⟩)
    (c4 : PySem.W.codeIn K cd4 "_law_alike" = true)
    (k4 : PySem.W.keepIn K (.ref f4) = true)
    (a5 : PySem.W.nsIn K mainGlobals "_law_wish" = some (some (.ref f5)))
    (l5 : K.lookup f5 = some ⟨oc5, od5, .func (PySem.W.fnOf "_law_wish" "_law_wish" (defArgs s__law_wish) (defBody s__law_wish) (defScope s__law_wish) .none kV5 dc5 pm5 an5 cd5 ct5), sl5⟩)
    (c5 : PySem.W.codeIn K cd5 "_law_wish" = true)
    (k5 : PySem.W.keepIn K (.ref f5) = true)
    (a6 : PySem.W.nsIn K mainGlobals "_law_keys" = some (some (.ref f6)))
    (l6 : K.lookup f6 = some ⟨oc6, od6, .func (PySem.W.fnOf "_law_keys" "_law_keys" (defArgs s__law_keys) (defBody s__law_keys) (defScope s__law_keys) .none kV6 dc6 pm6 an6 cd6 ct6), sl6⟩)
    (c6 : PySem.W.codeIn K cd6 "_law_keys" = true)
    (k6 : PySem.W.keepIn K (.ref f6) = true)
    (a7 : PySem.W.nsIn K mainGlobals "_law_done" = some (some (.ref f7)))
    (l7 : K.lookup f7 = some ⟨oc7, od7, .func (PySem.W.fnOf "_law_done" "_law_done" (defArgs s__law_done) (defBody s__law_done) (defScope s__law_done) .none kV7 dc7 pm7 an7 cd7 ct7), sl7⟩)
    (c7 : PySem.W.codeIn K cd7 "_law_done" = true)
    (k7 : PySem.W.keepIn K (.ref f7) = true)
    (a8 : PySem.W.nsIn K mainGlobals "law" = some (some (.ref f8)))
    (l8 : K.lookup f8 = some ⟨oc8, od8, .func (PySem.W.fnOf "law" "law" (defArgs s_law) (defBody s_law) (defScope s_law) .none kV8 dc8 pm8 an8 cd8 ct8), sl8⟩)
    (c8 : PySem.W.codeIn K cd8 "law" = true)
    (k8 : PySem.W.keepIn K (.ref f8) = true)
    (z_all : PySem.W.nsIn K mainGlobals "all" = some none)
    (z_bool : PySem.W.nsIn K mainGlobals "bool" = some none)
    (z_int : PySem.W.nsIn K mainGlobals "int" = some none)
    (z_isinstance : PySem.W.nsIn K mainGlobals "isinstance" = some none)
    (z_len : PySem.W.nsIn K mainGlobals "len" = some none)
    (z_list : PySem.W.nsIn K mainGlobals "list" = some none)
    (z_range : PySem.W.nsIn K mainGlobals "range" = some none)
    (z_str : PySem.W.nsIn K mainGlobals "str" = some none)
    (z_tuple : PySem.W.nsIn K mainGlobals "tuple" = some none) :
    ∃ A : Adr, Txt K mg A ∧ fa = A.f_law ∧ ∀ (s : Shared) (v : Value), BindsTo s A.d_law ⟨[v], []⟩ [("_law_script", v)] := by
  have e : f8 = fa := by
    have e := (PySem.W.mg_of X G a8).symm.trans hfa
    injection e with e; injection e
  subst e
  have F1 := fun_mk (st := s_done) l1 c1 k1
  have b1 := F1.binds (ps := ["amount", "wish"]) fun _ _ _ _ _ _ us hl => match us, hl with | [_, _], _ => rfl
  have F2 := fun_mk (st := s_played) l2 c2 k2
  have b2 := F2.binds (ps := ["keys", "rows"]) fun _ _ _ _ _ _ us hl => match us, hl with | [_, _], _ => rfl
  have F3 := fun_mk (st := s__law_cell_at) l3 c3 k3
  have b3 := F3.binds (ps := ["_law_script", "_law_k"]) fun _ _ _ _ _ _ us hl => match us, hl with | [_, _], _ => rfl
  have F4 := fun_mk (st := s__law_alike) l4 c4 k4
  have b4 := F4.binds (ps := ["_law_found", "_law_due"]) fun _ _ _ _ _ _ us hl => match us, hl with | [_, _], _ => rfl
  have F5 := fun_mk (st := s__law_wish) l5 c5 k5
  have b5 := F5.binds (ps := ["_law_cell"]) fun _ _ _ _ _ _ us hl => match us, hl with | [_], _ => rfl
  have F6 := fun_mk (st := s__law_keys) l6 c6 k6
  have b6 := F6.binds (ps := ["_law_cell"]) fun _ _ _ _ _ _ us hl => match us, hl with | [_], _ => rfl
  have F7 := fun_mk (st := s__law_done) l7 c7 k7
  have b7 := F7.binds (ps := ["_law_amount", "_law_wish_here"]) fun _ _ _ _ _ _ us hl => match us, hl with | [_, _], _ => rfl
  have F8 := fun_mk (st := s_law) l8 c8 k8
  have b8 := F8.binds (ps := ["_law_script"]) fun _ _ _ _ _ _ us hl => match us, hl with | [_], _ => rfl
  exact ⟨⟨f1, PySem.W.fnOf "done" "done" (defArgs s_done) (defBody s_done) (defScope s_done) .none kV1 dc1 pm1 an1 cd1 ct1, f2, PySem.W.fnOf "played" "played" (defArgs s_played) (defBody s_played) (defScope s_played) .none kV2 dc2 pm2 an2 cd2 ct2, f3, PySem.W.fnOf "_law_cell_at" "_law_cell_at" (defArgs s__law_cell_at) (defBody s__law_cell_at) (defScope s__law_cell_at) .none kV3 dc3 pm3 an3 cd3 ct3, f4, PySem.W.fnOf "_law_alike" "_law_alike" (defArgs s__law_alike) (defBody s__law_alike) (defScope s__law_alike) .none kV4 dc4 pm4 an4 cd4 ct4, f5, PySem.W.fnOf "_law_wish" "_law_wish" (defArgs s__law_wish) (defBody s__law_wish) (defScope s__law_wish) .none kV5 dc5 pm5 an5 cd5 ct5, f6, PySem.W.fnOf "_law_keys" "_law_keys" (defArgs s__law_keys) (defBody s__law_keys) (defScope s__law_keys) .none kV6 dc6 pm6 an6 cd6 ct6, f7, PySem.W.fnOf "_law_done" "_law_done" (defArgs s__law_done) (defBody s__law_done) (defScope s__law_done) .none kV7 dc7 pm7 an7 cd7 ct7, f8, PySem.W.fnOf "law" "law" (defArgs s_law) (defBody s_law) (defScope s_law) .none kV8 dc8 pm8 an8 cd8 ct8⟩, ⟨F1, b1, PySem.W.mg_of X G a1, F2, b2, PySem.W.mg_of X G a2, F3, b3, PySem.W.mg_of X G a3, F4, b4, PySem.W.mg_of X G a4, F5, b5, PySem.W.mg_of X G a5, F6, b6, PySem.W.mg_of X G a6, F7, b7, PySem.W.mg_of X G a7, F8, b8, PySem.W.mg_of X G a8, PySem.W.mg_none_of X G z_all, PySem.W.mg_none_of X G z_bool, PySem.W.mg_none_of X G z_int, PySem.W.mg_none_of X G z_isinstance, PySem.W.mg_none_of X G z_len, PySem.W.mg_none_of X G z_list, PySem.W.mg_none_of X G z_range, PySem.W.mg_none_of X G z_str, PySem.W.mg_none_of X G z_tuple⟩, rfl, fun s v => .of_eq rfl⟩
end L
namespace L
open PySem L2 Wk
open PyProof.Rows
section
local macro_rules | `(tactic| walk_at "kit") => `(tactic| first | exact kit_NoneType_list | exact kit_NoneType_tuple | exact kit_NoneType_str | exact kit_NoneType_int | exact kit_NoneType_bool | exact kit_NoneType_dict | exact kit_bool_list | exact kit_bool_tuple | exact kit_bool_str | exact kit_bool_int | exact kit_bool_bool | exact kit_bool_dict | exact kit_int_list | exact kit_int_tuple | exact kit_int_str | exact kit_int_int | exact kit_int_bool | exact kit_int_dict | exact kit_str_list | exact kit_str_tuple | exact kit_str_str | exact kit_str_int | exact kit_str_bool | exact kit_str_dict | exact kit_list_list | exact kit_list_tuple | exact kit_list_str | exact kit_list_int | exact kit_list_bool | exact kit_list_dict | exact kit_tuple_list | exact kit_tuple_tuple | exact kit_tuple_str | exact kit_tuple_int | exact kit_tuple_bool | exact kit_tuple_dict | exact kit_dict_list | exact kit_dict_tuple | exact kit_dict_str | exact kit_dict_int | exact kit_dict_bool | exact kit_dict_dict)
local macro_rules | `(tactic| walk_at "bin") => `(tactic| first
  | exact .add _ _ | exact .sub _ _ | exact .mul _ _ (.inr ⟨by decide, by decide⟩) | exact .mul _ _ (.inl ⟨by decide, by decide⟩) | exact .fdiv _ _ ⟨by decide, by decide⟩ | exact .mod _ _ (by decide) | exact .mod _ _ (by omega)
  | exact .pow _ _ ⟨by decide, by decide, by decide⟩)
local macro_rules | `(tactic| walk_at "cmp") => `(tactic| first
  | exact .eqI _ _ | exact .neI _ _ | exact .eqS _ _ | exact .neS _ _ | exact .eqB _ _ | exact .neB _ _ | exact .lt _ _ | exact .le _ _ | exact .gt _ _ | exact .ge _ _ | exact .isN _ _ (by simp) | exact .notN _ _ (by simp))
local macro_rules | `(tactic| walk_at "idx") => `(tactic| first | assumption | exact .tup _ _ _ rfl | exact .lst _ _ _ rfl | exact .lst _ _ _ (by assumption) | exact .tup _ _ _ (by assumption))
local macro_rules | `(tactic| walk_at "kind") => `(tactic| first | exact .int _ | exact .str _ | exact .lst _ | exact .tup _ | exact .non | exact .bl _ | assumption)
local macro_rules | `(tactic| walk_at "es") => `(tactic| first
  | assumption
  | exact es_int _ | exact es_str _ | exact es_bl _ | exact es_non | exact es_var rfl | exact es_at _
  | (refine' es_bin (op := _) ?e1 ?e2 ?e3 ?e4; (case e1 => walk_at "ep"); (case e2 => walk_at "ep"); (case e3 => walk_at "bin"); (case e4 => rfl))
  | (refine' es_cmp ?e1 ?e2 ?e3; (case e1 => walk_at "ep"); (case e2 => walk_at "ep"); (case e3 => walk_at "cmp"))
  | (refine' es_idx ?e1 ?e2 ?e3 ?e4; (case e1 => walk_at "ep"); (case e2 => walk_at "ep"); (case e3 => walk_at "idx"); (case e4 => first | rfl | assumption))
  | (refine' es_tupD ?e1 ?e3; (case e1 => walk_at "ead"); (case e3 => exact Nat.le_of_ble_eq_true rfl))
  | (refine' es_lstD ?e1 ?e3; (case e1 => walk_at "ead"); (case e3 => exact Nat.le_of_ble_eq_true rfl))
  | (refine' es_lstF ?e1 ?e3; (case e1 => walk_at "ead"); (case e3 => exact Nat.le_of_ble_eq_true rfl))
  | (refine' es_len ?e1 ?e2; (case e1 => walk_at "ep"); (case e2 => first | exact .lst _ | exact .tup _ | exact .str _ (by assumption)))
  | (refine' es_isi ?e1 ?e2 ?e3 ?e4; (case e1 => walk_at "ep"); (case e2 => exact es_at _); (case e3 => walk_at "kind"); (case e4 => walk_at "kit"))
  | (refine' es_isi2 ?e1 ?e2 ?e3 ?e4 ?e5 ?e6; (case e1 => walk_at "ep"); (case e2 => exact es_at _); (case e3 => exact es_at _); (case e4 => walk_at "kind"); (case e5 => walk_at "kit"); (case e6 => walk_at "kit"))
  | (refine' es_notV ?e1; (case e1 => walk_at "es"))
  | (refine' es_neg ?e1; (case e1 => walk_at "es"))
  | (refine' es_andV ?e1 ?e2; (case e1 => walk_at "es"); (case e2 => intro _; walk_at "es"))
  | (refine' es_orV ?e1 ?e2; (case e1 => walk_at "es"); (case e2 => intro _; walk_at "es"))
  | exact es_dct)
local macro_rules | `(tactic| walk_at "ep") => `(tactic| first | exact ep_own rfl | (refine' ep_idx ?e1 ?e2 ?e3; (case e1 => walk_at "ep"); (case e2 => walk_at "ep"); (case e3 => walk_at "idx")) | (refine' ep_of ?e1; (case e1 => walk_at "es")))
local macro_rules | `(tactic| walk_at "ea") => `(tactic| first | exact ea_nil | (refine' ea_cons ?e1 ?e2; (case e1 => walk_at "es"); (case e2 => walk_at "ea")))
local macro_rules | `(tactic| walk_at "ead") => `(tactic| first | exact ead_nil | (refine' ead_cons ?e1 ?e2; (case e1 => walk_at "es"); (case e2 => walk_at "ead")))
local macro_rules | `(tactic| walk_at "eh") => `(tactic| first | exact eh_nil | (refine' eh_cons ?e1 ?e2; (case e1 => walk_at "ep"); (case e2 => walk_at "eh")))
local macro_rules | `(tactic| walk_at "et") => `(tactic| first
  | (refine' et_test ?e1; (case e1 => walk_at "es"))
  | (refine' et_B ?e1; (case e1 => walk_at "es"))
  | (refine' et_not ?e1; (case e1 => walk_at "et"))
  | (refine' et_or ?e1 ?e2; (case e1 => walk_at "et"); (case e2 => intro _; walk_at "et"))
  | (refine' et_and ?e1 ?e2; (case e1 => walk_at "et"); (case e2 => intro _; walk_at "et")))
local macro_rules | `(tactic| walk_at "yes") => `(tactic| (refine' sx_ifY ?x1 ?x2 ?h1; (case x1 => walk_at "et"); (case x2 => first | rfl | decide | simp)))
local macro_rules | `(tactic| walk_at "no") => `(tactic| (refine' sx_ifN ?x1 ?x2 ?h1; (case x1 => walk_at "et"); (case x2 => first | rfl | decide | simp)))
local macro_rules | `(tactic| walk_at "ret") => `(tactic| first | (refine' sx_ret ?x1; (case x1 => walk_at "es")) | (refine' sx_retS ?x1; (case x1 => walk_at "es")))
local macro_rules | `(tactic| walk_at "tg") => `(tactic| first | exact tg_name | exact tg_tup (tgs_cons tg_name (tgs_cons tg_name tgs_nil)) rfl | exact tg_tup (tgs_cons tg_name (tgs_cons tg_name (tgs_cons tg_name tgs_nil))) rfl | exact tg_tup (tgs_cons tg_name (tgs_cons tg_name (tgs_cons tg_name (tgs_cons tg_name tgs_nil)))) rfl)
local macro_rules | `(tactic| walk_at "set") => `(tactic| first
  | (refine' sx_seq (sx_asg ?x1) ?h1; (case x1 => walk_at "es"))
  | (refine' sx_seq (sx_asgT ?x1 ?x2) ?h1; (case x1 => walk_at "es"); (case x2 => walk_at "tg")))

/-- a wish as data -/
inductive Wish where
  | get | set (n : Int) | add (n : Int)
def Wish.d : Wish → PyData
  | .get => .tuple [.str "get"]
  | .set n => .tuple [.str "set", .int n]
  | .add n => .tuple [.str "add", .int n]
def Wish.done : Wish → Int → Int × Int
  | .get, a => (a, a)
  | .set n, a => (n, a)
  | .add n, a => (a + n, a + n)
def R_done (ss : List Sl) (s : Sl) : Prop := ∃ (a : Int) (w : Wish), ss = [.py (.int a), .py w.d] ∧ s = .py (.tuple [.int (w.done a).1, .int (w.done a).2])
theorem no2 {a b : PyData} : ∀ x ∈ [Sl.py a, Sl.py b], x.isOwn = false := fun x hx => by
  simp only [List.mem_cons, List.not_mem_nil, or_false] at hx
  rcases hx with rfl | rfl <;> rfl
theorem no1 {a : PyData} : ∀ x ∈ [Sl.py a], x.isOwn = false := fun x hx => by
  simp only [List.mem_cons, List.not_mem_nil, or_false] at hx
  subst hx
  rfl
variable {P : Program} {w : World} {K : PySem.W.Frag} {mg : Str → Option Value} {base : Heap} {A : Adr}
theorem ok_done (T : Txt K mg A) : FnOk P w K mg base CX0 1 A.f_done A.d_done ["amount", "wish"] (PSp K R_done) := by
  refine pure_ok T.F_done sc_done (fun ss s ⟨_, _, e, _⟩ => by rw [e]; rfl) (fun ss s ⟨_, _, e, _⟩ => by rw [e]; exact no2) (by decide) (fun cdv A outer s H E hr => ?_)
  have hu := hr.units
  refine ⟨_, (pss_cons (ps_if (pt_cmpR (cmp_ K _ hu) (pe_ix (idx_ K) (pv 1) pe_int (fun _ _ => rfl)) pe_str (nomark _)) (pss_one (ps_ret (pe_tup (pa_cons (pv 0) (pa_cons (pv 0) pa_nil))))) pss_nil)
    (pss_cons (ps_asg (pv 1) (pg_tup (by rfl) (pgs_cons (pg_name (i := 2) sc_done.nd rfl (Or.inl rfl)) (pgs_cons (pg_name (i := 3) sc_done.nd rfl (Or.inl rfl)) pgs_nil))))
    (pss_cons (ps_if (pt_cmpR (cmp_ K _ hu) (pv 2) pe_str (nomark _)) (pss_one (ps_ret (pe_tup (pa_cons (pv 3) (pa_cons (pv 0) pa_nil))))) pss_nil)
    (pss_one (ps_ret (pe_tup (pa_cons (pe_op (bin_ K _) (pv 0) (pv 3)) (pa_cons (pe_op (bin_ K _) (pv 0) (pv 3)) pa_nil)))))))), fun ss r hR => .inl ?_⟩
  obtain ⟨a, w, rfl, rfl⟩ := hR
  cases w with
  | get => walk_at "yes"; walk_at "ret"
  | set n =>
    walk_at "no"
    refine' sx_seq (sx_asgT (d := (Wish.set n).d) ?x1 ?x2) ?h1
    (case x1 => walk_at "es")
    (case x2 => walk_at "tg")
    (case h1 => walk_at "yes"; walk_at "ret")
  | add n =>
    walk_at "no"
    refine' sx_seq (sx_asgT (d := (Wish.add n).d) ?x1 ?x2) ?h1
    (case x1 => walk_at "es")
    (case x2 => walk_at "tg")
    (case h1 => walk_at "no"; walk_at "ret")
/-! the law's own reader of a cell -/
def cellAt (ns : List Int) (k : Nat) : Int := (ns[k]?).getD 0
def R_cell (ss : List Sl) (s : Sl) : Prop := ∃ (ns : List Int) (k : Nat), ss = [.py (.list (ns.map PyData.int)), .py (.int k)] ∧ s = .py (.int (cellAt ns k))
theorem ok__law_cell_at (T : Txt K mg A) : FnOk P w K mg base CX0 1 A.f__law_cell_at A.d__law_cell_at ["_law_script", "_law_k"] (PSp K R_cell) := by
  refine pure_ok T.F__law_cell_at sc__law_cell_at (fun ss s ⟨_, _, e, _⟩ => by rw [e]; rfl) (fun ss s ⟨_, _, e, _⟩ => by rw [e]; exact no2) (by decide) (fun cdv A outer s H E hr => ?_)
  have hu := hr.units
  refine ⟨_, (pss_cons (ps_if (pt_cmpR (cmp_ K _ hu) (pv 1) (pe_callB (len_ K) (by rfl) T.b_len (by decide +kernel) (pa_cons (pv 0) pa_nil)) (nomark _)) (pss_one (ps_ret (pe_ix (idx_ K) (pv 0) (pv 1) (fun _ _ => rfl)))) pss_nil)
    (pss_one (ps_ret pe_int))), fun ss r hR => .inl ?_⟩
  obtain ⟨ns, k, rfl, rfl⟩ := hR
  refine' sx_ifs ?x (fun h => sx_stop (sx_ret ?y) rfl) (fun h => sx_skip (sx_ret ?z))
  (case x => walk_at "et")
  (case y =>
    have h := of_decide_eq_true h
    rw [List.length_map] at h
    have hk : k < ns.length := by omega
    have e : ns[k]? = some ns[k] := List.getElem?_eq_getElem hk
    have hi : Idx (.list (ns.map PyData.int)) (.int k) (.int (cellAt ns k)) := .lst _ _ _ (atI_nat (by rw [List.getElem?_map, e]; simp [cellAt, e]))
    walk_at "es")
  (case z =>
    have h := of_decide_eq_false h
    rw [List.length_map] at h
    have e : ns[k]? = none := List.getElem?_eq_none (by omega)
    have : cellAt ns k = 0 := by simp [cellAt, e]
    rw [this]
    walk_at "es")

/-! the law's wish -/
def wishOf (c : Int) : Wish :=
  let n := if c / 3 % 2 = 1 then c / 6 % (2 * 10 ^ 30 + 1) - 10 ^ 30 else c / 6 % 7 - 3
  if c % 3 = 0 then .get else if c % 3 = 1 then .set n else .add n
def R_wish (ss : List Sl) (s : Sl) : Prop := ∃ c : Int, ss = [.py (.int c)] ∧ s = .py (wishOf c).d
theorem noList_wish (w : Wish) : noList w.d = true := by cases w <;> rfl
theorem pick3 {c : Int} {n : Int} : Idx (.list [.tuple [.str "get"], .tuple [.str "set", .int n], .tuple [.str "add", .int n]]) (.int (c % 3)) (if c % 3 = 0 then Wish.get else if c % 3 = 1 then .set n else .add n).d := by
  have h : c % 3 = 0 ∨ c % 3 = 1 ∨ c % 3 = 2 := by omega
  rcases h with h | h | h <;> rw [h] <;> exact .lst _ _ _ rfl
theorem ok__law_wish (T : Txt K mg A) : FnOk P w K mg base CX0 1 A.f__law_wish A.d__law_wish ["_law_cell"] (PSp K R_wish) := by
  refine pure_ok T.F__law_wish sc__law_wish (fun ss s ⟨_, e, _⟩ => by rw [e]; rfl) (fun ss s ⟨_, e, _⟩ => by rw [e]; exact no1) (by decide) (fun cdv A outer s H E hr => ?_)
  have hu := hr.units
  refine ⟨_, (pss_cons (ps_set (i := 1) sc__law_wish.nd rfl (Or.inl rfl) (pe_op (bin_ K _) (pe_op (bin_ K _) (pe_op (bin_ K _) (pv 0) pe_int) pe_int) pe_int))
    (pss_cons (ps_if (pt_cmpR (cmp_ K _ hu) (pe_op (bin_ K _) (pe_op (bin_ K _) (pv 0) pe_int) pe_int) pe_int (nomark _)) (pss_one (ps_set (i := 1) sc__law_wish.nd rfl (Or.inl rfl) (pe_op (bin_ K _) (pe_op (bin_ K _) (pe_op (bin_ K _) (pv 0) pe_int) (pe_op (bin_ K _) (pe_op (bin_ K _) pe_int (pe_op (bin_ K _) pe_int pe_int)) pe_int)) (pe_op (bin_ K _) pe_int pe_int)))) pss_nil)
    (pss_one (ps_ret (pe_ix (idx_ K) (pe_lst (pa_cons (pe_tup (pa_cons pe_str pa_nil)) (pa_cons (pe_tup (pa_cons pe_str (pa_cons (pv 1) pa_nil))) (pa_cons (pe_tup (pa_cons pe_str (pa_cons (pv 1) pa_nil))) pa_nil)))) (pe_op (bin_ K _) (pv 0) pe_int) (fun _ _ => rfl)))))), fun ss r hR => .inl ?_⟩
  obtain ⟨c, rfl, rfl⟩ := hR
  walk_at "set"
  have hn := noList_wish (wishOf c)
  have e3 : ((10 : Int) ^ (30 : Int).toNat) = 10 ^ 30 := rfl
  refine' sx_ifs ?x ?y ?z
  (case x => walk_at "et")
  (case y =>
    intro h
    have h := of_decide_eq_true h
    walk_at "set"
    have hp : Idx (.list [.tuple [.str "get"], .tuple [.str "set", .int (c / 6 % (2 * 10 ^ 30 + 1) - 10 ^ 30)], .tuple [.str "add", .int (c / 6 % (2 * 10 ^ 30 + 1) - 10 ^ 30)]]) (.int (c % 3)) (wishOf c).d := by
      have := pick3 (c := c) (n := c / 6 % (2 * 10 ^ 30 + 1) - 10 ^ 30)
      unfold wishOf
      rw [if_pos h]
      exact this
    walk_at "ret")
  (case z =>
    intro h
    have h := of_decide_eq_false h
    refine sx_skip ?_
    have hp : Idx (.list [.tuple [.str "get"], .tuple [.str "set", .int (c / 6 % 7 - 3)], .tuple [.str "add", .int (c / 6 % 7 - 3)]]) (.int (c % 3)) (wishOf c).d := by
      have := pick3 (c := c) (n := c / 6 % 7 - 3)
      unfold wishOf
      rw [if_neg h]
      exact this
    walk_at "ret")
def R_ldone (ss : List Sl) (s : Sl) : Prop := ∃ (a : Int) (w : Wish), ss = [.py (.int a), .py w.d] ∧ s = .py (.tuple [.int (w.done a).1, .int (w.done a).2])
theorem ok__law_done (T : Txt K mg A) : FnOk P w K mg base CX0 1 A.f__law_done A.d__law_done ["_law_amount", "_law_wish_here"] (PSp K R_done) := by
  refine pure_ok T.F__law_done sc__law_done (fun ss s ⟨_, _, e, _⟩ => by rw [e]; rfl) (fun ss s ⟨_, _, e, _⟩ => by rw [e]; exact no2) (by decide) (fun cdv A outer s H E hr => ?_)
  have hu := hr.units
  refine ⟨_, (pss_cons (ps_if (pt_cmpR (cmp_ K _ hu) (pe_ix (idx_ K) (pv 1) pe_int (fun _ _ => rfl)) pe_str (nomark _)) (pss_one (ps_ret (pe_tup (pa_cons (pv 0) (pa_cons (pv 0) pa_nil))))) pss_nil)
    (pss_cons (ps_if (pt_cmpR (cmp_ K _ hu) (pe_ix (idx_ K) (pv 1) pe_int (fun _ _ => rfl)) pe_str (nomark _)) (pss_one (ps_ret (pe_tup (pa_cons (pe_ix (idx_ K) (pv 1) pe_int (fun _ _ => rfl)) (pa_cons (pv 0) pa_nil))))) pss_nil)
    (pss_one (ps_ret (pe_tup (pa_cons (pe_op (bin_ K _) (pv 0) (pe_ix (idx_ K) (pv 1) pe_int (fun _ _ => rfl))) (pa_cons (pe_op (bin_ K _) (pv 0) (pe_ix (idx_ K) (pv 1) pe_int (fun _ _ => rfl))) pa_nil))))))), fun ss r hR => .inl ?_⟩
  obtain ⟨a, w, rfl, rfl⟩ := hR
  cases w with
  | get => walk_at "yes"; walk_at "ret"
  | set n => walk_at "no"; walk_at "yes"; walk_at "ret"
  | add n => walk_at "no"; walk_at "no"; walk_at "ret"
/-! alike: of equal data -/
mutual
def plain : Nat → PyData → Bool
  | _, .int _ => true
  | _, .str x => PyData.strOk x
  | n + 1, .list ds => decide (ds.length ≤ 1000) && plains n ds
  | n + 1, .tuple ds => decide (ds.length ≤ 1000) && plains n ds
  | _, _ => false
def plains : Nat → List PyData → Bool
  | _, [] => true
  | n, d :: ds => plain n d && plains n ds
end
theorem plains_mem {n : Nat} : ∀ {ds : List PyData} {d : PyData}, plains n ds = true → d ∈ ds → plain n d = true
  | a :: l, d, h, m => by
    simp only [plains, Bool.and_eq_true] at h
    rcases List.mem_cons.mp m with e | m
    · rw [e]; exact h.1
    · exact plains_mem h.2 m
theorem plains_of {n : Nat} : ∀ {ds : List PyData}, (∀ d ∈ ds, plain n d = true) → plains n ds = true
  | [], _ => by simp [plains]
  | a :: l, h => by simp only [plains, Bool.and_eq_true]; exact ⟨h a (by simp), plains_of fun d hd => h d (by simp [hd])⟩
def R_alike (n : Nat) (ss : List Sl) (s : Sl) : Prop := ∃ d, plain n d = true ∧ ss = [.py d, .py d] ∧ s = .py (.bool true)
theorem all_true (n : Nat) : (((List.range n).map fun _ => true).all id) = true := by simp
theorem alike_items {n : Nat} {ds : List PyData} (h : plains n ds = true) {i : Nat} (hi : i < ds.length) : ∃ d, plain n d = true ∧ atI ds (i : Int) = some d := by
  have e : ds[i]? = some ds[i] := List.getElem?_eq_getElem hi
  exact ⟨ds[i], plains_mem h (List.getElem_mem hi), atI_nat e⟩
def R_alike' : Nat → List Sl → Sl → Prop
  | 0 => fun _ _ => False
  | n + 1 => R_alike n
theorem no_alike {f : Addr} {fd : FuncData} : FnOk P w K mg base CX0 0 f fd ["_law_found", "_law_due"] (PSp K (R_alike' 0)) :=
  ⟨fun vs H Q E h => by obtain ⟨_, _, _, z, _⟩ := h; exact z.elim, fun A outer s H args us vs Q E _ _ _ _ h => by obtain ⟨_, _, _, z, _⟩ := h; exact z.elim⟩
theorem range_int (m : Nat) : ((m : Int)).toNat = m := Int.toNat_natCast m
theorem trues (m : Nat) : (List.range m).map (fun _ => PyData.bool true) = ((List.range m).map fun _ => true).map PyData.bool := by simp
theorem alike_turn {n : Nat} (T : Txt K mg A) (G__law_alike : FnOk P w K mg base CX0 n A.f__law_alike A.d__law_alike ["_law_found", "_law_due"] (PSp K (R_alike' n))) : FnOk P w K mg base CX0 (n + 1) A.f__law_alike A.d__law_alike ["_law_found", "_law_due"] (PSp K (R_alike n)) := by
  refine pure_ok T.F__law_alike sc__law_alike (fun ss s ⟨_, _, e, _⟩ => by rw [e]; rfl) (fun ss s ⟨_, _, e, _⟩ => by rw [e]; exact no2) (by decide) (fun cdv A outer s H E hr => ?_)
  have hu := hr.units
  refine ⟨_, (pss_cons (ps_if (pt_val (pe_callB (isi2_ K) (by rfl) T.b_isinstance (by decide +kernel) (pa_cons (pv 1) (pa_cons (pe_tup (pa_cons (pe_bltn (v := .ty "list") (by rfl) T.b_list (by decide +kernel) rfl) (pa_cons (pe_bltn (v := .ty "tuple") (by rfl) T.b_tuple (by decide +kernel) rfl) pa_nil))) pa_nil)))) (pss_cons (ps_if (PW.pt (pw_or (pt_cmpR (cmp_ K _ hu) (pe_callB (isi_ K) (by rfl) T.b_isinstance (by decide +kernel) (pa_cons (pv 1) (pa_cons (pe_bltn (v := .ty "list") (by rfl) T.b_list (by decide +kernel) rfl) pa_nil))) (pe_callB (isi_ K) (by rfl) T.b_isinstance (by decide +kernel) (pa_cons (pv 0) (pa_cons (pe_bltn (v := .ty "list") (by rfl) T.b_list (by decide +kernel) rfl) pa_nil))) (nomark _)) (pw_or1 (pt_cmpR (cmp_ K _ hu) (pe_callB (isi_ K) (by rfl) T.b_isinstance (by decide +kernel) (pa_cons (pv 1) (pa_cons (pe_bltn (v := .ty "tuple") (by rfl) T.b_tuple (by decide +kernel) rfl) pa_nil))) (pe_callB (isi_ K) (by rfl) T.b_isinstance (by decide +kernel) (pa_cons (pv 0) (pa_cons (pe_bltn (v := .ty "tuple") (by rfl) T.b_tuple (by decide +kernel) rfl) pa_nil))) (nomark _))))) (pss_one (ps_ret pe_bl)) pss_nil)
    (pss_cons (ps_if (pt_cmpR (cmp_ K _ hu) (pe_callB (len_ K) (by rfl) T.b_len (by decide +kernel) (pa_cons (pv 0) pa_nil)) (pe_callB (len_ K) (by rfl) T.b_len (by decide +kernel) (pa_cons (pv 1) pa_nil)) (nomark _)) (pss_one (ps_ret pe_bl)) pss_nil)
    (pss_one (ps_ret (pe_callB (cr_all rfl) (by rfl) T.b_all (by decide +kernel) (pa_cons (pe_lc (own := [("_law_k", 2)]) (g := gName 2) (tt := tYes) rfl sc__law_alike.nd (pi_range1 (by rfl) T.b_range (pa_cons (pe_callB (len_ K) (by rfl) T.b_len (by decide +kernel) (pa_cons (pv 1) pa_nil)) pa_nil)) (blkOk_by (N := ["_law_found", "_law_due", "_law_k"]) (sc := defScope s__law_alike) (by decide +kernel)) (fun _ _ _ _ _ => (pg_name (i := 2) sc__law_alike.nd rfl (Or.inl rfl))) (fun _ _ _ _ _ => pts_nil) (fun _ _ _ _ _ => (pe_call (G__law_alike) hr (by rfl) T.m__law_alike T.F__law_alike.kp T.B__law_alike .nil pass0 (pa_cons (pe_ix (idx_ K) (pv 0) (pv 2) (fun _ _ => rfl)) (pa_cons (pe_ix (idx_ K) (pv 1) (pv 2) (fun _ _ => rfl)) pa_nil))))) pa_nil)))))) pss_nil)
    (pss_cons (ps_if (pt_val (pe_callB (isi_ K) (by rfl) T.b_isinstance (by decide +kernel) (pa_cons (pv 1) (pa_cons (pe_bltn (v := .ty "str") (by rfl) T.b_str (by decide +kernel) rfl) pa_nil)))) (pss_one (ps_ret (pe_and (pe_callB (isi_ K) (by rfl) T.b_isinstance (by decide +kernel) (pa_cons (pv 0) (pa_cons (pe_bltn (v := .ty "str") (by rfl) T.b_str (by decide +kernel) rfl) pa_nil))) (pe_one (pe_cmpR (cmp_ K _ hu) (pv 0) (pv 1) (nomark _)))))) pss_nil)
    (pss_one (ps_ret (pe_and (pe_callB (isi_ K) (by rfl) T.b_isinstance (by decide +kernel) (pa_cons (pv 0) (pa_cons (pe_bltn (v := .ty "int") (by rfl) T.b_int (by decide +kernel) rfl) pa_nil))) (pe_and (pe_not (pe_callB (isi_ K) (by rfl) T.b_isinstance (by decide +kernel) (pa_cons (pv 0) (pa_cons (pe_bltn (v := .ty "bool") (by rfl) T.b_bool (by decide +kernel) rfl) pa_nil)))) (pe_one (pe_cmpR (cmp_ K _ hu) (pv 0) (pv 1) (nomark _))))))))), fun ss r hR => .inl ?_⟩
  obtain ⟨d, hp, rfl, rfl⟩ := hR
  cases d with
  | none => simp [plain] at hp
  | bool b => simp [plain] at hp
  | dict l => simp [plain] at hp
  | int i =>
    walk_at "no"
    walk_at "no"
    refine' sx_ret (Es.is ?x ?y)
    (case x => walk_at "es")
    (case y => simp)
  | str i =>
    walk_at "no"
    walk_at "yes"
    refine' sx_retS (Es.is ?x ?y)
    (case x => walk_at "es")
    (case y => simp)
  | list ds =>
    cases n with
    | zero => simp [plain] at hp
    | succ n =>
      simp only [plain, Bool.and_eq_true, decide_eq_true_eq] at hp
      walk_at "yes"
      refine sx_stop ?_ rfl
      walk_at "no"
      walk_at "no"
      refine' sx_ret (Es.is (es_all (bs := (List.range ds.length).map fun _ => true) (es_freeze (Es.is (es_lcR (fun _ => PyData.bool true) ?a ?b ?c) ?d))) ?e)
      (case a => exact ea_cons (by walk_at "es") ea_nil)
      (case b => omega)
      (case c =>
        intro i hi
        obtain ⟨x, hx, ha⟩ := alike_items hp.2 (i := i) (by omega)
        refine' es_call (R := R_alike n) (ss := [.py x, .py x]) ?a ⟨x, hx, rfl, rfl⟩ rfl
        (case a =>
          have h1 : Idx (.list ds) (.int i) x := .lst _ _ _ ha
          walk_at "eh"))
      (case d => rw [range_int, trues])
      (case e => rw [all_true])
  | tuple ds =>
    cases n with
    | zero => simp [plain] at hp
    | succ n =>
      simp only [plain, Bool.and_eq_true, decide_eq_true_eq] at hp
      walk_at "yes"
      refine sx_stop ?_ rfl
      walk_at "no"
      walk_at "no"
      refine' sx_ret (Es.is (es_all (bs := (List.range ds.length).map fun _ => true) (es_freeze (Es.is (es_lcR (fun _ => PyData.bool true) ?a ?b ?c) ?d))) ?e)
      (case a => exact ea_cons (by walk_at "es") ea_nil)
      (case b => omega)
      (case c =>
        intro i hi
        obtain ⟨x, hx, ha⟩ := alike_items hp.2 (i := i) (by omega)
        refine' es_call (R := R_alike n) (ss := [.py x, .py x]) ?a ⟨x, hx, rfl, rfl⟩ rfl
        (case a =>
          have h1 : Idx (.tuple ds) (.int i) x := .tup _ _ _ ha
          walk_at "eh"))
      (case d => rw [range_int, trues])
      (case e => rw [all_true])
theorem ok__law_alike (T : Txt K mg A) : ∀ n : Nat, FnOk P w K mg base CX0 (n + 1) A.f__law_alike A.d__law_alike ["_law_found", "_law_due"] (PSp K (R_alike n))
  | 0 => alike_turn T no_alike
  | n + 1 => alike_turn T (ok__law_alike T n)

open SX (S S_len join_S)
/-! the law's keys -/
theorem lit_letters : (("abcdefghijklmnopqrstuvwxyz" : Str)) = S ((List.range 26).map (97 + ·)) := by decide +kernel
theorem lit_empty : (("" : Str)) = S [] := by decide +kernel
theorem lit_q : (("qwertyui" : Str)) = S [113, 119, 101, 114, 116, 121, 117, 105] := by decide +kernel
/-- the sign of a number -/
def sign (i : Int) : Nat := 97 + (i % 26).toNat
theorem letter_at (i : Int) : Idx (.str ("abcdefghijklmnopqrstuvwxyz" : Str)) (.int (i % 26)) (.str (S [sign i])) := by
  have h1 : 0 ≤ i % 26 := Int.emod_nonneg _ (by decide)
  have h2 : i % 26 < 26 := Int.emod_lt_of_pos _ (by decide)
  refine .str _ _ (sign i) ⟨by rw [lit_letters, S_len]; decide +kernel, ?_⟩
  rw [lit_letters]
  have e : i % 26 = (((i % 26).toNat : Nat) : Int) := by omega
  rw [e]
  refine atI_nat ?_
  show ((List.range 26).map (97 + ·))[(i % 26).toNat]? = some (sign i)
  rw [List.getElem?_map, List.getElem?_range (by omega)]
  rfl
theorem joinL_ones : ∀ l : List Nat, TL.joinL [] (l.map fun c => [c]) = l
  | [] => rfl
  | [_] => rfl
  | a :: b :: r => by
    have := joinL_ones (b :: r)
    simp only [List.map_cons, TL.joinL] at this ⊢
    rw [this]; rfl
theorem join_ones (l : List Nat) : Txt.join ("" : Str) ((l.map fun c => [c]).map S) = S l := by
  rw [lit_empty, join_S, joinL_ones]
theorem cut_to (l : List Nat) (k : Nat) : cutS (S l) none (some (k : Int)) = S (l.take k) := by
  unfold cutS
  rw [HT.sIx_none, HT.sIx_nat, S_len]
  simp only [Nat.sub_zero, List.drop_zero]
  rw [← List.take_eq_take_min]
theorem cut_from (l : List Nat) (k : Nat) : cutS (S l) (some (k : Int)) none = S (l.drop k) := by
  unfold cutS
  rw [HT.sIx_none, HT.sIx_nat, S_len]
  show (⟨((l.drop (min k l.length)).take (l.length - min k l.length)).toArray⟩ : Str) = ⟨(l.drop k).toArray⟩
  rw [List.take_of_length_le (by rw [List.length_drop]; omega)]
  by_cases h : k ≤ l.length
  · rw [Nat.min_eq_left h]
  · rw [Nat.min_eq_right (by omega), List.drop_length, List.drop_eq_nil_of_le (by omega)]
def restL (c : Int) : List Nat := (List.range (c / 6 % 8).toNat).map fun (k : Nat) => sign (c / 432 / 26 + 5 * (k : Int))
def keysL (c : Int) : List (List Nat) :=
  if c / 432 % 3 = 1 then (List.range (1 + c % 6).toNat).map fun k => (restL c ++ [113, 119, 101, 114, 116, 121, 117, 105]).take (k + 1)
  else (List.range (1 + c % 6).toNat).map fun (k : Nat) => (restL c).take (c / 48 % (c / 6 % 8 + 1)).toNat ++ [sign (c / 432 + (k : Int))] ++ (restL c).drop (c / 48 % (c / 6 % 8 + 1)).toNat
def keysOf (c : Int) : List Str := (keysL c).map S
def R_keys (ss : List Sl) (s : Sl) : Prop := ∃ c : Int, ss = [.py (.int c)] ∧ s = .own ((keysOf c).map PyData.str)
theorem restL_len (c : Int) : (restL c).length ≤ 7 := by
  have h2 : c / 6 % 8 < 8 := Int.emod_lt_of_pos _ (by decide)
  unfold restL
  rw [List.length_map, List.length_range]
  omega
theorem sz (l : List Nat) (h : l.length ≤ 100) : (S l).length ≤ sizeLine := by rw [S_len]; exact Nat.le_trans h (by decide)
theorem map_sum_ones : ∀ l : List Nat, (((l.map fun c => [c]).map S).map (·.length)).sum = l.length
  | [] => rfl
  | a :: l => by
    have := map_sum_ones l
    simp only [List.map_cons, List.sum_cons, List.length_cons, S_len, List.length_nil] at this ⊢
    omega
theorem S_add (a b : List Nat) : S a ++ S b = S (a ++ b) := by
  show (⟨a.toArray ++ b.toArray⟩ : Str) = ⟨(a ++ b).toArray⟩
  rw [List.append_toArray]
theorem ok__law_keys (T : Txt K mg A) : FnOk P w K mg base CX0 1 A.f__law_keys A.d__law_keys ["_law_cell"] (PSp K R_keys) := by
  refine pure_ok T.F__law_keys sc__law_keys (fun ss s ⟨_, e, _⟩ => by rw [e]; rfl) (fun ss s ⟨_, e, _⟩ => by rw [e]; exact no1) (by decide) (fun cdv A outer s H E hr => ?_)
  have hu := hr.units
  refine ⟨_, (pss_cons (ps_set (i := 1) sc__law_keys.nd rfl (Or.inr rfl) pe_str)
    (pss_cons (ps_set (i := 2) sc__law_keys.nd rfl (Or.inl rfl) (pe_op (bin_ K _) pe_int (pe_op (bin_ K _) (pv 0) pe_int)))
    (pss_cons (ps_set (i := 3) sc__law_keys.nd rfl (Or.inl rfl) (pe_op (bin_ K _) (pe_op (bin_ K _) (pv 0) pe_int) pe_int))
    (pss_cons (ps_set (i := 4) sc__law_keys.nd rfl (Or.inr rfl) (pe_op (bin_ K _) (pe_op (bin_ K _) (pv 0) pe_int) (pe_op (bin_ K _) (pv 3) pe_int)))
    (pss_cons (ps_set (i := 5) sc__law_keys.nd rfl (Or.inr rfl) (pe_op (bin_ K _) (pv 0) pe_int))
    (pss_cons (ps_set (i := 6) sc__law_keys.nd rfl (Or.inr rfl) (pe_join pe_str (pe_lc (own := [("_law_k", 7)]) (g := gName 7) (tt := tYes) rfl sc__law_keys.nd (pi_range1 (by rfl) T.b_range (pa_cons (pv 3) pa_nil)) (blkOk_by (N := ["_law_cell", "_law_letters", "_law_many", "_law_size", "_law_at", "_law_turn", "_law_rest", "_law_k"]) (sc := defScope s__law_keys) (by decide +kernel)) (fun _ _ _ _ _ => (pg_name (i := 7) sc__law_keys.nd rfl (Or.inl rfl))) (fun _ _ _ _ _ => pts_nil) (fun _ _ _ _ _ => (pe_ix (idx_ K) (pv 1) (pe_op (bin_ K _) (pe_op (bin_ K _) (pe_op (bin_ K _) (pv 5) pe_int) (pe_op (bin_ K _) pe_int (pv 7))) pe_int) (fun _ _ => rfl))))))
    (pss_cons (ps_if (pt_cmpR (cmp_ K _ hu) (pe_op (bin_ K _) (pv 5) pe_int) pe_int (nomark _)) (pss_one (ps_ret (pe_lc (own := [("_law_k", 7)]) (g := gName 7) (tt := tYes) rfl sc__law_keys.nd (pi_range1 (by rfl) T.b_range (pa_cons (pv 2) pa_nil)) (blkOk_by (N := ["_law_cell", "_law_letters", "_law_many", "_law_size", "_law_at", "_law_turn", "_law_rest", "_law_k"]) (sc := defScope s__law_keys) (by decide +kernel)) (fun _ _ _ _ _ => (pg_name (i := 7) sc__law_keys.nd rfl (Or.inl rfl))) (fun _ _ _ _ _ => pts_nil) (fun _ _ _ _ _ => (pe_slice (slc_ K) (pe_op (bin_ K _) (pv 6) pe_str) po_none (po_some (pe_op (bin_ K _) (pv 7) pe_int))))))) pss_nil)
    (pss_one (ps_ret (pe_lc (own := [("_law_k", 7)]) (g := gName 7) (tt := tYes) rfl sc__law_keys.nd (pi_range1 (by rfl) T.b_range (pa_cons (pv 2) pa_nil)) (blkOk_by (N := ["_law_cell", "_law_letters", "_law_many", "_law_size", "_law_at", "_law_turn", "_law_rest", "_law_k"]) (sc := defScope s__law_keys) (by decide +kernel)) (fun _ _ _ _ _ => (pg_name (i := 7) sc__law_keys.nd rfl (Or.inl rfl))) (fun _ _ _ _ _ => pts_nil) (fun _ _ _ _ _ => (pe_op (bin_ K _) (pe_op (bin_ K _) (pe_slice (slc_ K) (pv 6) po_none (po_some (pv 4))) (pe_ix (idx_ K) (pv 1) (pe_op (bin_ K _) (pe_op (bin_ K _) (pv 5) (pv 7)) pe_int) (fun _ _ => rfl))) (pe_slice (slc_ K) (pv 6) (po_some (pv 4)) po_none))))))))))))), fun ss r hR => .inl ?_⟩
  obtain ⟨c, rfl, rfl⟩ := hR
  have s0 : 0 ≤ c / 6 % 8 := Int.emod_nonneg _ (by decide)
  have s1 : c / 6 % 8 < 8 := Int.emod_lt_of_pos _ (by decide)
  have m0 : 0 ≤ c % 6 := Int.emod_nonneg _ (by decide)
  have m1 : c % 6 < 6 := Int.emod_lt_of_pos _ (by decide)
  have a0 : 0 ≤ c / 48 % (c / 6 % 8 + 1) := Int.emod_nonneg _ (by omega)
  walk_at "set"
  walk_at "set"
  walk_at "set"
  walk_at "set"
  walk_at "set"
  -- the rest's signs
  have rl := restL_len c
  refine' sx_seq (sx_asg (s := .py (.str (S (restL c)))) (Es.is (es_join (z := ("" : Str)) (ys := ((restL c).map fun c => [c]).map S) ?o ?l ?b) ?e)) ?h1
  (case o => walk_at "es")
  (case l =>
    refine' es_freeze (Es.is (es_lcR (fun (k : Nat) => .str (S [sign (c / 432 / 26 + 5 * (k : Int))])) ?a1 ?b1 ?c1) ?d1)
    (case a1 => exact ea_cons (by walk_at "es") ea_nil)
    (case b1 => omega)
    (case c1 =>
      intro i hi
      have h1 := letter_at (c / 432 / 26 + 5 * (i : Int))
      walk_at "es")
    (case d1 =>
      unfold restL
      simp only [List.map_map]
      rfl))
  (case b =>
    rw [map_sum_ones, lit_empty, S_len]
    simp
    omega)
  (case e => rw [join_ones])
  (case h1 =>
    have hs := sz (restL c) (by omega)
    refine' sx_ifs ?x ?y ?z
    (case x => walk_at "et")
    (case y =>
      intro h
      have h := of_decide_eq_true h
      refine' sx_retS (Es.is (es_lcR (fun (k : Nat) => .str (S ((restL c ++ [113, 119, 101, 114, 116, 121, 117, 105]).take (k + 1)))) ?a2 ?b2 ?c2) ?d2)
      (case a2 => exact ea_cons (by walk_at "es") ea_nil)
      (case b2 => omega)
      (case c2 =>
        intro i hi
        refine' es_slcS (z := S (restL c ++ [113, 119, 101, 114, 116, 121, 117, 105])) (lo := none) (hi := some ((i + 1 : Nat) : Int)) ?a eo_none ?b ?c (cut_to _ _)
        (case a =>
          refine ep_of (Es.is (es_bin (r := .str (S (restL c) ++ ("qwertyui" : Str))) (by walk_at "ep") (by walk_at "ep") (.cat _ _ ?_) rfl) ?_)
          · rw [lit_q, S_len, S_len]
            refine Nat.le_trans (m := 100) ?_ (by decide)
            simp
            omega
          · rw [lit_q, S_add])
        (case b => exact eo_some (by walk_at "ep"))
        (case c => exact sz _ (by simp; omega)))
      (case d2 => unfold keysOf keysL; rw [if_pos h]; simp only [List.map_map]; rfl))
    (case z =>
      intro h
      have h := of_decide_eq_false h
      refine sx_skip ?_
      refine' sx_ret (Es.is (es_lcR (fun (k : Nat) => .str (S ((restL c).take (c / 48 % (c / 6 % 8 + 1)).toNat ++ [sign (c / 432 + (k : Int))] ++ (restL c).drop (c / 48 % (c / 6 % 8 + 1)).toNat))) ?a3 ?b3 ?c3) ?d3)
      (case a3 => exact ea_cons (by walk_at "es") ea_nil)
      (case b3 => omega)
      (case c3 =>
        intro i hi
        have ea : c / 48 % (c / 6 % 8 + 1) = (((c / 48 % (c / 6 % 8 + 1)).toNat : Nat) : Int) := by omega
        have h1 := letter_at (c / 432 + (i : Int))
        have l1 : ((restL c).take (c / 48 % (c / 6 % 8 + 1)).toNat).length ≤ 7 := by rw [List.length_take]; omega
        have l2 : ((restL c).drop (c / 48 % (c / 6 % 8 + 1)).toNat).length ≤ 7 := by rw [List.length_drop]; omega
        refine' Es.is (es_bin (r := .str (S ((restL c).take (c / 48 % (c / 6 % 8 + 1)).toNat ++ [sign (c / 432 + (i : Int))]) ++ S ((restL c).drop (c / 48 % (c / 6 % 8 + 1)).toNat))) (ep_of (Es.is (es_bin (r := .str (S ((restL c).take (c / 48 % (c / 6 % 8 + 1)).toNat) ++ S [sign (c / 432 + (i : Int))])) (ep_of ?p1) ?p2 (.cat _ _ ?p3) rfl) ?p4)) (ep_of ?p5) (.cat _ _ ?p6) rfl) ?p7
        (case p1 =>
          refine' es_slcS (z := S (restL c)) (lo := none) (hi := some (c / 48 % (c / 6 % 8 + 1))) (by walk_at "ep") eo_none (eo_some (by walk_at "ep")) hs ?_
          rw [ea]
          exact cut_to _ _)
        (case p2 => walk_at "ep")
        (case p3 => rw [S_len, S_len]; refine Nat.le_trans (m := 100) ?_ (by decide); simp only [List.length_singleton]; omega)
        (case p4 => rw [S_add])
        (case p5 =>
          refine' es_slcS (z := S (restL c)) (lo := some (c / 48 % (c / 6 % 8 + 1))) (hi := none) (by walk_at "ep") (eo_some (by walk_at "ep")) eo_none hs ?_
          rw [ea]
          exact cut_from _ _)
        (case p6 => rw [S_len, S_len]; refine Nat.le_trans (m := 100) ?_ (by decide); simp only [List.length_append, List.length_singleton]; omega)
        (case p7 => rw [S_add]))
      (case d3 => unfold keysOf keysL; rw [if_neg h]; simp only [List.map_map]; rfl)))

theorem sign_az (i : Int) : 97 ≤ sign i ∧ sign i ≤ 122 := by
  have h1 : 0 ≤ i % 26 := Int.emod_nonneg _ (by decide)
  have h2 : i % 26 < 26 := Int.emod_lt_of_pos _ (by decide)
  unfold sign
  omega
theorem restL_az {c : Int} {x : Nat} (h : x ∈ restL c) : 97 ≤ x ∧ x ≤ 122 := by
  unfold restL at h
  obtain ⟨k, _, rfl⟩ := List.mem_map.mp h
  exact sign_az _
theorem keysL_az {c : Int} {l : List Nat} (hl : l ∈ keysL c) {x : Nat} (h : x ∈ l) : 97 ≤ x ∧ x ≤ 122 := by
  unfold keysL at hl
  split at hl
  · obtain ⟨k, _, rfl⟩ := List.mem_map.mp hl
    rcases List.mem_append.mp (List.mem_of_mem_take h) with h | h
    · exact restL_az h
    · simp only [List.mem_cons, List.not_mem_nil, or_false] at h
      omega
  · obtain ⟨k, _, rfl⟩ := List.mem_map.mp hl
    rcases List.mem_append.mp h with h | h
    · rcases List.mem_append.mp h with h | h
      · exact restL_az (List.mem_of_mem_take h)
      · rw [List.mem_singleton.mp h]; exact sign_az _
    · exact restL_az (List.mem_of_mem_drop h)
theorem strOk_key {c : Int} {x : Str} (h : x ∈ keysOf c) : PyData.strOk x = true := by
  obtain ⟨l, hl, rfl⟩ := List.mem_map.mp h
  unfold PyData.strOk
  rw [← Array.all_toList, List.all_eq_true]
  intro y hy
  have := keysL_az hl (x := y) hy
  simp
  omega

/-! a desk that never moves -/
def setS (f : Str → Int) (k : Str) (v : Int) : Str → Int := fun j => if j = k then v else f j
def play : (Str → Int) → List (Str × Wish) → List Int
  | _, [] => []
  | f, r :: l => (r.2.done (f r.1)).2 :: play (setS f r.1 (r.2.done (f r.1)).1) l
def rowD (r : Str × Wish) : PyData := .tuple [.str r.1, r.2.d]
def R_played (ss : List Sl) (s : Sl) : Prop := ∃ (keys : List Str) (rows : List (Str × Wish)), keys.length ≤ 1000 ∧ rows.length ≤ 1000 ∧ (∀ r ∈ rows, r.1 ∈ keys) ∧
  ss = [.py (.list (keys.map PyData.str)), .py (.list (rows.map rowD))] ∧ s = .own ((play (fun _ => 0) rows).map PyData.int)
theorem key_str (x : Str) : ∀ (B : Hp) v, Dp K B v (.str x) → v = kV (Sum.inr x) := fun B v h => by cases h; rfl
def strKey : PyData → Key
  | .str x => Sum.inr x
  | _ => Sum.inl 0
theorem zeros : ∀ (l : List Str) (acc : List (Key × PyData)) (k : Str), (k ∈ l ∨ dLook acc (Sum.inr k) = some (.int 0)) → dLook ((l.map PyData.str).foldl (fun l d => dSet l (strKey d) (.int 0)) acc) (Sum.inr k) = some (.int 0)
  | [], acc, k, h => by
    rcases h with h | h
    · cases h
    · exact h
  | x :: l, acc, k, h => by
    refine zeros l (dSet acc (Sum.inr x) (.int 0)) k ?_
    by_cases e : k = x
    · right; rw [dLook_set, if_pos (by rw [e])]
    · rcases h with h | h
      · rcases List.mem_cons.mp h with h | h
        · exact absurd h e
        · exact .inl h
      · right
        rw [dLook_set, if_neg (fun z => e (Sum.inr.inj z))]
        exact h
theorem fold_len : ∀ (l : List PyData) (acc : List (Key × PyData)), (l.foldl (fun l d => dSet l (strKey d) (.int 0)) acc).length ≤ acc.length + l.length
  | [], acc => by simp
  | d :: l, acc => by
    have := fold_len l (dSet acc (strKey d) (.int 0))
    have h2 := dSet_len acc (strKey d) (.int 0)
    simp only [List.foldl_cons, List.length_cons]
    omega
theorem ok_played (T : Txt K mg A) : FnOk P w K mg base CX0 2 A.f_played A.d_played ["keys", "rows"] (PSp K R_played) := by
  have G_done : FnOk P w K mg base CX0 1 A.f_done A.d_done ["amount", "wish"] (PSp K R_done) := ok_done T
  refine pure_ok T.F_played sc_played (fun ss s ⟨_, _, _, _, _, e, _⟩ => by rw [e]; rfl) (fun ss s ⟨_, _, _, _, _, e, _⟩ => by rw [e]; exact no2) (by decide) (fun cdv A outer s H E hr => ?_)
  have hu := hr.units
  have hu1 := hu_of hr
  refine ⟨_, (pss_cons (ps_setDc (i := 3) (own := [("key", 2)]) (g := gName 2) (tt := tYes) rfl sc_played.nd rfl rfl (sw_dict rfl rfl rfl (by decide +kernel)) (pi_list (pv 0)) (blkOk_by (N := ["keys", "rows", "key", "amounts", "answers", "wish", "amount", "told"]) (sc := defScope s_played) (by decide +kernel)) (fun _ _ _ _ _ => (pg_name (i := 2) sc_played.nd rfl (Or.inl rfl))) (fun _ _ _ _ _ => pts_nil) (fun _ _ _ _ _ => (pv 2)) (fun _ _ _ _ _ => pe_int))
    (pss_cons (ps_set (i := 4) sc_played.nd rfl (Or.inl rfl) (pe_lst pa_nil))
    (pss_cons (ps_for PassesOwn.never rfl (pi_list (pv 1)) (pg_tup (by rfl) (pgs_cons (pg_name (i := 2) sc_played.nd rfl (Or.inl rfl)) (pgs_cons (pg_name (i := 5) sc_played.nd rfl (Or.inl rfl)) pgs_nil))) (pss_cons (ps_asg (pe_call (G_done) (hr.mono (by decide)) (by rfl) T.m_done T.F_done.kp T.B_done .nil pass0 (pa_cons (pe_dget hu1 (pv 3) (pv 2) (fun _ _ => rfl)) (pa_cons (pv 5) pa_nil))) (pg_tup (by rfl) (pgs_cons (pg_name (i := 6) sc_played.nd rfl (Or.inl rfl)) (pgs_cons (pg_name (i := 7) sc_played.nd rfl (Or.inl rfl)) pgs_nil))))
    (pss_cons (ps_dput hu1 (pv 3) (pv 2) (pv 6) rfl)
    (pss_one (ps_expr (pe_bm PySem.F.plainAttrs_list PySem.F.slot_list_append PySem.F.type_list_append mt_append (pv 4) (pa_cons (pv 7) pa_nil)))))))
    (pss_one (ps_ret (pv 4)))))), fun ss r hR => .inl ?_⟩
  obtain ⟨keys, rows, hk, hr', hm, rfl, rfl⟩ := hR
  refine' sx_seq (sx_asg (es_dcL (ds := keys.map PyData.str) strKey (fun _ => .int 0) ?a1 ?a2 ?a3 ?a4)) ?h1
  (case a1 => walk_at "es")
  (case a2 => rw [List.length_map]; exact hk)
  (case a3 =>
    intro d hd
    obtain ⟨x, _, rfl⟩ := List.mem_map.mp hd
    exact ⟨.str x, by walk_at "es", key_str x⟩)
  (case a4 => intro d _; walk_at "es")
  (case h1 =>
    walk_at "set"
    refine' sx_forI (fun ds ρ => ∃ (rs : List (Str × Wish)) (f : Str → Int) (kvs : List (Key × PyData)) (ans : List Int) (x2 x5 x6 x7 : Option Sl), ds = rs.map rowD ∧ (∀ r ∈ rs, r.1 ∈ keys) ∧
      ρ = [some (.py (.list (keys.map PyData.str))), some (.py (.list (rows.map rowD))), x2, some (.dct kvs), some (.own (ans.map PyData.int)), x5, x6, x7] ∧
      (∀ k ∈ keys, dLook kvs (Sum.inr k) = some (.int (f k))) ∧ kvs.length + rs.length ≤ 3000 ∧ ans.length + rs.length ≤ 1000 ∧ ans ++ play f rs = play (fun _ => 0) rows) ?b1 ?b2 ?b3 ?b4
    (case b1 => walk_at "es")
    (case b2 =>
      refine ⟨rows, fun _ => 0, _, [], _, _, _, _, rfl, hm, rfl, fun k hk => zeros keys [] k (.inl hk), ?_, ?_, rfl⟩
      · have := fold_len (keys.map PyData.str) []
        simp only [List.length_map, List.length_nil] at this
        omega
      · simpa using hr')
    (case b3 =>
      rintro d ds ρ ⟨rs, f, kvs, ans, x2, x5, x6, x7, e, hm', rfl, hk', hl1, hl2, hp⟩
      cases rs with
      | nil => cases e
      | cons r rs =>
        cases e
        have hin := hm' r (by simp)
        have hg := hk' r.1 hin
        simp only [List.length_cons] at hl1 hl2
        have e1 : Es K (tDGet (tVar 3) (tVar 2)) ([some (.py (.list (keys.map PyData.str))), some (.py (.list (rows.map rowD))), some (.py (.str r.1)), some (.dct kvs), some (.own (ans.map PyData.int)), some (.py r.2.d), x6, x7] : Rho) (.py (.int (f r.1))) := es_dget (i := 3) rfl (dk := .str r.1) (by walk_at "es") (key_str r.1) hg
        refine ⟨_, tg_tup (tgs_cons tg_name (tgs_cons tg_name tgs_nil)) rfl, .inl ⟨_, .inl ?_, rs, setS f r.1 (r.2.done (f r.1)).1, dSet kvs (Sum.inr r.1) (.int (r.2.done (f r.1)).1), ans ++ [(r.2.done (f r.1)).2], some (.py (.str r.1)), some (.py r.2.d), some (.py (.int (r.2.done (f r.1)).1)), some (.py (.int (r.2.done (f r.1)).2)), rfl, fun q hq => hm' q (by simp [hq]), rfl, ?_, ?_, ?_, ?_⟩⟩
        · refine' sx_seq (sx_asgT (es_call (R := R_done) (ss := [.py (.int (f r.1)), .py r.2.d]) ?c1 ⟨f r.1, r.2, rfl, rfl⟩ rfl) ?c2) ?c0
          (case c1 => exact eh_cons (ep_of e1) (by walk_at "eh"))
          (case c2 => walk_at "tg")
          (case c0 =>
            refine' sx_seq (sx_dput (i := 3) rfl ?c3 ?c4 (key_str r.1) ?c5) ?c6
            (case c3 => walk_at "es")
            (case c4 => walk_at "es")
            (case c5 => omega)
            (case c6 =>
              refine' Sx.is (sx_app (i := 4) rfl ?c7 ?c8) ?c9
              (case c7 => walk_at "es")
              (case c8 => simp; omega)
              (case c9 => simp)))
        · intro k hk
          rw [dLook_set]
          by_cases ek : k = r.1
          · subst ek; simp [setS]
          · rw [if_neg (fun z => ek (Sum.inr.inj z))]
            simp only [setS, if_neg ek]
            exact hk' k hk
        · have := dSet_len kvs (Sum.inr r.1) (.int (r.2.done (f r.1)).1)
          omega
        · simp; omega
        · rw [← hp]; simp [play])
    (case b4 =>
      rintro ρ ⟨rs, f, kvs, ans, x2, x5, x6, x7, e, _, rfl, _, _, _, hp⟩
      cases rs with
      | cons => cases e
      | nil =>
        simp only [play, List.append_nil] at hp
        rw [← hp]
        exact sx_retOwn (i := 4) rfl))

/-- a list of at most 63 ints is handed in, True comes out -/
def spLaw (K : PySem.W.Frag) : Sp := fun vs H Q _ => ∃ (a : Addr) (ns : List Int), vs = [.ref a] ∧ SqL K H a (ns.map V.int) ∧ ns.length ≤ 63 ∧ ∀ H', Q (.bl true) H'

open SX (S S_len join_S)
mutual
theorem lay_plain : ∀ (n : Nat) (d : PyData), plain n d = true → d.canLay0 = true ∧ d.depth ≤ n
  | n, .int i, _ => by simp [PyData.canLay0, PyData.depth]
  | n, .str i, h => by
    have h : PyData.strOk i = true := by cases n <;> exact h
    simp [PyData.canLay0, PyData.depth, h]
  | n + 1, .list ds, h => by
    simp only [plain, Bool.and_eq_true] at h
    have := lay_plains n ds h.2
    simp only [PyData.canLay0, PyData.depth]
    exact ⟨this.1, by omega⟩
  | n + 1, .tuple ds, h => by
    simp only [plain, Bool.and_eq_true] at h
    have := lay_plains n ds h.2
    simp only [PyData.canLay0, PyData.depth]
    exact ⟨this.1, by omega⟩
  | 0, .list _, h => by simp [plain] at h
  | 0, .tuple _, h => by simp [plain] at h
  | n, .none, h => by simp [plain] at h
  | n, .bool _, h => by simp [plain] at h
  | n, .dict _, h => by simp [plain] at h
theorem lay_plains : ∀ (n : Nat) (ds : List PyData), plains n ds = true → PyData.canLayAll0 ds = true ∧ PyData.depthAll ds ≤ n
  | n, [], _ => by simp [PyData.canLayAll0, PyData.depthAll]
  | n, d :: ds, h => by
    simp only [plains, Bool.and_eq_true] at h
    have h1 := lay_plain n d h.1
    have h2 := lay_plains n ds h.2
    simp only [PyData.canLayAll0, PyData.depthAll, Bool.and_eq_true]
    exact ⟨⟨h1.1, h2.1⟩, by omega⟩
end
theorem shaped_of {n : Nat} {d : PyData} (h : plain n d = true) (hn : n ≤ 60) : SeqAt.shaped d = true := by
  have := lay_plain n d h
  unfold SeqAt.shaped
  rw [this.1]
  simp
  omega
theorem eqv_of {n : Nat} {d : PyData} (h : plain n d = true) : PyData.eqv d d = true := SeqAt.eqv_refl d (lay_plain n d h).1
theorem keysL_len (c : Int) : ((keysL c).length : Int) = 1 + c % 6 := by
  have m0 : 0 ≤ c % 6 := Int.emod_nonneg _ (by decide)
  unfold keysL
  split <;> rw [List.length_map, List.length_range] <;> omega
theorem keysOf_len (c : Int) : ((keysOf c).length : Int) = 1 + c % 6 := by unfold keysOf; rw [List.length_map]; exact keysL_len c
/-- the key that a cell picks -/
def pickKey (ks : List Str) (i : Int) : Str := (ks[(i % (ks.length : Int)).toNat]?).getD ⟨#[]⟩
theorem pickKey_at {ks : List Str} (h : 0 < ks.length) (i : Int) : Idx (.list (ks.map PyData.str)) (.int (i % (((ks.map PyData.str).length : Nat) : Int))) (.str (pickKey ks i)) ∧ pickKey ks i ∈ ks := by
  have h0 : 0 ≤ i % (ks.length : Int) := Int.emod_nonneg _ (by omega)
  have h1 : i % (ks.length : Int) < ks.length := Int.emod_lt_of_pos _ (by omega)
  have hl : (i % (ks.length : Int)).toNat < ks.length := by omega
  have e : ks[(i % (ks.length : Int)).toNat]? = some ks[(i % (ks.length : Int)).toNat] := List.getElem?_eq_getElem hl
  have ep : pickKey ks i = ks[(i % (ks.length : Int)).toNat] := by unfold pickKey; rw [e]; rfl
  refine ⟨.lst _ _ _ ?_, by rw [ep]; exact List.getElem_mem hl⟩
  rw [List.length_map]
  have ei : i % (ks.length : Int) = (((i % (ks.length : Int)).toNat : Nat) : Int) := by omega
  rw [ei]
  refine atI_nat ?_
  rw [List.getElem?_map, e, ep]
  rfl
def rowOf (c z : Int) : Str × Wish := (pickKey (keysOf c) (z / 5), wishOf ((z + 3) * 48271 / 7))
def rowF (c : Int) : PyData → PyData
  | .int z => rowD (rowOf c z)
  | _ => .none
theorem noList_row (r : Str × Wish) : noList (rowD r) = true := by
  cases r with
  | mk k w => cases w <;> rfl
theorem noLists_ints (l : List Int) : noLists (l.map PyData.int) = true := noLists_map (fun _ => rfl) l
theorem noLists_strs (l : List Str) : noLists (l.map PyData.str) = true := noLists_map (fun _ => rfl) l
theorem plain_int (n : Nat) (i : Int) : plain n (.int i) = true := by cases n <;> rfl
theorem plain_str (n : Nat) {i : Str} (h : PyData.strOk i = true) : plain n (.str i) = true := by cases n <;> exact h
theorem plains_ints (n : Nat) (l : List Int) : plains n (l.map PyData.int) = true := plains_of fun d hd => by obtain ⟨x, _, rfl⟩ := List.mem_map.mp hd; exact plain_int n x
theorem plains_strs (n : Nat) {l : List Str} (h : ∀ x ∈ l, PyData.strOk x = true) : plains n (l.map PyData.str) = true := plains_of fun d hd => by obtain ⟨x, hx, rfl⟩ := List.mem_map.mp hd; exact plain_str n (h x hx)
theorem plain_wish (n : Nat) (w : Wish) : plain (n + 1) w.d = true := by
  have h1 : PyData.strOk "get" = true := by decide +kernel
  have h2 : PyData.strOk "set" = true := by decide +kernel
  have h3 : PyData.strOk "add" = true := by decide +kernel
  cases w <;> simp [Wish.d, plain, plains, plain_int, h1, h2, h3]
theorem plain_row (n : Nat) {r : Str × Wish} (h : PyData.strOk r.1 = true) : plain (n + 2) (rowD r) = true := by
  simp [rowD, plain, plains, h, plain_wish]
theorem play_len : ∀ (rs : List (Str × Wish)) (f : Str → Int), (play f rs).length = rs.length
  | [], _ => rfl
  | r :: rs, f => congrArg (· + 1) (play_len rs _)
theorem cut1 (ns : List Int) : ((ns.map PyData.int).drop (HT.sIx (ns.map PyData.int).length 0 (some 1))).take (HT.sIx (ns.map PyData.int).length (ns.map PyData.int).length none - HT.sIx (ns.map PyData.int).length 0 (some 1)) = (ns.drop 1).map PyData.int := by
  have e : HT.sIx (ns.map PyData.int).length 0 (some 1) = min 1 (ns.map PyData.int).length := HT.sIx_nat _ _ 1
  rw [e, HT.sIx_none, List.length_map]
  cases ns with
  | nil => rfl
  | cons a l =>
    have : min 1 (a :: l).length = 1 := by simp
    rw [this]
    simp only [List.map_cons, List.drop_succ_cons, List.drop_zero, List.length_cons, Nat.add_sub_cancel]
    rw [List.take_of_length_le (by simp)]
def R_law (ss : List Sl) (s : Sl) : Prop := ∃ ns : List Int, ns.length ≤ 63 ∧ ss = [.py (.list (ns.map PyData.int))] ∧ s = .py (.bool true)
theorem ok_law_ (T : Txt K mg A) : FnOk P w K mg base CX0 8 A.f_law A.d_law ["_law_script"] (PSp K R_law) := by
  have G__law_keys : FnOk P w K mg base CX0 1 A.f__law_keys A.d__law_keys ["_law_cell"] (PSp K R_keys) := ok__law_keys T
  have G__law_cell_at : FnOk P w K mg base CX0 1 A.f__law_cell_at A.d__law_cell_at ["_law_script", "_law_k"] (PSp K R_cell) := ok__law_cell_at T
  have G__law_wish : FnOk P w K mg base CX0 1 A.f__law_wish A.d__law_wish ["_law_cell"] (PSp K R_wish) := ok__law_wish T
  have G_played : FnOk P w K mg base CX0 2 A.f_played A.d_played ["keys", "rows"] (PSp K R_played) := ok_played T
  have G__law_done : FnOk P w K mg base CX0 1 A.f__law_done A.d__law_done ["_law_amount", "_law_wish_here"] (PSp K R_done) := ok__law_done T
  have G__law_alike : FnOk P w K mg base CX0 2 A.f__law_alike A.d__law_alike ["_law_found", "_law_due"] (PSp K (R_alike 1)) := ok__law_alike T 1
  refine pure_ok T.F_law sc_law (fun ss s ⟨_, _, e, _⟩ => by rw [e]; rfl) (fun ss s ⟨_, _, e, _⟩ => by rw [e]; exact no1) (by decide) (fun cdv A outer s H E hr => ?_)
  have hu := hr.units
  have hu1 := hu_of hr
  refine ⟨_, (pss_cons (ps_set (i := 1) sc_law.nd rfl (Or.inr rfl) (pe_call (G__law_keys) (hr.mono (by decide)) (by rfl) T.m__law_keys T.F__law_keys.kp T.B__law_keys .nil pass0 (pa_cons (pe_call (G__law_cell_at) (hr.mono (by decide)) (by rfl) T.m__law_cell_at T.F__law_cell_at.kp T.B__law_cell_at .nil pass0 (pa_cons (pv 0) (pa_cons pe_int pa_nil))) pa_nil)))
    (pss_cons (ps_setLc (i := 2) (own := [("_law_cell", 11)]) (g := gName 11) (tt := tYes) rfl sc_law.nd rfl rfl (sw_true rfl rfl rfl (by decide +kernel)) (pi_list (pe_slice (slc_ K) (pv 0) (po_some pe_int) po_none)) (blkOk_by (N := ["_law_script", "_law_keys_here", "_law_rows", "_law_handed", "_law_found", "_law_amounts", "_law_due", "_law_key", "_law_wish_here", "_law_amount", "_law_told", "_law_cell"]) (sc := defScope s_law) (by decide +kernel)) (fun _ _ _ _ _ => (pg_name (i := 11) sc_law.nd rfl (Or.inl rfl))) (fun _ _ _ _ _ => pts_nil) (fun _ _ _ _ _ => (pe_tup (pa_cons (pe_ix (idx_ K) (pv 1) (pe_op (bin_ K _) (pe_op (bin_ K _) (pv 11) pe_int) (pe_callB (len_ K) (by rfl) T.b_len (by decide +kernel) (pa_cons (pv 1) pa_nil))) (fun _ _ => rfl)) (pa_cons (pe_call (G__law_wish) (hr.mono (by decide)) (by rfl) T.m__law_wish T.F__law_wish.kp T.B__law_wish .nil pass0 (pa_cons (pe_op (bin_ K _) (pe_op (bin_ K _) (pe_op (bin_ K _) (pv 11) pe_int) pe_int) pe_int) pa_nil)) pa_nil)))))
    (pss_cons (ps_set (i := 3) sc_law.nd rfl (Or.inl rfl) (pe_lst (pa_cons (pe_callTy call_list_of (by rfl) T.b_list (by decide +kernel) (pa_cons (pv 1) pa_nil)) (pa_cons (pe_callTy call_list_of (by rfl) T.b_list (by decide +kernel) (pa_cons (pv 2) pa_nil)) pa_nil))))
    (pss_cons (ps_set (i := 4) sc_law.nd rfl (Or.inl rfl) (pe_call (G_played) (hr.mono (by decide)) (by rfl) T.m_played T.F_played.kp T.B_played .nil pass0 (pa_cons (pe_ix (idx_ K) (pv 3) pe_int (fun _ _ => rfl)) (pa_cons (pe_ix (idx_ K) (pv 3) pe_int (fun _ _ => rfl)) pa_nil))))
    (pss_cons (ps_set (i := 5) sc_law.nd rfl (Or.inl rfl) pe_dnewK)
    (pss_cons (ps_set (i := 6) sc_law.nd rfl (Or.inl rfl) (pe_lst pa_nil))
    (pss_cons (ps_for PassesOwn.never rfl (pi_list (pv 2)) (pg_tup (by rfl) (pgs_cons (pg_name (i := 7) sc_law.nd rfl (Or.inl rfl)) (pgs_cons (pg_name (i := 8) sc_law.nd rfl (Or.inl rfl)) pgs_nil))) (pss_cons (ps_asg (pe_call (G__law_done) (hr.mono (by decide)) (by rfl) T.m__law_done T.F__law_done.kp T.B__law_done .nil pass0 (pa_cons (pe_dget2 hu1 (pv 5) (pv 7) pe_int ⟨rfl, rfl, rfl, rfl⟩) (pa_cons (pv 8) pa_nil))) (pg_tup (by rfl) (pgs_cons (pg_name (i := 9) sc_law.nd rfl (Or.inl rfl)) (pgs_cons (pg_name (i := 10) sc_law.nd rfl (Or.inl rfl)) pgs_nil))))
    (pss_cons (ps_dput hu1 (pv 5) (pv 7) (pv 9) rfl)
    (pss_one (ps_expr (pe_bm PySem.F.plainAttrs_list PySem.F.slot_list_append PySem.F.type_list_append mt_append (pv 6) (pa_cons (pv 10) pa_nil)))))))
    (pss_one (ps_ret (pe_and (pe_call (G__law_alike) (hr.mono (by decide)) (by rfl) T.m__law_alike T.F__law_alike.kp T.B__law_alike .nil pass0 (pa_cons (pv 4) (pa_cons (pv 6) pa_nil))) (pe_one (pe_cmpR (cmp_ K _ hu) (pv 3) (pe_lst (pa_cons (pv 1) (pa_cons (pv 2) pa_nil))) (nomark _))))))))))))), fun ss r hR => .inl ?_⟩
  obtain ⟨ns, hns, rfl, rfl⟩ := hR
  generalize hc : cellAt ns 0 = c
  have hkl := keysOf_len c
  have m0 : 0 ≤ c % 6 := Int.emod_nonneg _ (by decide)
  have m1 : c % 6 < 6 := Int.emod_lt_of_pos _ (by decide)
  have kpos : 0 < (keysOf c).length := by omega
  -- the keys
  refine' sx_seq (sx_asg (es_call (R := R_keys) (ss := [.py (.int c)]) (eh_cons (ep_of (es_call (R := R_cell) (ss := [.py (.list (ns.map PyData.int)), .py (.int ((0 : Nat) : Int))]) ?a1 ⟨ns, 0, rfl, by rw [hc]⟩ rfl)) eh_nil) ⟨c, rfl, rfl⟩ (noLists_strs _))) ?h1
  (case a1 => exact eh_cons (by walk_at "ep") (eh_cons (ep_of (es_int 0)) eh_nil))
  (case h1 =>
  refine sx_freeze (i := 1) rfl ?_
  -- the rows
  refine' sx_seq (sx_asg (Es.is (es_lcL (ds := (ns.drop 1).map PyData.int) (rowF c) (es_freeze (es_slcL (lo := some 1) (hi := none) ?b1 ?b2 eo_none (cut1 ns))) ?b3 ?b4) ?b5)) ?h2
  (case b1 => walk_at "es")
  (case b2 => exact eo_some (ep_of (es_int 1)))
  (case b3 => simp; omega)
  (case b4 =>
    intro d hd
    obtain ⟨z, _, rfl⟩ := List.mem_map.mp hd
    have hp := pickKey_at kpos (z / 5)
    refine' es_tupD (ds := [.str (pickKey (keysOf c) (z / 5)), (wishOf ((z + 3) * 48271 / 7)).d]) (ead_cons ?c1 (ead_cons ?c2 ead_nil)) (Nat.le_of_ble_eq_true rfl)
    (case c1 =>
      have h1 := hp.1
      refine' es_idx ?d1 ?d2 h1 rfl
      (case d1 => walk_at "ep")
      (case d2 => exact ep_of (es_bin (by walk_at "ep") (by walk_at "ep") (.mod _ _ (by rw [List.length_map]; omega)) rfl)))
    (case c2 =>
      refine' es_call (R := R_wish) (ss := [.py (.int ((z + 3) * 48271 / 7))]) ?d3 ⟨_, rfl, rfl⟩ (noList_wish _)
      (case d3 => walk_at "eh")))
  (case b5 => exact rfl)
  (case h2 =>
  have er : ((ns.drop 1).map PyData.int).map (rowF c) = ((ns.drop 1).map (rowOf c)).map rowD := by
    rw [List.map_map, List.map_map]
    rfl
  rw [er]
  generalize hrows : (ns.drop 1).map (rowOf c) = rows
  have rl : rows.length ≤ 63 := by rw [← hrows]; simp; omega
  have rk : ∀ r ∈ rows, r.1 ∈ keysOf c := fun r hr => by
    rw [← hrows] at hr
    obtain ⟨z, _, rfl⟩ := List.mem_map.mp hr
    exact (pickKey_at kpos (z / 5)).2
  refine sx_freeze (i := 2) rfl ?_
  -- what is handed in
  refine' sx_seq (sx_asg (es_lstD (ds := [.list ((keysOf c).map PyData.str), .list (rows.map rowD)]) (ead_cons (es_freeze (es_listOf ?e1)) (ead_cons (es_freeze (es_listOf ?e2)) ead_nil)) (Nat.le_of_ble_eq_true rfl))) ?h3
  (case e1 => walk_at "es")
  (case e2 => walk_at "es")
  (case h3 =>
  refine sx_freeze (i := 3) rfl ?_
  refine' sx_seq (sx_asg (es_call (R := R_played) (s := .own ((play (fun _ => 0) rows).map PyData.int)) (ss := [.py (.list ((keysOf c).map PyData.str)), .py (.list (rows.map rowD))]) ?f1 ⟨keysOf c, rows, by omega, by omega, rk, rfl, rfl⟩ (noLists_ints _))) ?h4
  (case f1 => walk_at "eh")
  (case h4 =>
  refine sx_freeze (i := 4) rfl ?_
  walk_at "set"
  walk_at "set"
  refine' sx_forI (fun ds ρ => ∃ (rs : List (Str × Wish)) (f : Str → Int) (kvs : List (Key × PyData)) (ans : List Int) (x7 x8 x9 x10 : Option Sl), ds = rs.map rowD ∧
      ρ = [some (.py (.list (ns.map PyData.int))), some (.py (.list ((keysOf c).map PyData.str))), some (.py (.list (rows.map rowD))), some (.py (.list [.list ((keysOf c).map PyData.str), .list (rows.map rowD)])), some (.py (.list ((play (fun _ => 0) rows).map PyData.int))), some (.dct kvs), some (.own (ans.map PyData.int)), x7, x8, x9, x10, none] ∧
      (∀ k, (dLook kvs (Sum.inr k)).getD (.int 0) = .int (f k)) ∧ kvs.length + rs.length ≤ 3000 ∧ ans.length + rs.length ≤ 1000 ∧ ans ++ play f rs = play (fun _ => 0) rows) ?g1 ?g2 ?g3 ?g4
  (case g1 => walk_at "es")
  (case g2 => exact ⟨rows, fun _ => 0, [], [], none, none, none, none, rfl, rfl, fun _ => rfl, by simp; omega, by simp; omega, rfl⟩)
  (case g3 =>
    rintro d ds ρ ⟨rs, f, kvs, ans, x7, x8, x9, x10, e, rfl, hk', hl1, hl2, hp⟩
    cases rs with
    | nil => cases e
    | cons r rs =>
      cases e
      simp only [List.length_cons] at hl1 hl2
      refine ⟨_, tg_tup (tgs_cons tg_name (tgs_cons tg_name tgs_nil)) rfl, .inl ⟨_, .inl ?_, rs, setS f r.1 (r.2.done (f r.1)).1, dSet kvs (Sum.inr r.1) (.int (r.2.done (f r.1)).1), ans ++ [(r.2.done (f r.1)).2], some (.py (.str r.1)), some (.py r.2.d), some (.py (.int (r.2.done (f r.1)).1)), some (.py (.int (r.2.done (f r.1)).2)), rfl, rfl, ?_, ?_, ?_, ?_⟩⟩
      · refine' sx_seq (sx_asgT (es_call (R := R_done) (ss := [.py (.int (f r.1)), .py r.2.d]) ?c1 ⟨f r.1, r.2, rfl, rfl⟩ rfl) ?c2) ?c0
        (case c1 =>
          refine' eh_cons (ep_of (Es.is (es_dget2 (i := 5) rfl (dk := .str r.1) ?i1 (key_str r.1) ?i2) (congrArg Sl.py (hk' r.1)))) ?i3
          (case i1 => walk_at "es")
          (case i2 => exact es_int 0)
          (case i3 => walk_at "eh"))
        (case c2 => walk_at "tg")
        (case c0 =>
          refine' sx_seq (sx_dput (i := 5) rfl ?c3 ?c4 (key_str r.1) ?c5) ?c6
          (case c3 => walk_at "es")
          (case c4 => walk_at "es")
          (case c5 => omega)
          (case c6 =>
            refine' Sx.is (sx_app (i := 6) rfl ?c7 ?c8) ?c9
            (case c7 => walk_at "es")
            (case c8 => simp; omega)
            (case c9 => simp)))
      · intro k
        rw [dLook_set]
        by_cases ek : k = r.1
        · subst ek; simp [setS]
        · rw [if_neg (fun z => ek (Sum.inr.inj z))]
          simp only [setS, if_neg ek]
          exact hk' k
      · have := dSet_len kvs (Sum.inr r.1) (.int (r.2.done (f r.1)).1)
        omega
      · simp; omega
      · rw [← hp]; simp [play])
  (case g4 =>
    rintro ρ ⟨rs, f, kvs, ans, x7, x8, x9, x10, e, rfl, _, _, hl2, hp⟩
    cases rs with
    | cons => cases e
    | nil =>
      simp only [play, List.append_nil] at hp
      subst hp
      refine sx_freeze (i := 6) rfl ?_
      have pl := play_len rows (fun _ => 0)
      have hpl : plain 1 (.list ((play (fun _ => 0) rows).map PyData.int)) = true := by
        simp only [plain, Bool.and_eq_true, decide_eq_true_eq, List.length_map]
        exact ⟨by omega, plains_ints _ _⟩
      have hkr : plain 4 (.list [.list ((keysOf c).map PyData.str), .list (rows.map rowD)]) = true := by
        simp only [plain, plains, Bool.and_eq_true, decide_eq_true_eq, List.length_map, List.length_cons, List.length_nil]
        refine ⟨by omega, ⟨by omega, plains_strs _ fun x hx => strOk_key hx⟩, ⟨by omega, plains_of fun d hd => ?_⟩, trivial⟩
        obtain ⟨r, hr, rfl⟩ := List.mem_map.mp hd
        exact plain_row 0 (strOk_key (rk r hr))
      refine' sx_ret (Es.is (es_andV (es_call (R := R_alike 1) (s := .py (.bool true)) (ss := [.py (.list ((play (fun _ => 0) rows).map PyData.int)), .py (.list ((play (fun _ => 0) rows).map PyData.int))]) ?j1 ⟨_, hpl, rfl, rfl⟩ rfl) (fun _ => es_cmp (d := .list [.list ((keysOf c).map PyData.str), .list (rows.map rowD)]) (e := .list [.list ((keysOf c).map PyData.str), .list (rows.map rowD)]) ?j2 ?j3 (.eq _ _ ⟨shaped_of hkr (by decide), shaped_of hkr (by decide)⟩))) ?j4)
      (case j1 => walk_at "eh")
      (case j2 => walk_at "ep")
      (case j3 => walk_at "ep")
      (case j4 => rw [eqv_of hkr]; rfl))))))
theorem ok_law (T : Txt K mg A) : FnOk P w K mg base CX0 8 A.f_law A.d_law ["_law_script"] (spLaw K) :=
  (ok_law_ T).imp fun vs H Q E h => by
    obtain ⟨a, ns, rfl, hS, hl, k⟩ := h
    refine ⟨[.py (.list (ns.map PyData.int))], .py (.bool true), ⟨.lst hS (DpAll.ints ns), trivial⟩, ⟨ns, hl, rfl, rfl⟩, fun v B' H' _ _ i => ?_⟩
    cases i
    exact k H'

end
end L
namespace L
open PySem L2 Wk
theorem walk {l : PySem.W.OpenLaw} {q : Program} {loose : List Str} {XP : (Str → Option Value) → Heap → Prop} {YP : World → Heap → Prop} {d : DefRec} {K : Params → PySem.W.Frag} (hn : l.most = some 63) (hdf : d.params.defaults = [])
    (hY : ∀ (w : World) (h : Heap), YP w h → (K w.params).In h)
    (F : ∀ (w : World) (mg : Str → Option Value) (fa : Addr) (h : Heap), (K w.params).In h → h.Ns mainGlobals mg → mg d.name = some (.ref fa) →
      ∃ fd : FuncData, (∀ (s : Shared) (u : Value), BindsTo s fd ⟨[u], []⟩ [("_law_script", u)]) ∧ ∀ base : Heap, (K w.params).In base → base.Ns mainGlobals mg → FnOk l.prog w (K w.params) mg base CX0 8 fa fd ["_law_script"] (spLaw (K w.params))) :
    PySem.W.WalkO q loose XP YP l.row.toRowW d [] (fun f vs => PySem.call f vs) :=
  L2.walk_of (n := 63) (k := 8) (x := "_law_script") (CX := fun _ => CX0) (sp := fun w => spLaw (K w.params)) hn (by decide) hdf ⟨rfl, by decide, by decide⟩ hY F (fun _ _ a ns hl _ hS => ⟨a, ns, rfl, hS, hl, fun _ => rfl⟩) fun _ _ _ _ _ z => z
end L
open PySem PySem.W PyProof.Rows
set_option maxRecDepth 100000 in
set_option maxHeartbeats 0 in
theorem PySem.Challenge.cw_movehouse_k02_one_desk_holds : PySem.Challenge.rw_movehouse_k02_one_desk.Holds := by
  w_on; o_law; k_head; (case hw => w_witness2)
  k_fill
  refine L.walk (l := PySem.Challenge.rw_movehouse_k02_one_desk) rfl rfl (fun w h Y => PySem.W.kIn_of Y) ?F
  case F =>
    intro w mg fa h KX G hmg
    have all := @L.all_mk w _ h mg fa KX G hmg
    suffices hT : ∃ A : L.Adr, L.Txt _ mg A ∧ fa = A.f_law ∧ ∀ (s : Shared) (v : Value), BindsTo s A.d_law ⟨[v], []⟩ [("_law_script", v)] by
      obtain ⟨A, T, rfl, hb⟩ := hT
      exact ⟨A.d_law, hb, fun base _ _ => L.ok_law T⟩
    clear all
    refine' L.all_mk (w := w) KX G hmg ?a1 ?l1 ?c1 ?k1 ?a2 ?l2 ?c2 ?k2 ?a3 ?l3 ?c3 ?k3 ?a4 ?l4 ?c4 ?k4 ?a5 ?l5 ?c5 ?k5 ?a6 ?l6 ?c6 ?k6 ?a7 ?l7 ?c7 ?k7 ?a8 ?l8 ?c8 ?k8 ?z_all ?z_bool ?z_int ?z_isinstance ?z_len ?z_list ?z_range ?z_str ?z_tuple
    (case a1 => k_is)
    (case l1 => k_is)
    (case c1 => k_is)
    (case k1 => k_is)
    (case a2 => k_is)
    (case l2 => k_is)
    (case c2 => k_is)
    (case k2 => k_is)
    (case a3 => k_is)
    (case l3 => k_is)
    (case c3 => k_is)
    (case k3 => k_is)
    (case a4 => k_is)
    (case l4 => k_is)
    (case c4 => k_is)
    (case k4 => k_is)
    (case a5 => k_is)
    (case l5 => k_is)
    (case c5 => k_is)
    (case k5 => k_is)
    (case a6 => k_is)
    (case l6 => k_is)
    (case c6 => k_is)
    (case k6 => k_is)
    (case a7 => k_is)
    (case l7 => k_is)
    (case c7 => k_is)
    (case k7 => k_is)
    (case a8 => k_is)
    (case l8 => k_is)
    (case c8 => k_is)
    (case k8 => k_is)
    (case z_all => k_is)
    (case z_bool => k_is)
    (case z_int => k_is)
    (case z_isinstance => k_is)
    (case z_len => k_is)
    (case z_list => k_is)
    (case z_range => k_is)
    (case z_str => k_is)
    (case z_tuple => k_is)
#print axioms PySem.Challenge.cw_movehouse_k02_one_desk_holds
