import PyProof.Rows.All
import Wide.All
import OpenK.AllK
import Wide.FinOn
import PyProof.EqAt
import PyProof.EqKinds
import PyProof.TupleCall
import Open.SpecLaws
import KE.OsGo
import KE.DatumOrd
import HandS.ForSpec
import HandS.ForMost
import HandS.Walk
import HandS.SortInts
import HandS.Conv
import HandS.SortKw
import PySem.Challenge.RW_gluedsquares_s01_answers
set_option Elab.async false
set_option linter.all false
section
set_option autoImplicit false
namespace Gs
open Krct
/-! ## lists that tell all squares once -/
theorem perm_of {a b : List Nat} (nd : a.Nodup) (h : ∀ x ∈ a, x ∈ b) (hl : b.length ≤ a.length) : a.Perm b := by
  induction a generalizing b with
  | nil =>
    have : b = [] := List.eq_nil_of_length_eq_zero (Nat.le_zero.mp hl)
    rw [this]
  | cons x a ih =>
    have hx : x ∈ b := h x List.mem_cons_self
    have p : b.Perm (x :: b.erase x) := List.perm_cons_erase hx
    rw [List.nodup_cons] at nd
    refine (List.Perm.cons x (ih nd.2 (fun y hy => ?_) ?_)).trans p.symm
    · have ne : y ≠ x := fun e => nd.1 (e ▸ hy)
      exact (List.mem_erase_of_ne ne).mpr (h y (List.mem_cons_of_mem _ hy))
    · rw [List.length_erase_of_mem hx]
      simp only [List.length_cons] at hl
      omega
theorem isPerm_iff {n : Nat} {l : List Nat} : isPerm n l = true ↔ l.Perm (List.range n) := by
  unfold isPerm
  rw [Bool.and_eq_true, beq_iff_eq, List.all_eq_true]
  constructor
  · rintro ⟨hl, h⟩
    refine (perm_of List.nodup_range (fun x hx => ?_) ?_).symm
    · simpa using h x hx
    · rw [List.length_range, hl]; exact Nat.le_refl _
  · intro p
    refine ⟨by rw [p.length_eq, List.length_range], fun x hx => ?_⟩
    simpa using p.mem_iff.mpr hx
/-- a list that tells all squares once -/
structure Pm (n : Nat) (l : List Nat) : Prop where
  len : l.length = n
  nd : l.Nodup
  lt : ∀ x ∈ l, x < n
  all : ∀ x, x < n → x ∈ l
theorem Pm.of_perm {n : Nat} {l : List Nat} (p : l.Perm (List.range n)) : Pm n l :=
  ⟨by rw [p.length_eq, List.length_range], p.nodup_iff.mpr List.nodup_range, fun x hx => List.mem_range.mp (p.mem_iff.mp hx), fun x hx => p.mem_iff.mpr (List.mem_range.mpr hx)⟩
theorem Pm.of {n : Nat} {l : List Nat} (h : isPerm n l = true) : Pm n l := Pm.of_perm (isPerm_iff.mp h)
theorem Pm.mk' {n : Nat} {l : List Nat} (nd : l.Nodup) (lt : ∀ x ∈ l, x < n) (len : l.length = n) : Pm n l :=
  Pm.of_perm (perm_of nd (fun x hx => List.mem_range.mpr (lt x hx)) (by rw [List.length_range, len]; exact Nat.le_refl _))
theorem Pm.is {n : Nat} {l : List Nat} (p : Pm n l) : isPerm n l = true :=
  isPerm_iff.mpr (perm_of p.nd (fun x hx => List.mem_range.mpr (p.lt x hx)) (by rw [List.length_range, p.len]; exact Nat.le_refl _))
theorem len_le {n : Nat} {l : List Nat} (nd : l.Nodup) (lt : ∀ x ∈ l, x < n) : l.length ≤ n := by
  by_cases h : l.length ≤ n
  · exact h
  · have p := perm_of (a := l) (b := List.range n) nd (fun x hx => List.mem_range.mpr (lt x hx)) (by rw [List.length_range]; omega)
    rw [p.length_eq, List.length_range]; exact Nat.le_refl _
/-- sorted, they are 0, 1 and so on -/
theorem sorted_range {n : Nat} {l : List Int} {ms : List Nat} (p : l.Perm (ms.map Int.ofNat)) (s : l.Pairwise (· ≤ ·)) : l = (List.range n).map Int.ofNat ↔ isPerm n ms = true := by
  rw [isPerm_iff]
  constructor
  · intro e
    rw [e] at p
    have q := p.map Int.toNat
    rw [List.map_map, List.map_map] at q
    have e1 : Int.toNat ∘ Int.ofNat = id := by funext x; rfl
    rw [e1, List.map_id, List.map_id] at q
    exact q.symm
  · intro q
    have q2 : l.Perm ((List.range n).map Int.ofNat) := p.trans (q.map _)
    have s2 : ((List.range n).map Int.ofNat).Pairwise (· ≤ ·) := by
      rw [List.pairwise_map]
      have h := List.pairwise_le_range (n := n)
      exact h.imp (fun {a b} h => Int.ofNat_le.mpr h)
    exact q2.eq_of_pairwise (fun a b _ _ h1 h2 => Int.le_antisymm h1 h2) s s2
/-! ## steps -/
theorem to_mem {l : List Nat} {s : Nat} (h : s < l.length) : to l s ∈ l := by
  unfold to
  rw [List.getD_eq_getElem?_getD, List.getElem?_eq_getElem h]
  exact List.getElem_mem h
theorem get_to {l : List Nat} {s : Nat} (h : s < l.length) : l[s]? = some (to l s) := by
  unfold to
  rw [List.getD_eq_getElem?_getD, List.getElem?_eq_getElem h]
  rfl
theorem Pm.to_lt {n : Nat} {l : List Nat} (p : Pm n l) {s : Nat} (h : s < n) : to l s < n := p.lt _ (to_mem (by rw [p.len]; exact h))
theorem Pm.to_inj {n : Nat} {l : List Nat} (p : Pm n l) {s t : Nat} (hs : s < n) (ht : t < n) (e : to l s = to l t) : s = t := by
  have a := get_to (l := l) (s := s) (by rw [p.len]; exact hs)
  have b := get_to (l := l) (s := t) (by rw [p.len]; exact ht)
  rw [e, ← b] at a
  exact (List.getElem?_inj (by rw [p.len]; exact hs) p.nd).mp a
theorem Pm.from_lt {n : Nat} {l : List Nat} (p : Pm n l) {s : Nat} (h : s < n) : from_ l s < n := by
  have := List.idxOf_lt_length_of_mem (p.all s h)
  rw [p.len] at this
  exact this
theorem get_from {l : List Nat} {s : Nat} (h : s ∈ l) : l[from_ l s]? = some s := by
  have e := List.idxOf_lt_length_of_mem h
  unfold from_
  rw [List.getElem?_eq_getElem e, List.getElem_idxOf e]
theorem Pm.from_inj {n : Nat} {l : List Nat} (p : Pm n l) {s t : Nat} (hs : s < n) (ht : t < n) (e : from_ l s = from_ l t) : s = t := by
  have a := get_from (p.all s hs)
  have b := get_from (p.all t ht)
  rw [e, b] at a
  exact (Option.some.inj a).symm
/-- for each square the one that leads to it -/
def inv (l : List Nat) : List Nat := (List.range l.length).map (from_ l)
theorem inv_len (l : List Nat) : (inv l).length = l.length := by unfold inv; rw [List.length_map, List.length_range]
theorem get_inv {l : List Nat} {x : Nat} (h : x < l.length) : (inv l)[x]? = some (from_ l x) := by
  unfold inv
  rw [List.getElem?_map, List.getElem?_range h]
  rfl
theorem Pm.idx {n : Nat} {l : List Nat} (p : Pm n l) {j x : Nat} (h : l[j]? = some x) : from_ l x = j := by
  have hx : x ∈ l := List.mem_of_getElem? h
  have a := get_from hx
  have hj : j < l.length := (List.getElem?_eq_some_iff.mp h).1
  have hk : from_ l x < l.length := List.idxOf_lt_length_of_mem hx
  exact (List.getElem?_inj hk p.nd).mp (a.trans h.symm)
/-- behind i turns of the loop that turns a list back -/
def Back (l b : List Nat) (i : Nat) : Prop := b.length = l.length ∧ ∀ j x, j < i → l[j]? = some x → b[x]? = some j
theorem Back.start (l : List Nat) : Back l (List.replicate l.length 0) 0 := ⟨List.length_replicate, fun _ _ h _ => absurd h (Nat.not_lt_zero _)⟩
theorem Back.turn {n : Nat} {l b : List Nat} {i x : Nat} (p : Pm n l) (h : Back l b i) (hx : l[i]? = some x) : Back l (b.set x i) (i + 1) := by
  refine ⟨by rw [List.length_set]; exact h.1, fun j y hj hy => ?_⟩
  have hxl : x < b.length := by rw [h.1, p.len]; exact p.lt x (List.mem_of_getElem? hx)
  by_cases e : j = i
  · subst e
    rw [hx] at hy
    cases hy
    rw [List.getElem?_set_self hxl]
  · have ne : x ≠ y := fun q => by
      subst q
      have hj' : j < l.length := (List.getElem?_eq_some_iff.mp hy).1
      exact e ((List.getElem?_inj hj' p.nd).mp (hy.trans hx.symm))
    rw [List.getElem?_set_ne ne]
    exact h.2 j y (by omega) hy
theorem Back.done {n : Nat} {l b : List Nat} (p : Pm n l) (h : Back l b l.length) : b = inv l := by
  apply List.ext_getElem?
  intro x
  by_cases hx : x < l.length
  · rw [get_inv hx]
    have hm : x ∈ l := p.all x (by rw [← p.len]; exact hx)
    exact h.2 _ x (List.idxOf_lt_length_of_mem hm) (get_from hm)
  · rw [List.getElem?_eq_none (by rw [h.1]; omega), List.getElem?_eq_none (by rw [inv_len]; omega)]
/-! ## the order from a square -/
/-- the two lists of a surface tell all squares once -/
structure Two (g : Glued) : Prop where
  e : Pm g.n g.east
  o : Pm g.n g.north
def push (m : List Nat) (t : Nat) : List Nat := if m.contains t then m else m ++ [t]
theorem push_in {m : List Nat} {t : Nat} (h : t ∈ m) : push m t = m := if_pos (List.contains_iff_mem.mpr h)
theorem push_out {m : List Nat} {t : Nat} (h : t ∉ m) : push m t = m ++ [t] := if_neg (fun q => h (List.contains_iff_mem.mp q))
theorem mem_push {m : List Nat} {t x : Nat} : x ∈ push m t ↔ x ∈ m ∨ x = t := by
  by_cases h : t ∈ m
  · rw [push_in h]
    exact ⟨.inl, fun q => q.elim id (fun e => e ▸ h)⟩
  · rw [push_out h, List.mem_append, List.mem_singleton]
theorem push_nd {m : List Nat} {t : Nat} (h : m.Nodup) : (push m t).Nodup := by
  by_cases q : t ∈ m
  · rw [push_in q]; exact h
  · rw [push_out q, List.nodup_append]
    refine ⟨h, List.nodup_cons.mpr ⟨List.not_mem_nil, List.nodup_nil⟩, fun a ha b hb e => ?_⟩
    rw [List.mem_singleton.mp hb] at e
    exact q (e ▸ ha)
theorem push_pre (m : List Nat) (t : Nat) : ∃ r, push m t = m ++ r := by
  by_cases q : t ∈ m
  · exact ⟨[], by rw [push_in q, List.append_nil]⟩
  · exact ⟨[t], push_out q⟩
/-- one turn: of the square at hand the eastern one, then the northern one -/
def grow (g : Glued) (l : List Nat) (s : Nat) : List Nat := push (push l (to g.east s)) (to g.north s)
theorem order_more {g : Glued} {k i s : Nat} {l : List Nat} (h : l[i]? = some s) : order g (k + 1) l i = order g k (grow g l s) (i + 1) := by
  show (match l[i]? with
    | none => l
    | some s => order g k ([to g.east s, to g.north s].foldl (fun m t => if m.contains t then m else m ++ [t]) l) (i + 1)) = _
  rw [h]
  rfl
theorem order_end {g : Glued} {k i : Nat} {l : List Nat} (h : l[i]? = none) : order g (k + 1) l i = l := by
  show (match l[i]? with
    | none => l
    | some s => order g k ([to g.east s, to g.north s].foldl (fun m t => if m.contains t then m else m ++ [t]) l) (i + 1)) = _
  rw [h]
/-- behind i turns -/
structure Ord (g : Glued) (s : Nat) (l : List Nat) (i : Nat) : Prop where
  nd : l.Nodup
  lt : ∀ x ∈ l, x < g.n
  le : i ≤ l.length
  hs : l[0]? = some s
  go : order g (g.n + 1 - i) l i = orderFrom g s
  cl : ∀ j x, j < i → l[j]? = some x → to g.east x ∈ l ∧ to g.north x ∈ l
theorem Ord.start {g : Glued} {s : Nat} (hs : s < g.n) : Ord g s [s] 0 :=
  ⟨List.nodup_cons.mpr ⟨List.not_mem_nil, List.nodup_nil⟩, fun x hx => by rw [List.mem_singleton.mp hx]; exact hs, Nat.zero_le _, rfl, rfl, fun _ _ h _ => absurd h (Nat.not_lt_zero _)⟩
theorem Ord.small {g : Glued} {s : Nat} {l : List Nat} {i : Nat} (O : Ord g s l i) : l.length ≤ g.n := len_le O.nd O.lt
theorem Ord.turn {g : Glued} (T : Two g) {s x : Nat} {l : List Nat} {i : Nat} (O : Ord g s l i) (h : l[i]? = some x) : Ord g s (grow g l x) (i + 1) := by
  have hx : x < g.n := O.lt x (List.mem_of_getElem? h)
  have hi : i < l.length := (List.getElem?_eq_some_iff.mp h).1
  obtain ⟨r1, e1⟩ := push_pre l (to g.east x)
  obtain ⟨r2, e2⟩ := push_pre (push l (to g.east x)) (to g.north x)
  have e : grow g l x = l ++ (r1 ++ r2) := by
    unfold grow
    rw [e2, e1, List.append_assoc]
  have mem : ∀ y, y ∈ grow g l x ↔ (y ∈ l ∨ y = to g.east x) ∨ y = to g.north x := fun y => by
    unfold grow
    rw [mem_push, mem_push]
  have sm := O.small
  refine ⟨push_nd (push_nd O.nd), fun y hy => ?_, ?_, ?_, ?_, fun j y hj hy => ?_⟩
  · rcases (mem y).mp hy with (h1 | h1) | h1
    · exact O.lt y h1
    · rw [h1]; exact T.e.to_lt hx
    · rw [h1]; exact T.o.to_lt hx
  · rw [e, List.length_append]; omega
  · rw [e, List.getElem?_append_left (by omega)]; exact O.hs
  · rw [← O.go]
    have q : g.n + 1 - i = (g.n + 1 - (i + 1)) + 1 := by omega
    rw [q, order_more h]
  · by_cases c : j = i
    · subst c
      rw [e, List.getElem?_append_left hi, h] at hy
      cases hy
      exact ⟨(mem _).mpr (.inl (.inr rfl)), (mem _).mpr (.inr rfl)⟩
    · have hj' : j < l.length := by omega
      rw [e, List.getElem?_append_left hj'] at hy
      obtain ⟨a, b⟩ := O.cl j y (by omega) hy
      exact ⟨(mem _).mpr (.inl (.inl a)), (mem _).mpr (.inl (.inl b))⟩
theorem Ord.done {g : Glued} {s : Nat} {l : List Nat} (O : Ord g s l l.length) : l = orderFrom g s := by
  have sm := O.small
  have q : g.n + 1 - l.length = (g.n - l.length) + 1 := by omega
  have h := O.go
  rw [q, order_end (List.getElem?_eq_none (Nat.le_refl _))] at h
  exact h
/-- it ends -/
theorem ord_ex {g : Glued} (T : Two g) {s : Nat} : ∀ (k : Nat) (l : List Nat) (i : Nat), g.n + 1 - i ≤ k → Ord g s l i → ∃ l', Ord g s l' l'.length
  | 0, l, i, hk, O => by
    have := O.small
    have := O.le
    omega
  | k + 1, l, i, hk, O => by
    by_cases c : i = l.length
    · subst c; exact ⟨l, O⟩
    · have hi : i < l.length := by have := O.le; omega
      exact ord_ex T k _ (i + 1) (by omega) (O.turn T (List.getElem?_eq_getElem hi))
theorem ord_done {g : Glued} (T : Two g) {s : Nat} (hs : s < g.n) : Ord g s (orderFrom g s) (orderFrom g s).length := by
  obtain ⟨l, O⟩ := ord_ex T _ [s] 0 (Nat.le_refl _) (Ord.start hs)
  have e := O.done
  rw [← e]
  exact O
/-- what is closed under the two steps and has the first has all -/
theorem ord_all {g : Glued} {P : Nat → Prop} (he : ∀ x, x < g.n → P x → P (to g.east x)) (ho : ∀ x, x < g.n → P x → P (to g.north x)) (T : Two g) : ∀ (k : Nat) (l : List Nat) (i : Nat), (∀ x ∈ l, x < g.n) → (∀ x ∈ l, P x) → ∀ x ∈ order g k l i, P x
  | 0, l, i, hl, h => h
  | k + 1, l, i, hl, h => by
    cases e : l[i]? with
    | none => rw [order_end e]; exact h
    | some s =>
      rw [order_more e]
      have hs : s < g.n := hl s (List.mem_of_getElem? e)
      have ps := h s (List.mem_of_getElem? e)
      refine ord_all he ho T k _ _ (fun x hx => ?_) (fun x hx => ?_)
      · unfold grow at hx
        rw [mem_push, mem_push] at hx
        rcases hx with (h1 | h1) | h1
        · exact hl x h1
        · rw [h1]; exact T.e.to_lt hs
        · rw [h1]; exact T.o.to_lt hs
      · unfold grow at hx
        rw [mem_push, mem_push] at hx
        rcases hx with (h1 | h1) | h1
        · exact h x h1
        · rw [h1]; exact he s hs ps
        · rw [h1]; exact ho s hs ps
/-- a one-to-one step that stays in a list comes into it from nowhere else -/
theorem back_in {n : Nat} {l S : List Nat} (p : Pm n l) (nd : S.Nodup) (lt : ∀ x ∈ S, x < n) (cl : ∀ x ∈ S, to l x ∈ S) {x : Nat} (hx : x < n) (h : to l x ∈ S) : x ∈ S := by
  have nm : (S.map (to l)).Nodup := by
    rw [List.Nodup, List.pairwise_map]
    refine List.Pairwise.imp_of_mem (fun {a b} ha hb h e => h (p.to_inj (lt a ha) (lt b hb) e)) nd
  have q : (S.map (to l)).Perm S := perm_of nm (fun y hy => by
    obtain ⟨z, hz, rfl⟩ := List.mem_map.mp hy
    exact cl z hz) (by rw [List.length_map]; exact Nat.le_refl _)
  obtain ⟨z, hz, e⟩ := List.mem_map.mp (q.mem_iff.mpr h)
  rw [← p.to_inj (lt z hz) hx e]
  exact hz
/-- hung together from square 0 it hangs together from each -/
theorem whole_from {g : Glued} (T : Two g) (w : g.whole = true) {s : Nat} (hs : s < g.n) : Pm g.n (orderFrom g s) := by
  have O := ord_done T hs
  have h0 : 0 < g.n := by omega
  have O0 := ord_done T h0
  have w0 : (orderFrom g 0).length = g.n := by
    unfold Glued.whole at w
    exact beq_iff_eq.mp w
  have P0 : Pm g.n (orderFrom g 0) := Pm.mk' O0.nd O0.lt w0
  have cle : ∀ x ∈ orderFrom g s, to g.east x ∈ orderFrom g s := fun x hx => by
    obtain ⟨j, hj, e⟩ := List.getElem_of_mem hx
    exact (O.cl j x hj (by rw [List.getElem?_eq_getElem hj, e])).1
  have clo : ∀ x ∈ orderFrom g s, to g.north x ∈ orderFrom g s := fun x hx => by
    obtain ⟨j, hj, e⟩ := List.getElem_of_mem hx
    exact (O.cl j x hj (by rw [List.getElem?_eq_getElem hj, e])).2
  have hss : s ∈ orderFrom g s := List.mem_of_getElem? O.hs
  have z : 0 ∈ orderFrom g s := by
    by_cases c : 0 ∈ orderFrom g s
    · exact c
    · exact absurd hss (ord_all (P := fun x => x ∉ orderFrom g s) (fun x hx h q => h (back_in T.e O.nd O.lt cle hx q)) (fun x hx h q => h (back_in T.o O.nd O.lt clo hx q)) T (g.n + 1) [0] 0
        (fun x hx => by rw [List.mem_singleton.mp hx]; exact h0) (fun x hx => by rw [List.mem_singleton.mp hx]; exact c) s (P0.all s hs))
  have all : ∀ x, x < g.n → x ∈ orderFrom g s := fun x hx => ord_all (P := fun x => x ∈ orderFrom g s) (fun x _ h => cle x h) (fun x _ h => clo x h) T (g.n + 1) [0] 0
    (fun x hx => by rw [List.mem_singleton.mp hx]; exact h0) (fun x hx => by rw [List.mem_singleton.mp hx]; exact z) x (P0.all x hx)
  have p : (List.range g.n).Perm (orderFrom g s) := perm_of List.nodup_range (fun x hx => all x (List.mem_range.mp hx)) (by rw [List.length_range]; exact O.small)
  exact Pm.of_perm p.symm
end Gs
end
section
set_option autoImplicit false
namespace Gs
open Krct
/-! ## going round -/
/-- a one-to-one step among the squares -/
structure Inj (n : Nat) (f : Nat → Nat) : Prop where
  lt : ∀ x, x < n → f x < n
  inj : ∀ x y, x < n → y < n → f x = f y → x = y
theorem Pm.stepTo {n : Nat} {l : List Nat} (p : Pm n l) : Inj n (to l) := ⟨fun _ h => p.to_lt h, fun _ _ hs ht e => p.to_inj hs ht e⟩
theorem Pm.stepFrom {n : Nat} {l : List Nat} (p : Pm n l) : Inj n (from_ l) := ⟨fun _ h => p.from_lt h, fun _ _ hs ht e => p.from_inj hs ht e⟩
theorem Inj.comp {n : Nat} {f h : Nat → Nat} (a : Inj n f) (b : Inj n h) : Inj n (fun x => h (f x)) := ⟨fun x hx => b.lt _ (a.lt x hx), fun x y hx hy e => a.inj x y hx hy (b.inj _ _ (a.lt x hx) (a.lt y hy) e)⟩
theorem go_lt {g : Glued} (T : Two g) {s d : Nat} (h : s < g.n) : g.go s d < g.n := by
  unfold Glued.go
  split
  · exact T.e.to_lt h
  · split
    · exact T.o.to_lt h
    · split
      · exact T.e.from_lt h
      · exact T.o.from_lt h
theorem walk_lt {g : Glued} (T : Two g) : ∀ (l : List Nat) {s : Nat}, s < g.n → g.walk s l < g.n
  | [], _, h => h
  | d :: l, _, h => walk_lt T l (go_lt T h)
theorem round_eq (g : Glued) (s : Nat) : g.round s = from_ g.north (from_ g.east (to g.north (to g.east s))) := rfl
theorem round_inj {g : Glued} (T : Two g) : Inj g.n g.round := (((T.e.stepTo.comp T.o.stepTo).comp T.e.stepFrom).comp T.o.stepFrom)
/-- behind some turns: the list so far and its last one -/
structure Cyc (n : Nat) (f : Nat → Nat) (s : Nat) (l : List Nat) (c : Nat) : Prop where
  nd : l.Nodup
  lt : ∀ x ∈ l, x < n
  hs : l[0]? = some s
  last : l[l.length - 1]? = some c
  pos : 0 < l.length
  step : ∀ j x, l[j]? = some x → j + 1 < l.length → l[j + 1]? = some (f x)
  go : cycle f (n + 1 - l.length) l c = cycleOf n f s
theorem Cyc.start {n : Nat} {f : Nat → Nat} {s : Nat} (hs : s < n) : Cyc n f s [s] s :=
  ⟨List.nodup_cons.mpr ⟨List.not_mem_nil, List.nodup_nil⟩, fun x hx => by rw [List.mem_singleton.mp hx]; exact hs, rfl, rfl, Nat.one_pos, fun j x _ h => by
    simp at h, by simp [cycleOf]⟩
theorem Cyc.small {n : Nat} {f : Nat → Nat} {s c : Nat} {l : List Nat} (C : Cyc n f s l c) : l.length ≤ n := len_le C.nd C.lt
theorem Cyc.cmem {n : Nat} {f : Nat → Nat} {s c : Nat} {l : List Nat} (C : Cyc n f s l c) : c ∈ l := List.mem_of_getElem? C.last
/-- the next one is there already just if it is the first -/
theorem Cyc.mem {n : Nat} {f : Nat → Nat} {s c : Nat} {l : List Nat} (I : Inj n f) (C : Cyc n f s l c) : f c ∈ l ↔ f c = s := by
  constructor
  · intro h
    obtain ⟨j, hj, e⟩ := List.getElem_of_mem h
    cases j with
    | zero =>
      have q := C.hs
      rw [List.getElem?_eq_getElem hj, e] at q
      exact Option.some.inj q
    | succ j =>
      have hj' : j < l.length := by omega
      have q := C.step j _ (List.getElem?_eq_getElem hj') hj
      rw [List.getElem?_eq_getElem hj, e] at q
      have q2 := I.inj _ _ (C.lt _ C.cmem) (C.lt _ (List.getElem_mem hj')) (Option.some.inj q)
      have q3 := C.last
      rw [q2, ← List.getElem?_eq_getElem hj'] at q3
      have := C.pos
      have q4 := (List.getElem?_inj (by omega) C.nd).mp q3
      omega
  · intro h
    rw [h]
    exact List.mem_of_getElem? C.hs
theorem cycle_in {f : Nat → Nat} {k c : Nat} {l : List Nat} (h : f c ∈ l) : cycle f (k + 1) l c = l := if_pos (List.contains_iff_mem.mpr h)
theorem cycle_out {f : Nat → Nat} {k c : Nat} {l : List Nat} (h : f c ∉ l) : cycle f (k + 1) l c = cycle f k (l ++ [f c]) (f c) := if_neg (fun q => h (List.contains_iff_mem.mp q))
theorem Cyc.turn {n : Nat} {f : Nat → Nat} {s c : Nat} {l : List Nat} (I : Inj n f) (C : Cyc n f s l c) (h : f c ≠ s) : Cyc n f s (l ++ [f c]) (f c) := by
  have nm : f c ∉ l := fun q => h ((C.mem I).mp q)
  have pos := C.pos
  refine ⟨?_, fun x hx => ?_, ?_, ?_, ?_, fun j x hx hj => ?_, ?_⟩
  · rw [← push_out nm]; exact push_nd C.nd
  · rcases List.mem_append.mp hx with q | q
    · exact C.lt x q
    · rw [List.mem_singleton.mp q]; exact I.lt _ (C.lt _ C.cmem)
  · rw [List.getElem?_append_left pos]; exact C.hs
  · rw [List.length_append, List.length_singleton, Nat.add_sub_cancel, List.getElem?_append_right (Nat.le_refl _), Nat.sub_self]; rfl
  · rw [List.length_append]; omega
  · rw [List.length_append, List.length_singleton] at hj
    have hj' : j < l.length := by omega
    rw [List.getElem?_append_left hj'] at hx
    by_cases q : j + 1 < l.length
    · rw [List.getElem?_append_left q]; exact C.step j x hx q
    · have e : j = l.length - 1 := by omega
      have e2 := C.last
      rw [← e, hx] at e2
      cases e2
      have e3 : j + 1 = l.length := by omega
      rw [e3, List.getElem?_append_right (Nat.le_refl _), Nat.sub_self]; rfl
  · have sm := C.small
    rw [← C.go]
    have q : n + 1 - l.length = (n + 1 - (l ++ [f c]).length) + 1 := by
      rw [List.length_append, List.length_singleton]; omega
    rw [q, cycle_out nm]
theorem Cyc.done {n : Nat} {f : Nat → Nat} {s c : Nat} {l : List Nat} (I : Inj n f) (C : Cyc n f s l c) (h : f c = s) : l = cycleOf n f s := by
  have sm := C.small
  rw [← C.go]
  have q : n + 1 - l.length = (n - l.length) + 1 := by omega
  rw [q, cycle_in ((C.mem I).mpr h)]
/-- the cycles met by the first i squares -/
def cycs (n : Nat) (f : Nat → Nat) (i : Nat) : List (List Nat) := (List.range i).foldl (fun l s => if l.any fun c => c.contains s then l else l ++ [cycleOf n f s]) []
theorem cycs_all (n : Nat) (f : Nat → Nat) : cycs n f n = cycles n f := rfl
theorem any_flat {L : List (List Nat)} {s : Nat} : (L.any fun c => c.contains s) = true ↔ s ∈ L.flatten := by
  rw [List.any_eq_true, List.mem_flatten]
  constructor
  · rintro ⟨c, hc, h⟩; exact ⟨c, hc, List.contains_iff_mem.mp h⟩
  · rintro ⟨c, hc, h⟩; exact ⟨c, hc, List.contains_iff_mem.mpr h⟩
theorem cycs_in {n : Nat} {f : Nat → Nat} {i : Nat} (h : i ∈ (cycs n f i).flatten) : cycs n f (i + 1) = cycs n f i := by
  unfold cycs
  rw [List.range_succ, List.foldl_append]
  exact if_pos (any_flat.mpr h)
theorem cycs_out {n : Nat} {f : Nat → Nat} {i : Nat} (h : i ∉ (cycs n f i).flatten) : cycs n f (i + 1) = cycs n f i ++ [cycleOf n f i] := by
  unfold cycs
  rw [List.range_succ, List.foldl_append]
  exact if_neg (fun q => h (any_flat.mp q))
theorem cycs_len (n : Nat) (f : Nat → Nat) : ∀ i, (cycs n f i).length ≤ i
  | 0 => Nat.le_refl _
  | i + 1 => by
    by_cases h : i ∈ (cycs n f i).flatten
    · rw [cycs_in h]; exact Nat.le_succ_of_le (cycs_len n f i)
    · rw [cycs_out h, List.length_append]; exact Nat.succ_le_succ (cycs_len n f i)
theorem corners_le (g : Glued) : g.corners.length ≤ g.n := cycs_len _ _ _
theorem holes_eq (g : Glued) : ((g.holes : Nat) : Int) = ((g.n : Int) - (g.corners.length : Int)) / 2 + 1 := by
  have := corners_le g
  unfold Glued.holes
  omega
/-- it ends, too -/
theorem cyc_ex {n : Nat} {f : Nat → Nat} {s : Nat} (I : Inj n f) : ∀ (k : Nat) (l : List Nat) (c : Nat), n - l.length ≤ k → Cyc n f s l c → ∃ l' c', Cyc n f s l' c' ∧ f c' = s
  | 0, l, c, hk, C => by
    by_cases h : f c = s
    · exact ⟨l, c, C, h⟩
    · have a := (C.turn I h).small
      rw [List.length_append, List.length_singleton] at a
      omega
  | k + 1, l, c, hk, C => by
    by_cases h : f c = s
    · exact ⟨l, c, C, h⟩
    · exact cyc_ex I k _ _ (by rw [List.length_append, List.length_singleton]; omega) (C.turn I h)
theorem cyc_done {n : Nat} {f : Nat → Nat} {s : Nat} (I : Inj n f) (hs : s < n) : ∃ c, Cyc n f s (cycleOf n f s) c ∧ f c = s := by
  obtain ⟨l, c, C, h⟩ := cyc_ex I _ [s] s (Nat.le_refl _) (Cyc.start hs)
  rw [← C.done I h]
  exact ⟨c, C, h⟩
theorem cycs_lt {n : Nat} {f : Nat → Nat} (I : Inj n f) : ∀ i, i ≤ n → ∀ c ∈ cycs n f i, c.length ≤ n ∧ ∀ x ∈ c, x < n
  | 0, _, c, h => absurd h List.not_mem_nil
  | i + 1, hi, c, h => by
    by_cases q : i ∈ (cycs n f i).flatten
    · rw [cycs_in q] at h; exact cycs_lt I i (by omega) c h
    · rw [cycs_out q, List.mem_append] at h
      rcases h with h | h
      · exact cycs_lt I i (by omega) c h
      · rw [List.mem_singleton.mp h]
        obtain ⟨_, C, _⟩ := cyc_done I (show i < n by omega)
        exact ⟨C.small, C.lt⟩
theorem flat_len {n : Nat} : ∀ (L : List (List Nat)), (∀ c ∈ L, c.length ≤ n) → L.flatten.length ≤ L.length * n
  | [], _ => by simp
  | c :: L, h => by
    rw [List.flatten_cons, List.length_append, List.length_cons, Nat.succ_mul]
    have a := h c List.mem_cons_self
    have b := flat_len L (fun x hx => h x (List.mem_cons_of_mem _ hx))
    omega
/-! ## the name -/
def word (g : Glued) : List Nat := g.east ++ g.north
def nameFrom (g : Glued) (s : Nat) : List Nat := word (renamed g (orderFrom g s))
/-- the least of the first i + 1 -/
def leastTo (g : Glued) : Nat → List Nat
  | 0 => nameFrom g 0
  | i + 1 => if lexLess (nameFrom g (i + 1)) (leastTo g i) then nameFrom g (i + 1) else leastTo g i
theorem lexLess_irr : ∀ l : List Nat, lexLess l l = false
  | [] => rfl
  | a :: l => by
    unfold lexLess
    rw [lexLess_irr l]
    simp
theorem name_fold (g : Glued) : ∀ i, word ((List.range (i + 1)).foldl (fun m s => let x := renamed g (orderFrom g s)
  if less x m then x else m) (renamed g (orderFrom g 0))) = leastTo g i
  | 0 => by
    show word (if less (renamed g (orderFrom g 0)) (renamed g (orderFrom g 0)) then _ else _) = _
    split <;> rfl
  | i + 1 => by
    rw [List.range_succ, List.foldl_append]
    have ih := name_fold g i
    show word (if less (renamed g (orderFrom g (i + 1))) _ = true then renamed g (orderFrom g (i + 1)) else _) = if lexLess (nameFrom g (i + 1)) (leastTo g i) = true then nameFrom g (i + 1) else leastTo g i
    rw [← ih]
    have e : ∀ m, less (renamed g (orderFrom g (i + 1))) m = lexLess (nameFrom g (i + 1)) (word m) := fun _ => rfl
    rw [e]
    split <;> rfl
theorem name_eq {g : Glued} (h : 0 < g.n) : word (Krct.name g) = leastTo g (g.n - 1) := by
  rw [← name_fold]
  unfold Krct.name Glued.squares
  have : g.n = g.n - 1 + 1 := by omega
  rw [← this]
theorem nameFrom_len {g : Glued} (T : Two g) (w : g.whole = true) {s : Nat} (hs : s < g.n) : (nameFrom g s).length = 2 * g.n := by
  unfold nameFrom word renamed
  rw [List.length_append, List.length_map, List.length_map, (whole_from T w hs).len]
  omega
/-- renamed, all squares are told once again -/
theorem renamed_pm {n : Nat} {l m : List Nat} (p : Pm n l) (q : Pm n m) : Pm n (l.map fun s => l.idxOf (to m s)) := by
  refine Pm.mk' ?_ (fun x hx => ?_) (by rw [List.length_map, p.len])
  · rw [List.Nodup, List.pairwise_map]
    refine List.Pairwise.imp_of_mem (fun {a b} ha hb h e => h ?_) p.nd
    exact q.to_inj (p.lt a ha) (p.lt b hb) (p.from_inj (q.to_lt (p.lt a ha)) (q.to_lt (p.lt b hb)) e)
  · obtain ⟨y, hy, rfl⟩ := List.mem_map.mp hx
    exact p.from_lt (q.to_lt (p.lt y hy))
end Gs
end
section
set_option autoImplicit false
namespace Gs
open Krct
/-! ## renamed by a list -/
theorem to_map {n : Nat} {l : List Nat} {f : Nat → Nat} (p : Pm n l) {x : Nat} (hx : x < n) : to (l.map f) (l.idxOf x) = f x := by
  have h := get_from (p.all x hx)
  unfold to
  rw [List.getD_eq_getElem?_getD, List.getElem?_map]
  show ((l[from_ l x]?).map f).getD 0 = f x
  rw [h]
  rfl
theorem contains_map {n : Nat} {l m : List Nat} (p : Pm n l) (hm : ∀ x ∈ m, x < n) {t : Nat} (ht : t < n) : (m.map l.idxOf).contains (l.idxOf t) = m.contains t := by
  rw [Bool.eq_iff_iff, List.contains_iff_mem, List.contains_iff_mem, List.mem_map]
  constructor
  · rintro ⟨y, hy, e⟩
    rw [← p.from_inj (hm y hy) ht e]
    exact hy
  · intro h
    exact ⟨t, h, rfl⟩
theorem push_map {n : Nat} {l m : List Nat} (p : Pm n l) (hm : ∀ x ∈ m, x < n) {t : Nat} (ht : t < n) : push (m.map l.idxOf) (l.idxOf t) = (push m t).map l.idxOf := by
  unfold push
  rw [contains_map p hm ht]
  split
  · rfl
  · rw [List.map_append]; rfl
theorem order_map {g : Glued} (T : Two g) {l : List Nat} (p : Pm g.n l) : ∀ (k : Nat) (m : List Nat) (i : Nat), (∀ x ∈ m, x < g.n) → order (renamed g l) k (m.map l.idxOf) i = (order g k m i).map l.idxOf
  | 0, _, _, _ => rfl
  | k + 1, m, i, hm => by
    cases e : m[i]? with
    | none =>
      rw [order_end e, order_end (by rw [List.getElem?_map, e]; rfl)]
    | some s =>
      have hs : s < g.n := hm s (List.mem_of_getElem? e)
      rw [order_more e, order_more (s := l.idxOf s) (by rw [List.getElem?_map, e]; rfl)]
      have e1 : to (renamed g l).east (l.idxOf s) = l.idxOf (to g.east s) := to_map (f := fun s => l.idxOf (to g.east s)) p hs
      have e2 : to (renamed g l).north (l.idxOf s) = l.idxOf (to g.north s) := to_map (f := fun s => l.idxOf (to g.north s)) p hs
      have h1 : ∀ x ∈ push m (to g.east s), x < g.n := fun x hx => by
        rcases mem_push.mp hx with h | h
        · exact hm x h
        · rw [h]; exact T.e.to_lt hs
      have h2 : ∀ x ∈ grow g m s, x < g.n := fun x hx => by
        rcases mem_push.mp hx with h | h
        · exact h1 x h
        · rw [h]; exact T.o.to_lt hs
      have e3 : grow (renamed g l) (m.map l.idxOf) (l.idxOf s) = (grow g m s).map l.idxOf := by
        unfold grow
        rw [e1, e2, push_map p hm (T.e.to_lt hs), push_map p h1 (T.o.to_lt hs)]
      rw [e3]
      exact order_map T p k _ _ h2
theorem renamed_two {g : Glued} (T : Two g) {l : List Nat} (p : Pm g.n l) : Two (renamed g l) := ⟨renamed_pm p T.e, renamed_pm p T.o⟩
theorem renamed_whole {g : Glued} (T : Two g) (w : g.whole = true) (h0 : 0 < g.n) {l : List Nat} (p : Pm g.n l) : (renamed g l).whole = true := by
  have hl : 0 < l.length := by rw [p.len]; exact h0
  have hx : l[0] < g.n := p.lt _ (List.getElem_mem hl)
  have e0 : l.idxOf l[0] = 0 := p.idx (List.getElem?_eq_getElem hl)
  have q := order_map T p (g.n + 1) [l[0]] 0 (fun x hx' => by rw [List.mem_singleton.mp hx']; exact hx)
  rw [List.map_singleton, e0] at q
  unfold Glued.whole
  rw [beq_iff_eq]
  show (order (renamed g l) (g.n + 1) [0] 0).length = g.n
  rw [q, List.length_map]
  exact (whole_from T w hx).len
/-! ## the same -/
theorem word_inj {a b : Glued} (hn : a.n = b.n) (la : a.east.length = a.n) (lb : b.east.length = b.n) : a = b ↔ word a = word b := by
  constructor
  · intro h; rw [h]
  · intro h
    have q := List.append_inj h (by rw [la, lb, hn])
    obtain ⟨n, e, o⟩ := a
    obtain ⟨n', e', o'⟩ := b
    simp only at hn q
    rw [hn, q.1, q.2]
theorem renamed_len {g : Glued} (T : Two g) (w : g.whole = true) {s : Nat} (hs : s < g.n) : (renamed g (orderFrom g s)).east.length = g.n := by
  show (List.map _ _).length = _
  rw [List.length_map, (whole_from T w hs).len]
/-- the name is what it is renamed to from some square -/
theorem name_some (g : Glued) : ∀ i, ∃ s, s ≤ i ∧ (List.range (i + 1)).foldl (fun m s => let x := renamed g (orderFrom g s)
  if less x m then x else m) (renamed g (orderFrom g 0)) = renamed g (orderFrom g s)
  | 0 => ⟨0, Nat.le_refl _, by
    show (if less (renamed g (orderFrom g 0)) (renamed g (orderFrom g 0)) = true then _ else _) = _
    split <;> rfl⟩
  | i + 1 => by
    obtain ⟨s, hs, e⟩ := name_some g i
    rw [List.range_succ, List.foldl_append, e]
    by_cases c : less (renamed g (orderFrom g (i + 1))) (renamed g (orderFrom g s)) = true
    · exact ⟨i + 1, Nat.le_refl _, if_pos c⟩
    · exact ⟨s, Nat.le_succ_of_le hs, if_neg c⟩
theorem name_from {g : Glued} (h : 0 < g.n) : ∃ s, s < g.n ∧ Krct.name g = renamed g (orderFrom g s) := by
  obtain ⟨s, hs, e⟩ := name_some g (g.n - 1)
  refine ⟨s, by omega, ?_⟩
  have q : g.n - 1 + 1 = g.n := by omega
  rw [q] at e
  exact e
theorem same_iff {a b : Glued} (hn : a.n = b.n) (h0 : 0 < a.n) (Ta : Two a) (wa : a.whole = true) (Tb : Two b) (wb : b.whole = true) : Krct.same a b = true ↔ word (Krct.name a) = word (Krct.name b) := by
  unfold Krct.same
  rw [Bool.and_eq_true, beq_iff_eq, beq_iff_eq]
  obtain ⟨s, hs, es⟩ := name_from h0
  obtain ⟨t, ht, et⟩ := name_from (g := b) (by rw [← hn]; exact h0)
  rw [es, et]
  have q := word_inj (a := renamed a (orderFrom a s)) (b := renamed b (orderFrom b t)) hn (renamed_len Ta wa hs) (renamed_len Tb wb ht)
  exact ⟨fun h => q.mp h.2, fun h => ⟨hn, q.mpr h⟩⟩
theorem selves_iff {g : Glued} (T : Two g) (w : g.whole = true) {s t : Nat} (hs : s < g.n) (ht : t < g.n) : (renamed g (orderFrom g s) == renamed g (orderFrom g t)) = true ↔ nameFrom g s = nameFrom g t := by
  rw [beq_iff_eq]
  exact word_inj rfl (renamed_len T w hs) (renamed_len T w ht)
/-! ## the list of calls -/
theorem whole_id (c : List (List Int)) : PyKrct.whole c = c := by
  unfold PyKrct.whole
  split <;> rfl
theorem whole_map (cs : List (List (List Int))) : cs.map PyKrct.whole = cs := by
  have e : PyKrct.whole = id := by funext c; exact whole_id c
  rw [e, List.map_id]
theorem calls_more {f : Nat} {p : Int} {r : List Int} {cs : List (List (List Int))} (h : PyFlat.calls PyKrct.shape f (p :: r) = some cs) :
    ∃ f' n k xs t cs', f = f' + 1 ∧ PyKrct.shape p = some (n, k) ∧ n ≤ r.length ∧ PyFlat.rows k (r.drop n) = some (xs, t) ∧ cs = ((p :: r.take n) :: xs) :: cs' ∧ PyFlat.calls PyKrct.shape f' t = some cs' := by
  cases f with
  | zero => cases h
  | succ f =>
    unfold PyFlat.calls PyFlat.call at h
    simp only at h
    cases e : PyKrct.shape p with
    | none => rw [e] at h; cases h
    | some nk =>
      obtain ⟨n, k⟩ := nk
      rw [e] at h
      simp only at h
      by_cases c : r.length < n
      · rw [if_pos c] at h; cases h
      · rw [if_neg c] at h
        cases e2 : PyFlat.rows k (r.drop n) with
        | none => rw [e2] at h; cases h
        | some xt =>
          obtain ⟨xs, t⟩ := xt
          rw [e2] at h
          simp only at h
          cases e3 : PyFlat.calls PyKrct.shape f t with
          | none => rw [e3] at h; cases h
          | some cs' =>
            rw [e3] at h
            cases h
            exact ⟨f, n, k, xs, t, cs', rfl, rfl, by omega, e2, rfl, e3⟩
theorem calls_nil {f : Nat} {cs : List (List (List Int))} (h : PyFlat.calls PyKrct.shape f [] = some cs) : cs = [] := by
  cases f <;> (cases h; rfl)
theorem rows_more {k : Nat} {r : List Int} {ys : List (List Int)} {t : List Int} (h : PyFlat.rows (k + 1) r = some (ys, t)) :
    ∃ (z : Nat) (r' : List Int) (ys' : List (List Int)), r = (z : Int) :: r' ∧ z ≤ r'.length ∧ ys = r'.take z :: ys' ∧ PyFlat.rows k (r'.drop z) = some (ys', t) := by
  unfold PyFlat.rows PyFlat.row at h
  cases r with
  | nil => cases h
  | cons a r' =>
    simp only at h
    by_cases c : 0 ≤ a ∧ a.toNat ≤ r'.length
    · rw [if_pos c] at h
      simp only at h
      cases e : PyFlat.rows k (r'.drop a.toNat) with
      | none => rw [e] at h; cases h
      | some yt =>
        obtain ⟨ys', t'⟩ := yt
        rw [e] at h
        cases h
        exact ⟨a.toNat, r', ys', by rw [Int.toNat_of_nonneg c.1], c.2, rfl, e⟩
    · rw [if_neg c] at h; cases h
theorem rows_none {r t : List Int} {ys : List (List Int)} (h : PyFlat.rows 0 r = some (ys, t)) : ys = [] ∧ t = r := by
  cases h; exact ⟨rfl, rfl⟩
end Gs
end
section
set_option autoImplicit false
namespace Gs
open Krct
/-- rows read one behind another -/
inductive RowsN : List Nat → List (List Nat) → List Nat → Prop
  | nil (r : List Nat) : RowsN r [] r
  | cons {z : Nat} {r : List Nat} {ys : List (List Nat)} {t : List Nat} : z ≤ r.length → RowsN (r.drop z) ys t → RowsN (z :: r) (r.take z :: ys) t
abbrev up (l : List Nat) : List Int := l.map Int.ofNat
theorem rowsN_of : ∀ {k : Nat} {u : List Nat} {xs : List (List Int)} {t : List Int}, PyFlat.rows k (up u) = some (xs, t) → ∃ (ys : List (List Nat)) (t' : List Nat), RowsN u ys t' ∧ xs = ys.map up ∧ t = up t' ∧ ys.length = k
  | 0, u, xs, t, h => by
    obtain ⟨rfl, rfl⟩ := rows_none h
    exact ⟨[], u, .nil u, rfl, rfl, rfl⟩
  | k + 1, u, xs, t, h => by
    obtain ⟨z, r', ys', e, hz, rfl, h2⟩ := rows_more h
    cases u with
    | nil => cases e
    | cons z' r =>
      rw [up, List.map_cons] at e
      injection e with e1 e2
      have e3 : z' = z := by
        have : (z' : Int) = (z : Int) := e1
        omega
      subst e3
      subst e2
      rw [List.length_map] at hz
      rw [← List.map_drop] at h2
      obtain ⟨ys, t', hR, rfl, rfl, hl⟩ := rowsN_of h2
      exact ⟨r.take z' :: ys, t', .cons hz hR, by rw [List.map_cons, ← List.map_take], rfl, by rw [List.length_cons, hl]⟩
/-- a call by its number, its whole numbers and its rows -/
inductive CallN : Nat → List Nat → List (List Nat) → Krct.Call → Prop
  | begin_ (n : Nat) : CallN 0 [n] [] (.begin_ n)
  | glue (l k : List Nat) : CallN 1 [] [l, k] (.glue l k)
  | go (s d : Nat) : CallN 2 [s, d] [] (.go s d)
  | walk (s : Nat) (l : List Nat) : CallN 3 [s] [l] (.walk s l)
  | corners : CallN 4 [] [] .corners
  | corner (s : Nat) : CallN 5 [s] [] (.corner s)
  | holes : CallN 6 [] [] .holes
  | name : CallN 7 [] [] .name
  | same (l k : List Nat) : CallN 8 [] [l, k] (.same l k)
  | selves : CallN 9 [] [] .selves
  | rename (l : List Nat) : CallN 10 [] [l] (.rename l)
  | rows : CallN 11 [] [] .rows
  | columns : CallN 12 [] [] .columns
  | near (s t : Nat) : CallN 13 [s, t] [] (.near s t)
  | state : CallN 14 [] [] .state
/-- how many whole numbers and rows, by the call's number -/
def shapes : List (Nat × Nat) := [(1, 0), (0, 2), (2, 0), (1, 1), (0, 0), (1, 0), (0, 0), (0, 0), (0, 2), (0, 0), (0, 1), (0, 0), (0, 0), (2, 0), (0, 0)]
theorem shape_at {c : Nat} {nk : Nat × Nat} (h : PyKrct.shape (c : Int) = some nk) : shapes[c]? = some nk := by
  by_cases hc : c < 15
  · have all : ∀ c : Fin 15, PyKrct.shape ((c.val : Nat) : Int) = shapes[c.val]? := by decide
    have := all ⟨c, hc⟩
    rw [← h]
    exact this.symm
  · exfalso
    unfold PyKrct.shape at h
    rw [if_neg (by omega), if_neg (by omega), if_neg (by omega), if_neg (by omega), if_neg (by omega), if_neg (by omega), if_neg (by omega), if_neg (by omega), if_neg (by omega), if_neg (by omega), if_neg (by omega), if_neg (by omega), if_neg (by omega), if_neg (by omega), if_neg (by omega)] at h
    cases h
theorem up_back (l : List Nat) : (up l).map Int.toNat = l := by
  rw [up, List.map_map]
  have e : Int.toNat ∘ Int.ofNat = id := by funext x; rfl
  rw [e, List.map_id]
theorem len0 {α : Type} {l : List α} (h : l.length = 0) : l = [] := List.eq_nil_of_length_eq_zero h
theorem len1 {α : Type} {l : List α} (h : l.length = 1) : ∃ a, l = [a] := by
  match l, h with
  | [a], _ => exact ⟨a, rfl⟩
theorem len2 {α : Type} {l : List α} (h : l.length = 2) : ∃ a b, l = [a, b] := by
  match l, h with
  | [a, b], _ => exact ⟨a, b, rfl⟩
theorem callN_of {c n k : Nat} {xs : List Nat} {ys : List (List Nat)} (h : shapes[c]? = some (n, k)) (hx : xs.length = n) (hy : ys.length = k) : CallN c xs ys (KrctNeutral.call (up (c :: xs) :: ys.map up)) := by
  have hc : c < 15 := (List.getElem?_eq_some_iff.mp h).1
  match c, hc, h with
  | 0, _, h =>
    cases h
    obtain ⟨a, rfl⟩ := len1 hx
    obtain rfl := len0 hy
    exact .begin_ a
  | 1, _, h =>
    cases h
    obtain ⟨a, b, rfl⟩ := len2 hy
    obtain rfl := len0 hx
    have e : KrctNeutral.call (up [1] :: [a, b].map up) = .glue a b := by
      show Krct.Call.glue ((up a).map Int.toNat) ((up b).map Int.toNat) = _
      rw [up_back, up_back]
    rw [e]
    exact .glue a b
  | 2, _, h =>
    cases h
    obtain ⟨a, b, rfl⟩ := len2 hx
    obtain rfl := len0 hy
    exact .go a b
  | 3, _, h =>
    cases h
    obtain ⟨a, rfl⟩ := len1 hx
    obtain ⟨l, rfl⟩ := len1 hy
    have e : KrctNeutral.call (up [3, a] :: [l].map up) = .walk a l := by
      show Krct.Call.walk a ((up l).map Int.toNat) = _
      rw [up_back]
    rw [e]
    exact .walk a l
  | 4, _, h =>
    cases h
    obtain rfl := len0 hx
    obtain rfl := len0 hy
    exact .corners
  | 5, _, h =>
    cases h
    obtain ⟨a, rfl⟩ := len1 hx
    obtain rfl := len0 hy
    exact .corner a
  | 6, _, h =>
    cases h
    obtain rfl := len0 hx
    obtain rfl := len0 hy
    exact .holes
  | 7, _, h =>
    cases h
    obtain rfl := len0 hx
    obtain rfl := len0 hy
    exact .name
  | 8, _, h =>
    cases h
    obtain ⟨a, b, rfl⟩ := len2 hy
    obtain rfl := len0 hx
    have e : KrctNeutral.call (up [8] :: [a, b].map up) = .same a b := by
      show Krct.Call.same ((up a).map Int.toNat) ((up b).map Int.toNat) = _
      rw [up_back, up_back]
    rw [e]
    exact .same a b
  | 9, _, h =>
    cases h
    obtain rfl := len0 hx
    obtain rfl := len0 hy
    exact .selves
  | 10, _, h =>
    cases h
    obtain ⟨l, rfl⟩ := len1 hy
    obtain rfl := len0 hx
    have e : KrctNeutral.call (up [10] :: [l].map up) = .rename l := by
      show Krct.Call.rename ((up l).map Int.toNat) = _
      rw [up_back]
    rw [e]
    exact .rename l
  | 11, _, h =>
    cases h
    obtain rfl := len0 hx
    obtain rfl := len0 hy
    exact .rows
  | 12, _, h =>
    cases h
    obtain rfl := len0 hx
    obtain rfl := len0 hy
    exact .columns
  | 13, _, h =>
    cases h
    obtain ⟨a, b, rfl⟩ := len2 hx
    obtain rfl := len0 hy
    exact .near a b
  | 14, _, h =>
    cases h
    obtain rfl := len0 hx
    obtain rfl := len0 hy
    exact .state
/-- behind some calls: what is left to be read, the state, what is given so far -/
structure Play (all : List Int) (u : List Nat) (x : Option Glued) (out : List Int) : Prop where
  ex : ∃ (f : Nat) (cs : List (List (List Int))), PyFlat.calls PyKrct.shape f (up u) = some cs ∧ all = out ++ PyFlat.told (PyFlat.played KrctNeutral.step x cs)
theorem Play.start {ns : List Int} {u : List Nat} (e : ns = up u) (h : PyKrct.answers_asked ns = true) : Play (PyKrct.answers ns) u none [] ∧ (PyKrct.answers ns).length ≤ 10000000 := by
  unfold PyKrct.answers_asked at h
  cases q : PyFlat.calls PyKrct.shape ns.length ns with
  | none => rw [q] at h; cases h
  | some raw =>
    rw [q] at h
    simp only [Bool.and_eq_true] at h
    refine ⟨⟨ns.length, raw, by rw [← e]; exact q, ?_⟩, of_decide_eq_true h.2⟩
    unfold PyKrct.answers PyKrct.calls
    rw [q]
    show PyFlat.told (PyFlat.played KrctNeutral.step KrctNeutral.start (raw.map PyKrct.whole)) = _
    rw [whole_map]
    rfl
theorem Play.done {all : List Int} {x : Option Glued} {out : List Int} (h : Play all [] x out) : all = out := by
  obtain ⟨f, cs, q, e⟩ := h.ex
  rw [calls_nil q] at e
  rw [e]
  show out ++ [] = out
  rw [List.append_nil]
theorem Play.turn {all : List Int} {c : Nat} {r : List Nat} {x : Option Glued} {out : List Int} (h : Play all (c :: r) x out) :
    ∃ (n k : Nat) (ys : List (List Nat)) (t : List Nat) (cl : Krct.Call), shapes[c]? = some (n, k) ∧ n ≤ r.length ∧ RowsN (r.drop n) ys t ∧ ys.length = k ∧ CallN c (r.take n) ys cl ∧
      Play all t (act x cl).1 (out ++ ((KrctNeutral.told (act x cl).2).length : Int) :: KrctNeutral.told (act x cl).2) := by
  obtain ⟨f, cs, q, e⟩ := h.ex
  obtain ⟨f', n, k, xs, t, cs', rfl, hs, hn, hr, rfl, hc⟩ := calls_more q
  rw [List.length_map] at hn
  rw [← List.map_drop] at hr
  obtain ⟨ys, t', hR, rfl, rfl, hl⟩ := rowsN_of hr
  have hsh := shape_at hs
  have hx : (r.take n).length = n := by rw [List.length_take]; omega
  refine ⟨n, k, ys, t', _, hsh, hn, hR, hl, callN_of hsh hx hl, f', cs', hc, ?_⟩
  rw [e]
  have e2 : (Int.ofNat c :: (List.map Int.ofNat r).take n) :: ys.map up = up (c :: r.take n) :: ys.map up := by
    rw [← List.map_take]
    rfl
  rw [e2]
  show out ++ (((KrctNeutral.told (act x (KrctNeutral.call (up (c :: r.take n) :: ys.map up))).2).length : Int) :: KrctNeutral.told (act x (KrctNeutral.call (up (c :: r.take n) :: ys.map up))).2 ++ PyFlat.told (PyFlat.played KrctNeutral.step (act x (KrctNeutral.call (up (c :: r.take n) :: ys.map up))).1 cs')) = _
  rw [← List.append_assoc]
theorem Play.len {all : List Int} {u : List Nat} {x : Option Glued} {out : List Int} (h : Play all u x out) : out.length ≤ all.length := by
  obtain ⟨f, cs, q, e⟩ := h.ex
  rw [e, List.length_append]
  omega
end Gs
end
section
set_option autoImplicit false
namespace Gs
open Krct
/-! ## near -/
/-- some squares in turn, each behind the list if it is not there -/
def pushAll (m ts : List Nat) : List Nat := ts.foldl push m
theorem mem_pushAll {x : Nat} : ∀ (ts m : List Nat), x ∈ pushAll m ts ↔ x ∈ m ∨ x ∈ ts
  | [], m => by
    show x ∈ m ↔ _
    simp
  | t :: ts, m => by
    show x ∈ pushAll (push m t) ts ↔ _
    rw [mem_pushAll ts, mem_push, List.mem_cons, or_assoc]
theorem pushAll_nd : ∀ (ts m : List Nat), m.Nodup → (pushAll m ts).Nodup
  | [], _, h => h
  | t :: ts, m, h => pushAll_nd ts (push m t) (push_nd h)
theorem pushAll_pre : ∀ (ts m : List Nat), ∃ r, pushAll m ts = m ++ r
  | [], m => ⟨[], (List.append_nil m).symm⟩
  | t :: ts, m => by
    obtain ⟨r1, e1⟩ := push_pre m t
    obtain ⟨r2, e2⟩ := pushAll_pre ts (push m t)
    refine ⟨r1 ++ r2, ?_⟩
    show pushAll (push m t) ts = _
    rw [e2, e1, List.append_assoc]
theorem pushAll_app (m a b : List Nat) : pushAll m (a ++ b) = pushAll (pushAll m a) b := List.foldl_append
theorem pushAll_one (m : List Nat) (t : Nat) : pushAll m [t] = push m t := rfl
/-- the squares beside one -/
def beside (g : Glued) (s : Nat) : List Nat := [g.go s 0, g.go s 1, g.go s 2, g.go s 3]
def wideS (g : Glued) (l : List Nat) : List Nat := pushAll l (l.flatMap (beside g))
theorem wide_fold (g : Glued) : ∀ (l m : List Nat), l.foldl (fun m s => [0, 1, 2, 3].foldl (fun m d => if m.contains (g.go s d) then m else m ++ [g.go s d]) m) m = pushAll m (l.flatMap (beside g))
  | [], _ => rfl
  | s :: l, m => by
    rw [List.foldl_cons, wide_fold g l, List.flatMap_cons, pushAll_app]
    rfl
theorem far_in {g : Glued} {t f k : Nat} {l : List Nat} (h : t ∈ l) : far g t (f + 1) l k = k := if_pos (List.contains_iff_mem.mpr h)
theorem far_out {g : Glued} {t f k : Nat} {l : List Nat} (h : t ∉ l) : far g t (f + 1) l k = far g t f (wideS g l) (k + 1) := by
  unfold wideS
  rw [← wide_fold]
  exact if_neg (fun q => h (List.contains_iff_mem.mp q))
/-- step by step, of each step from all squares -/
def along (g : Glued) (l : List Nat) (d : Nat) : List Nat := l.map fun s => g.go s d
def wideTo (g : Glued) (l : List Nat) (i : Nat) : List Nat := pushAll l ((List.range i).flatMap (along g l))
theorem wideTo_zero (g : Glued) (l : List Nat) : wideTo g l 0 = l := rfl
theorem wideTo_succ (g : Glued) (l : List Nat) (i : Nat) : wideTo g l (i + 1) = pushAll (wideTo g l i) (along g l i) := by
  unfold wideTo
  rw [List.range_succ, List.flatMap_append, pushAll_app, List.flatMap_singleton]
theorem mem_wideTo {g : Glued} {l : List Nat} {x : Nat} : x ∈ wideTo g l 4 ↔ x ∈ wideS g l := by
  unfold wideTo wideS
  rw [mem_pushAll, mem_pushAll, List.mem_flatMap, List.mem_flatMap]
  refine or_congr Iff.rfl ⟨?_, ?_⟩
  · rintro ⟨d, hd, h⟩
    obtain ⟨s, hs, rfl⟩ := List.mem_map.mp h
    refine ⟨s, hs, ?_⟩
    have hd4 : d < 4 := List.mem_range.mp hd
    unfold beside
    match d, hd4 with
    | 0, _ => simp
    | 1, _ => simp
    | 2, _ => simp
    | 3, _ => simp
  · rintro ⟨s, hs, h⟩
    unfold beside at h
    simp only [List.mem_cons, List.not_mem_nil, or_false] at h
    rcases h with h | h | h | h
    · exact ⟨0, by decide, List.mem_map.mpr ⟨s, hs, h.symm⟩⟩
    · exact ⟨1, by decide, List.mem_map.mpr ⟨s, hs, h.symm⟩⟩
    · exact ⟨2, by decide, List.mem_map.mpr ⟨s, hs, h.symm⟩⟩
    · exact ⟨3, by decide, List.mem_map.mpr ⟨s, hs, h.symm⟩⟩
theorem wideS_congr {g : Glued} {a b : List Nat} (h : ∀ x, x ∈ a ↔ x ∈ b) {x : Nat} : x ∈ wideS g a ↔ x ∈ wideS g b := by
  unfold wideS
  rw [mem_pushAll, mem_pushAll, List.mem_flatMap, List.mem_flatMap]
  exact or_congr (h x) ⟨fun ⟨s, hs, q⟩ => ⟨s, (h s).mp hs, q⟩, fun ⟨s, hs, q⟩ => ⟨s, (h s).mpr hs, q⟩⟩
/-- a list of squares, none twice -/
structure Some_ (n : Nat) (c : List Nat) : Prop where
  nd : c.Nodup
  lt : ∀ x ∈ c, x < n
theorem Some_.len {n : Nat} {c : List Nat} (h : Some_ n c) : c.length ≤ n := len_le h.nd h.lt
theorem Some_.push {n t : Nat} {c : List Nat} (h : Some_ n c) (ht : t < n) : Some_ n (push c t) := ⟨push_nd h.nd, fun x hx => by
  rcases mem_push.mp hx with q | q
  · exact h.lt x q
  · rw [q]; exact ht⟩
theorem Some_.all {n : Nat} : ∀ {ts c : List Nat}, Some_ n c → (∀ t ∈ ts, t < n) → Some_ n (pushAll c ts)
  | [], _, h, _ => h
  | t :: ts, c, h, q => Some_.all (ts := ts) (c := Gs.push c t) (h.push (q t List.mem_cons_self)) (fun x hx => q x (List.mem_cons_of_mem _ hx))
theorem Some_.along {g : Glued} (T : Two g) {c : List Nat} (h : Some_ g.n c) (d : Nat) : ∀ t ∈ along g c d, t < g.n := fun t ht => by
  obtain ⟨s, hs, rfl⟩ := List.mem_map.mp ht
  exact go_lt T (h.lt s hs)
theorem Some_.wideTo {g : Glued} (T : Two g) {c : List Nat} (h : Some_ g.n c) (i : Nat) : Some_ g.n (wideTo g c i) := h.all fun t ht => by
  obtain ⟨d, _, q⟩ := List.mem_flatMap.mp ht
  exact h.along T d t q
/-- behind k turns: what is reached -/
structure Near (g : Glued) (s t : Nat) (c : List Nat) (k : Nat) : Prop where
  so : Some_ g.n c
  hs : s ∈ c
  len : k + 1 ≤ c.length
  ex : ∃ l, (∀ x, x ∈ c ↔ x ∈ l) ∧ far g t (g.n - k) l k = far g t g.n [s] 0
theorem Near.start {g : Glued} {s t : Nat} (hs : s < g.n) : Near g s t [s] 0 :=
  ⟨⟨List.nodup_cons.mpr ⟨List.not_mem_nil, List.nodup_nil⟩, fun x hx => by rw [List.mem_singleton.mp hx]; exact hs⟩, List.mem_singleton.mpr rfl, Nat.le_refl _, [s], fun _ => Iff.rfl, rfl⟩
theorem Near.done {g : Glued} {s t k : Nat} {c : List Nat} (h : Near g s t c k) (ht : t ∈ c) : far g t g.n [s] 0 = k := by
  obtain ⟨l, hl, e⟩ := h.ex
  have a := h.so.len
  have b := h.len
  have q : g.n - k = (g.n - (k + 1)) + 1 := by omega
  rw [← e, q, far_in ((hl t).mp ht)]
/-- not all reached: one more, at least -/
theorem wide_more {g : Glued} (T : Two g) (w : g.whole = true) {s t : Nat} (ht : t < g.n) {c : List Nat} (h : Some_ g.n c) (hs : s ∈ c) (ho : t ∉ c) : c.length + 1 ≤ (wideTo g c 4).length := by
  obtain ⟨r, e⟩ := pushAll_pre ((List.range 4).flatMap (along g c)) c
  cases r with
  | cons x r =>
    unfold wideTo
    rw [e, List.length_append, List.length_cons]
    omega
  | nil =>
    exfalso
    rw [List.append_nil] at e
    have cl : ∀ d, d < 4 → ∀ x ∈ c, g.go x d ∈ c := fun d hd x hx => by
      have : g.go x d ∈ pushAll c ((List.range 4).flatMap (along g c)) := (mem_pushAll _ _).mpr (.inr (List.mem_flatMap.mpr ⟨d, List.mem_range.mpr hd, List.mem_map.mpr ⟨x, hx, rfl⟩⟩))
      rw [e] at this
      exact this
    have hsn : s < g.n := h.lt s hs
    exact ho (ord_all (P := fun x => x ∈ c) (fun x _ q => cl 0 (by decide) x q) (fun x _ q => cl 1 (by decide) x q) T (g.n + 1) [s] 0
      (fun x hx => by rw [List.mem_singleton.mp hx]; exact hsn) (fun x hx => by rw [List.mem_singleton.mp hx]; exact hs) t ((whole_from T w hsn).all t ht))
theorem Near.turn {g : Glued} (T : Two g) (w : g.whole = true) {s t k : Nat} (ht : t < g.n) {c : List Nat} (h : Near g s t c k) (ho : t ∉ c) : Near g s t (wideTo g c 4) (k + 1) := by
  obtain ⟨l, hl, e⟩ := h.ex
  have a := h.so.len
  have b := h.len
  have m := wide_more T w ht h.so h.hs ho
  have q : g.n - k = (g.n - (k + 1)) + 1 := by omega
  refine ⟨h.so.wideTo T 4, mem_wideTo.mpr ((mem_pushAll _ _).mpr (.inl h.hs)), by omega, wideS g l, fun x => mem_wideTo.trans (wideS_congr hl), ?_⟩
  rw [← e, q, far_out (fun z => ho ((hl t).mpr z))]
/-! ## selves -/
theorem up_inj {a b : List Nat} : up a = up b ↔ a = b := by
  constructor
  · intro h
    have := congrArg (List.map Int.toNat) h
    rw [up_back, up_back] at this
    exact this
  · intro h; rw [h]
def namesOf (g : Glued) : List (List Int) := (List.range g.n).map fun s => up (nameFrom g s)
theorem selves_count {g : Glued} (T : Two g) (w : g.whole = true) (h0 : 0 < g.n) : ((namesOf g).countP fun y => decide (y = up (nameFrom g 0))) = selves g := by
  unfold namesOf selves Glued.squares
  rw [List.countP_map, List.countP_eq_length_filter]
  congr 1
  refine List.filter_congr fun s hs => ?_
  show decide (up (nameFrom g s) = up (nameFrom g 0)) = _
  rw [Bool.eq_iff_iff, decide_eq_true_iff, up_inj]
  exact (selves_iff T w (List.mem_range.mp hs) h0).symm
theorem same_eq {a b : Glued} (hn : a.n = b.n) (h0 : 0 < a.n) (Ta : Two a) (wa : a.whole = true) (Tb : Two b) (wb : b.whole = true) : decide (up (word (Krct.name b)) = up (word (Krct.name a))) = Krct.same a b := by
  rw [Bool.eq_iff_iff, decide_eq_true_iff, up_inj, same_iff hn h0 Ta wa Tb wb]
  exact eq_comm
/-! ## by some steps, again and again -/
theorem goInj {g : Glued} (T : Two g) (d : Nat) : Inj g.n fun s => g.go s d := by
  have e : (fun s => g.go s d) = if d = 0 then to g.east else if d = 1 then to g.north else if d = 2 then from_ g.east else from_ g.north := by
    funext s
    unfold Glued.go
    split
    · rfl
    · split
      · rfl
      · split <;> rfl
  rw [e]
  split
  · exact T.e.stepTo
  · split
    · exact T.o.stepTo
    · split
      · exact T.e.stepFrom
      · exact T.o.stepFrom
theorem walkInj {g : Glued} (T : Two g) : ∀ ds : List Nat, Inj g.n fun s => g.walk s ds
  | [] => ⟨fun _ h => h, fun _ _ _ _ e => e⟩
  | d :: ds => (goInj T d).comp (walkInj T ds)
/-- the rounds by some steps -/
def rounds (g : Glued) (ds : List Nat) : List (List Nat) := cycles g.n fun s => g.walk s ds
theorem rounds_le (g : Glued) (ds : List Nat) : (rounds g ds).length ≤ g.n := cycs_len _ _ _
theorem rounds_corners (g : Glued) : rounds g [0, 1, 2, 3] = g.corners := rfl
theorem rounds_rows (g : Glued) : rounds g [0] = cycles g.n (to g.east) := rfl
theorem rounds_columns (g : Glued) : rounds g [1] = cycles g.n (to g.north) := rfl
end Gs
end
section
set_option maxRecDepth 100000
set_option maxHeartbeats 4000000
namespace Gs
open PySem L2
def top (i : Nat) : Stmt := PySem.Challenge.pw_gluedsquares_s01_answers.main.body.getD i (.Pass ⟨0, 0, 0, 0⟩)
abbrev sTells : Stmt := top 28
abbrev sTurned : Stmt := top 29
abbrev sOrder : Stmt := top 30
abbrev sHang : Stmt := top 31
abbrev sRenamed : Stmt := top 32
abbrev sRenFrom : Stmt := top 33
abbrev sNames : Stmt := top 34
abbrev sLeast : Stmt := top 35
abbrev sFault : Stmt := top 36
abbrev sLed : Stmt := top 37
abbrev sRound : Stmt := top 38
abbrev sSizes : Stmt := top 39
abbrev sWith : Stmt := top 40
abbrev sFewest : Stmt := top 41
abbrev sCounted : Stmt := top 42
abbrev cSurf : Stmt := top 43
abbrev cRead : Stmt := top 44
abbrev sAnswer : Stmt := top 45
abbrev sAnswers : Stmt := top 46
/-- whole numbers as values -/
def nv (l : List Nat) : List V := l.map fun (x : Nat) => V.int (x : Int)
theorem nv_len (l : List Nat) : (nv l).length = l.length := List.length_map _
theorem nv_get {l : List Nat} {i x : Nat} (h : l[i]? = some x) : (nv l)[i]? = some (V.int (x : Int)) := by
  unfold nv
  rw [List.getElem?_map, h]
  rfl
theorem nv_at {l : List Nat} {i : Nat} {v : V} (h : (nv l)[i]? = some v) : ∃ x, l[i]? = some x ∧ v = V.int (x : Int) := by
  unfold nv at h
  rw [List.getElem?_map] at h
  cases e : l[i]? with
  | none => rw [e] at h; cases h
  | some x => rw [e] at h; exact ⟨x, rfl, (Option.some.inj h).symm⟩
theorem nv_ints (l : List Nat) : nv l = (l.map Int.ofNat).map V.int := by
  unfold nv
  rw [List.map_map]
  rfl
theorem nv_app (a b : List Nat) : nv (a ++ b) = nv a ++ nv b := List.map_append
theorem nv_set (l : List Nat) (i x : Nat) : nv (l.set i x) = (nv l).set i (V.int (x : Int)) := by
  unfold nv
  rw [List.map_set]
/-- the built-in names that the top leaves alone -/
structure Bn (mg : Str → Option Value) : Prop where
  len : mg "len" = none
  enumerate : mg "enumerate" = none
  range : mg "range" = none
  list : mg "list" = none
  sorted : mg "sorted" = none
  min : mg "min" = none
  max : mg "max" = none
theorem same_new {H : Hp} {p : Addr} {o : HO} (h : H p = none) : Same H (upd H p o) := fun b u e => by
  rw [upd_ne (ne_of_none e h)]
  exact e
/-- what was not there at first may change -/
theorem same_put {H0 H : Hp} {p : Addr} {o : HO} (s : Same H0 H) (h : H0 p = none) : Same H0 (upd H p o) := fun b u e => by
  rw [upd_ne (ne_of_none e h)]
  exact s b u e
theorem at_nat {xs : List V} {i : Nat} {v : V} (h : xs[i]? = some v) : atI xs (i : Int) = some v := by
  have hi : i < xs.length := (List.getElem?_eq_some_iff.mp h).1
  unfold atI
  have e : ixN xs.length (i : Int) = some i := by
    unfold ixN
    rw [if_pos (by omega), if_pos (by omega)]
    simp
  rw [e]
  exact h
theorem ix_nat {n j : Nat} (hj : j < n) : ixN n (j : Int) = some j := by
  unfold ixN
  rw [if_pos (by omega), if_pos (by omega)]
  simp
theorem in_nv (x : Nat) (l : List Nat) : inV (V.int (x : Int)) (nv l) = decide (x ∈ l) := by
  unfold inV nv
  rw [List.any_map, Bool.eq_iff_iff, List.any_eq_true, decide_eq_true_iff]
  constructor
  · rintro ⟨y, hy, e⟩
    have e2 : ((y : Int) == (x : Int)) = true := e
    have e3 : (y : Int) = (x : Int) := beq_iff_eq.mp e2
    have e4 : y = x := by omega
    rw [← e4]
    exact hy
  · intro h
    refine ⟨x, h, ?_⟩
    show ((x : Int) == (x : Int)) = true
    exact beq_self_eq_true _
theorem flat_nv (l : List Nat) : (nv l).all flatV = true := by
  unfold nv
  rw [List.all_map, List.all_eq_true]
  intro x _
  rfl
theorem ifT {c : Bool} {A B : Prop} (hc : c = true) (h : A) : if c = true then A else B := by
  rw [if_pos hc]
  exact h
theorem ifF {c : Bool} {A B : Prop} (hc : c = false) (h : B) : if c = true then A else B := by
  rw [hc, if_neg Bool.false_ne_true]
  exact h
theorem line_le {n : Nat} (h : n ≤ 16000000) : n ≤ sizeLine := by
  rw [sizeLine_eq]
  omega
theorem line_lt {n : Nat} (h : n ≤ 16000000) : n < sizeLine := by
  rw [sizeLine_eq]
  omega
end Gs
end
section
set_option maxRecDepth 100000
set_option maxHeartbeats 4000000
namespace Gs
open PySem L2
section
variable {P : Program} {w : World} {K : PySem.W.Frag} {mg : Str → Option Value} {base : Heap}
def spTurned (K : PySem.W.Frag) : Sp := fun vs H Q _ => ∃ (a : Addr) (n : Nat) (l : List Nat), vs = [.ref a] ∧ SqL K H a (nv l) ∧ Pm n l ∧ n ≤ 1000 ∧
  ∀ (H' : Hp) (p : Addr), Same H H' → H p = none → H' p = some (.lst (nv (inv l))) → Q (.ref p) H'
theorem scTurned : FnScope ["ones", "back", "square", "one"] ["ones"] (defScope sTurned) := ⟨rfl, rfl, rfl, by decide +kernel, rfl, by decide +kernel, by decide +kernel⟩
theorem ok_turned {f : Addr} {fd : FuncData} (F : Fun K "turned_back" "turned_back" sTurned f fd) (B : Bn mg) : FnOk P w K mg base CX0 1 f fd ["ones"] (spTurned K) := by
  refine F.ok scTurned (fun vs H Q E h => ?_) (fun cdv A outer s H vs Q E hr h => ?_)
  · obtain ⟨a, n, l, rfl, _⟩ := h
    rfl
  · obtain ⟨a, n, l, rfl, hS, pm, hn, k⟩ := h
    refine ⟨_, pss_cons (ps_set (i := 1) scTurned.nd rfl (.inl rfl) (pe_op op_rep (pe_lst (pa_cons pe_int pa_nil)) (pe_callB call_len_seq (by rfl) B.len PySem.boot_len (pa_cons (pv 0) pa_nil))))
      (pss_cons (ps_for PassesOwn.never rfl (pi_enum (by rfl) B.enumerate (pa_cons (pv 0) pa_nil))
          (pg_tup rfl (pgs_cons (pg_name (i := 2) scTurned.nd rfl (.inl rfl)) (pgs_cons (pg_name (i := 3) scTurned.nd rfl (.inl rfl)) pgs_nil)))
        (pss_one (ps_asg (pv 2) (pg_sub (pv 1) (pv 3) set_list))))
      (pss_one (ps_ret (pv 1)))), ?_⟩
    have hlen : l.length = n := pm.len
    refine ⟨line_le (by decide), fun z hz => ⟨_, rfl, a, nv l, rfl, .inl ((same_new hz).seq hS), z, _, _, rfl, rfl, upd_same, by omega, by rw [nv_len]; omega, by rw [nv_len]; exact line_le (by show 1 * _ ≤ _; omega), fun b hb => ?_⟩⟩
    have hzb : z ≠ b := ne_of_none upd_same hb
    have hb0 : H b = Option.none := (same_new hz).free hb
    have e0 : (List.replicate (Int.toNat ((nv l).length : Nat)) [V.int 0]).flatten = nv (List.replicate l.length 0) := by
      rw [Int.toNat_natCast, nv_len]
      unfold nv
      rw [List.map_replicate]
      clear k hS pm hlen
      induction l.length with
      | zero => rfl
      | succ m ih => rw [List.replicate_succ, List.flatten_cons, ih]; rfl
    rw [e0]
    have s1 : Same H (upd (upd H z (.lst [V.int 0])) b (.lst (nv (List.replicate l.length 0)))) := same_put (same_new hz) hb0
    refine ⟨_, rfl, a, nv l, rfl, s1.seq hS, for_it walk_enum (fun i σ H' => ∃ (u v : Option V) (bk : List Nat), σ = [some (.ref a), some (.ref b), u, v] ∧ Same H H' ∧ H' b = some (.lst (nv bk)) ∧ Back l bk i)
      ⟨none, none, _, rfl, s1, upd_same, Back.start l⟩ (fun i σ H' _ ⟨_, _, _, _, s5, _⟩ => s5.seq hS) ?_ ?_⟩
    · rintro i x σ H1 H2 hi ⟨u, v, bk, rfl, s5, hbk, hB⟩ ⟨T, x1, x2, rfl, hT, rfl, h1, h2⟩
      cases h1
      obtain ⟨y, hy, rfl⟩ := nv_at h2
      have hTb : b ≠ T := ne_of_none hbk hT
      refine ⟨T, _, rfl, .of upd_same, rfl, _, _, rfl, _, _, rfl, rfl, _, rfl, _, rfl, _, rfl, b, _, _, y, rfl, rfl, (upd_ne hTb).trans hbk, ?_, ?_⟩
      · rw [nv_len]
        exact ix_nat (by rw [hB.1, pm.len]; exact pm.lt y (List.mem_of_getElem? hy))
      · exact ⟨_, _, bk.set y i, rfl, same_put (s5.trans (same_new hT)) hb0, by rw [upd_same, nv_set], hB.turn pm hy⟩
    · rintro σ H1 ⟨u, v, bk, rfl, s5, hbk, hB⟩
      rw [nv_len] at hB
      refine ⟨_, rfl, k _ b s5 hb0 ?_⟩
      rw [hbk, hB.done pm]
end
end Gs
end
section
set_option maxRecDepth 100000
set_option maxHeartbeats 4000000
namespace Gs
open PySem L2
section
variable {P : Program} {w : World} {K : PySem.W.Frag} {mg : Str → Option Value} {base : Heap}
/-- the two lists of a surface stand at a and b -/
structure TwoAt (K : PySem.W.Frag) (H : Hp) (a b : Addr) (g : Krct.Glued) : Prop where
  e : SqL K H a (nv g.east)
  o : SqL K H b (nv g.north)
  t : Two g
  n : g.n ≤ 100
theorem TwoAt.same {H H' : Hp} {a b : Addr} {g : Krct.Glued} (h : TwoAt K H a b g) (s : Same H H') : TwoAt K H' a b g := ⟨s.seq h.e, s.seq h.o, h.t, h.n⟩
theorem TwoAt.ge {H : Hp} {a b : Addr} {g : Krct.Glued} (h : TwoAt K H a b g) {s : Nat} (hs : s < g.n) : (nv g.east)[s]? = some (V.int ((Krct.to g.east s : Nat) : Int)) := nv_get (get_to (by rw [h.t.e.len]; exact hs))
theorem TwoAt.go {H : Hp} {a b : Addr} {g : Krct.Glued} (h : TwoAt K H a b g) {s : Nat} (hs : s < g.n) : (nv g.north)[s]? = some (V.int ((Krct.to g.north s : Nat) : Int)) := nv_get (get_to (by rw [h.t.o.len]; exact hs))
def spOrder (K : PySem.W.Frag) : Sp := fun vs H Q _ => ∃ (s : Nat) (a b : Addr) (g : Krct.Glued), vs = [.int (s : Int), .ref a, .ref b] ∧ TwoAt K H a b g ∧ s < g.n ∧
  ∀ (H' : Hp) (p : Addr), Same H H' → H p = none → H' p = some (.lst (nv (Krct.orderFrom g s))) → Q (.ref p) H'
def grow2 (l : List Nat) (e o : Nat) : Nat → List Nat
  | 0 => l
  | 1 => push l e
  | _ => push (push l e) o
theorem scOrder : FnScope ["square", "east", "north", "order", "place", "here", "one"] ["square", "east", "north"] (defScope sOrder) := ⟨rfl, rfl, rfl, by decide +kernel, rfl, by decide +kernel, by decide +kernel⟩
theorem ok_order {f : Addr} {fd : FuncData} (F : Fun K "order_from" "order_from" sOrder f fd) (B : Bn mg) : FnOk P w K mg base CX0 1 f fd ["square", "east", "north"] (spOrder K) := by
  refine F.ok scOrder (fun vs H Q E h => ?_) (fun cdv A outer s H vs Q E hr h => ?_)
  · obtain ⟨z, a, b, g, rfl, _⟩ := h
    rfl
  · obtain ⟨z, a, b, g, rfl, hT, hz, k⟩ := h
    refine ⟨_, pss_cons (ps_set (i := 3) scOrder.nd rfl (.inl rfl) (pe_lst (pa_cons (pv 0) pa_nil)))
      (pss_cons (ps_set (i := 4) scOrder.nd rfl (.inl rfl) pe_int)
      (pss_cons (ps_while PassesOwn.never (pt_cmpR op_lt (pv 4) (pe_callB call_len_seq (by rfl) B.len PySem.boot_len (pa_cons (pv 3) pa_nil)) (nomark _))
        (pss_cons (ps_set (i := 5) scOrder.nd rfl (.inl rfl) (pe_ix ix_list (pv 3) (pv 4) (fun _ _ => rfl)))
        (pss_cons (ps_for PassesOwn.never rfl (pi_tup (pe_tup (pa_cons (pe_ix ix_list (pv 1) (pv 5) (fun _ _ => rfl)) (pa_cons (pe_ix ix_list (pv 2) (pv 5) (fun _ _ => rfl)) pa_nil)))) (pg_name (i := 6) scOrder.nd rfl (.inl rfl))
          (pss_one (ps_if (pt_cmpR op_notIn_seq (pv 6) (pv 3) (by rfl))
            (pss_one (ps_expr (pe_bm PySem.F.plainAttrs_list PySem.F.slot_list_append PySem.F.type_list_append mt_append (pv 3) (pa_cons (pv 6) pa_nil)))) pss_nil)))
        (pss_one (ps_aug (i := 4) scOrder.nd rfl (.inl rfl) pe_int ip_add)))))
      (pss_one (ps_ret (pv 3))))), ?_⟩
    refine ⟨_, rfl, line_le (by show 1 ≤ _; decide), fun p hp => ?_⟩
    refine ⟨fun m σ H' => ∃ (i : Nat) (l : List Nat) (u v : Option V), m = g.n + 1 - i ∧ σ = [some (.int (z : Int)), some (.ref a), some (.ref b), some (.ref p), some (.int (i : Int)), u, v] ∧ Same H H' ∧ H' p = some (.lst (nv l)) ∧ Ord g z l i,
      ⟨_, 0, [z], none, none, rfl, rfl, same_new hp, upd_same, Ord.start hz⟩, ?_⟩
    rintro m σ H1 ⟨i, l, u, v, rfl, rfl, s1, hl, O⟩
    refine ⟨_, rfl, _, rfl, p, _, rfl, .inl (SqL.of hl), _, _, rfl, rfl, _, rfl, ?_⟩
    have nl := nv_len l
    have sm := O.small
    have le := O.le
    by_cases c : i < l.length
    · refine ifT (decide_eq_true (by omega)) ?_
      have hx := List.getElem?_eq_getElem c
      have hxn : l[i] < g.n := O.lt _ (List.getElem_mem c)
      have T1 := hT.same s1
      refine ⟨_, fun _ _ h => h, ?_⟩
      refine ⟨_, rfl, _, rfl, p, _, _, _, rfl, rfl, SqL.of hl, at_nat (nv_get hx), ?_⟩
      refine ⟨_, rfl, _, rfl, a, _, _, _, rfl, rfl, T1.e, at_nat (T1.ge hxn), _, rfl, _, rfl, b, _, _, _, rfl, rfl, T1.o, at_nat (T1.go hxn), line_le (by show 2 ≤ _; decide), fun t ht => ?_⟩
      have hpt : p ≠ t := ne_of_none hl ht
      refine ⟨t, rfl, ⟨_, .of upd_same⟩, for_tup (K := K) (a := t) (xs := [V.int ((Krct.to g.east l[i] : Nat) : Int), V.int ((Krct.to g.north l[i] : Nat) : Int)])
        (fun j σ H' => ∃ v : Option V, σ = [some (.int (z : Int)), some (.ref a), some (.ref b), some (.ref p), some (.int (i : Int)), some (.int ((l[i] : Nat) : Int)), v] ∧ Same H H' ∧ H' t = some (.tup [V.int ((Krct.to g.east l[i] : Nat) : Int), V.int ((Krct.to g.north l[i] : Nat) : Int)]) ∧ H' p = some (.lst (nv (grow2 l (Krct.to g.east l[i]) (Krct.to g.north l[i]) j))) ∧ (grow2 l (Krct.to g.east l[i]) (Krct.to g.north l[i]) j).length ≤ l.length + j)
        ⟨_, rfl, s1.trans (same_new ht), upd_same, (upd_ne hpt).trans hl, Nat.le_refl _⟩ (fun j σ H' _ ⟨_, _, _, h, _⟩ => .of h) ?_ ?_⟩
      · rintro j x σ H2 hj ⟨v, rfl, s2, ht2, hp2, hlen⟩
        obtain ⟨y, rfl, hg⟩ : ∃ y : Nat, x = V.int (y : Int) ∧ grow2 l (Krct.to g.east l[i]) (Krct.to g.north l[i]) (j + 1) = push (grow2 l (Krct.to g.east l[i]) (Krct.to g.north l[i]) j) y := by
          match j, hj with
          | 0, hj => exact ⟨_, (Option.some.inj hj).symm, rfl⟩
          | 1, hj => exact ⟨_, (Option.some.inj hj).symm, rfl⟩
        have hn := hT.n
        refine ⟨_, rfl, _, rfl, p, _, rfl, .inl (SqL.of hp2), rfl, flat_nv _, _, rfl, ?_⟩
        by_cases q : y ∈ grow2 l (Krct.to g.east l[i]) (Krct.to g.north l[i]) j
        · refine ifF (by rw [in_nv, decide_eq_true q]; rfl) ?_
          refine ⟨_, rfl, s2, ht2, ?_, ?_⟩
          · rw [hg, push_in q]; exact hp2
          · rw [hg, push_in q]; omega
        · refine ifT (by rw [in_nv, decide_eq_false q]; rfl) ?_
          have hj2 : j < 2 := (List.getElem?_eq_some_iff.mp hj).1
          refine ⟨_, rfl, .inl ⟨rfl, _, SqL.of hp2⟩, _, rfl, p, _, _, rfl, rfl, hp2, line_lt (by rw [nv_len]; omega), ?_⟩
          refine ⟨_, rfl, same_put s2 hp, (upd_ne hpt.symm).trans ht2, ?_, ?_⟩
          · rw [upd_same, hg, push_out q, nv_app]; rfl
          · rw [hg, push_out q, List.length_append, List.length_singleton]; omega
      · rintro σ H2 ⟨v, rfl, s2, ht2, hp2, hlen⟩
        refine ⟨_, rfl, _, _, rfl, rfl, ?_⟩
        refine ⟨g.n + 1 - (i + 1), by omega, i + 1, _, _, _, rfl, rfl, s2, hp2, O.turn hT.t hx⟩
    · refine ifF (decide_eq_false (by omega)) ?_
      have e : i = l.length := by omega
      subst e
      refine ⟨_, rfl, k _ p s1 hp ?_⟩
      rw [hl, ← O.done]
end
end Gs
end
section
set_option maxRecDepth 100000
set_option maxHeartbeats 4000000
namespace Gs
open PySem L2
/-- a def of the top keeps its promise, under its name -/
structure Dn (P : Program) (w : World) (K : PySem.W.Frag) (mg : Str → Option Value) (base : Heap) (k : Nat) (x : Str) (ps : List Str) (sp : Sp) : Prop where
  ex : ∃ (f : Addr) (fd : FuncData), FnOk P w K mg base CX0 k f fd ps sp ∧ mg x = some (.ref f) ∧ PySem.W.keepIn K (.ref f) = true ∧ Binds K fd ps []
theorem Dn.pe {X : Cx} {k j : Nat} {x : Str} {ps : List Str} {sp : Sp} {e : Expr} {es : List Expr} {t : TA} {p pos : Pos} (D : Dn X.prog X.w X.K X.mg X.base k x ps sp) (hr : Room j X.A) (hj : k ≤ j) (hg : Gl X x)
    (ha : PA X (e :: es) t) (hdb : (x == ("__debug__" : Str)) = false := by decide) (he : starEach (e :: es) X.env = (false, eval e X.env) :: starEach es X.env := by rfl) (hpl : (backTo pos (starEach es X.env)).any (·.1) = false := by rfl) :
    PE X (.Call (.Name x p) (e :: es) [] pos) (tCall sp [] E0 t) := by
  obtain ⟨f, fd, G, m, kp, b⟩ := D.ex
  exact pe_call G (hr.mono hj) hg m kp b .nil pass0 ha hdb he hpl
section
variable {P : Program} {w : World} {K : PySem.W.Frag} {mg : Str → Option Value} {base : Heap}
def spHang (K : PySem.W.Frag) : Sp := fun vs H Q _ => ∃ (a b : Addr) (g : Krct.Glued), vs = [.ref a, .ref b] ∧ TwoAt K H a b g ∧ 0 < g.n ∧ ∀ H' : Hp, Same H H' → Q (.bl g.whole) H'
theorem scHang : FnScope ["east", "north"] ["east", "north"] (defScope sHang) := ⟨rfl, rfl, rfl, by decide +kernel, rfl, by decide +kernel, by decide +kernel⟩
theorem ok_hang {f : Addr} {fd : FuncData} (F : Fun K "hang_together" "hang_together" sHang f fd) (B : Bn mg) (DO : Dn P w K mg base 1 "order_from" ["square", "east", "north"] (spOrder K)) : FnOk P w K mg base CX0 2 f fd ["east", "north"] (spHang K) := by
  refine F.ok scHang (fun vs H Q E h => ?_) (fun cdv A outer s H vs Q E hr h => ?_)
  · obtain ⟨a, b, g, rfl, _⟩ := h
    rfl
  · obtain ⟨a, b, g, rfl, hT, h0, k⟩ := h
    refine ⟨_, pss_one (ps_ret (pe_cmpR op_eq (pe_callB call_len_seq (by rfl) B.len PySem.boot_len (pa_cons (DO.pe hr (by decide) rfl (pa_cons pe_int (pa_cons (pv 0) (pa_cons (pv 1) pa_nil)))) pa_nil))
      (pe_callB call_len_seq (by rfl) B.len PySem.boot_len (pa_cons (pv 0) pa_nil)) (nomark _))), ?_⟩
    refine ⟨_, rfl, _, rfl, 0, a, b, g, rfl, hT, h0, fun H1 p s1 np hp => ?_⟩
    refine ⟨p, _, rfl, .inl (SqL.of hp), _, rfl, a, _, rfl, .inl (s1.seq hT.e), rfl, ?_⟩
    have e : decide (V.int (((nv (Krct.orderFrom g 0)).length : Nat) : Int) = V.int (((nv g.east).length : Nat) : Int)) = g.whole := by
      unfold Krct.Glued.whole
      rw [nv_len, nv_len, hT.t.e.len, Bool.eq_iff_iff, decide_eq_true_iff, beq_iff_eq, V.int.injEq]
      omega
    show Q (V.bl (decide (V.int (((nv (Krct.orderFrom g 0)).length : Nat) : Int) = V.int (((nv g.east).length : Nat) : Int)))) _
    rw [e]
    exact k _ s1
/-! renamed -/
def spRen (K : PySem.W.Frag) : Sp := fun vs H Q _ => ∃ (a b : Addr) (n : Nat) (m l : List Nat), vs = [.ref a, .ref b] ∧ SqL K H a (nv m) ∧ SqL K H b (nv l) ∧ Pm n m ∧ Pm n l ∧ n ≤ 1000 ∧
  ∀ (H' : Hp) (p : Addr), Same H H' → H p = none → H' p = some (.lst (nv (l.map fun s => l.idxOf (Krct.to m s)))) → Q (.ref p) H'
theorem scRen : FnScope ["ones", "order", "new_names", "square"] ["ones", "order"] (defScope sRenamed) := ⟨rfl, rfl, rfl, by decide +kernel, rfl, by decide +kernel, by decide +kernel⟩
theorem ok_ren {f : Addr} {fd : FuncData} (F : Fun K "renamed" "renamed" sRenamed f fd) (DT : Dn P w K mg base 1 "turned_back" ["ones"] (spTurned K)) : FnOk P w K mg base CX0 2 f fd ["ones", "order"] (spRen K) := by
  refine F.ok scRen (fun vs H Q E h => ?_) (fun cdv A outer s H vs Q E hr h => ?_)
  · obtain ⟨a, b, n, m, l, rfl, _⟩ := h
    rfl
  · obtain ⟨a, b, n, m, l, rfl, hm, hl, pm, pl, hn, k⟩ := h
    refine ⟨_, pss_cons (ps_set (i := 2) scRen.nd rfl (.inr rfl) (DT.pe hr (by decide) rfl (pa_cons (pv 1) pa_nil)))
      (pss_one (ps_ret (pe_lc (own := [("square", 3)]) (g := gName 3) (tt := tYes) (te := tOp (rIxL K) (tVar 2) (tOp (rIxL K) (tVar 0) (tVar 3))) rfl scRen.nd (pi_list (pv 1)) (blkOk_by (own := [("square", 3)]) (N := ["ones", "order", "new_names", "square"]) (sc := defScope sRenamed) (by decide +kernel))
        (fun _ _ _ _ _ => pg_name (i := 3) scRen.nd rfl (Or.inl rfl)) (fun _ _ _ _ _ => pts_nil) (fun _ _ _ _ _ => pe_ix ix_list (pv 2) (pe_ix ix_list (pv 0) (pv 3) (fun _ _ => rfl)) (fun _ _ => rfl))))), ?_⟩
    refine ⟨_, rfl, b, n, l, rfl, hl, pl, hn, fun H1 p s1 np hp => ?_⟩
    refine ⟨_, rfl, b, rfl, ⟨_, s1.seq hl⟩, fun D hD => lc_list (K := K) (a := b) (xs := nv l) (fun i H' => Same H H' ∧ H' p = some (.lst (nv (inv l))) ∧ H' D = some (.lst (nv ((l.take i).map fun s => l.idxOf (Krct.to m s)))))
      ⟨s1.trans (same_new hD), (upd_ne (ne_of_none hp hD)).trans hp, upd_same⟩ (fun i H' _ ⟨s5, _⟩ => s5.seq hl) ?_ ?_⟩
    · rintro i x H2 hx ⟨s2, hp2, hD2⟩
      obtain ⟨y, hy, rfl⟩ := nv_at hx
      have hyn : y < n := pl.lt y (List.mem_of_getElem? hy)
      have g1 : (nv m)[y]? = some (V.int ((Krct.to m y : Nat) : Int)) := nv_get (get_to (by rw [pm.len]; exact hyn))
      have g2 : (nv (inv l))[Krct.to m y]? = some (V.int ((Krct.from_ l (Krct.to m y) : Nat) : Int)) := nv_get (get_inv (by rw [pl.len]; exact pm.to_lt hyn))
      have hil : i < l.length := (List.getElem?_eq_some_iff.mp hy).1
      have hlen := pl.len
      have hpD : p ≠ D := ne_of_none hp hD
      refine ⟨rfl, _, rfl, _, rfl, _, rfl, a, _, _, _, rfl, rfl, s2.seq hm, at_nat g1, p, _, _, _, rfl, rfl, SqL.of hp2, at_nat g2, _, hD2, line_lt (by rw [nv_len, List.length_map, List.length_take]; omega), ?_, (upd_ne hpD).trans hp2, ?_⟩
      · exact same_put s2 (s1.free hD)
      · rw [upd_same, List.take_add_one, hy, List.map_append, nv_app]
        rfl
    · rintro H2 ⟨s2, hp2, hD2⟩
      rw [nv_len, List.take_length] at hD2
      exact k _ D s2 (s1.free hD) hD2
/-! renamed_from -/
def spRenFrom (K : PySem.W.Frag) : Sp := fun vs H Q _ => ∃ (s : Nat) (a b : Addr) (g : Krct.Glued), vs = [.int (s : Int), .ref a, .ref b] ∧ TwoAt K H a b g ∧ g.whole = true ∧ s < g.n ∧
  ∀ (H' : Hp) (p : Addr), Same H H' → H p = none → H' p = some (.lst (nv (nameFrom g s))) → Q (.ref p) H'
theorem scRenFrom : FnScope ["square", "east", "north", "order"] ["square", "east", "north"] (defScope sRenFrom) := ⟨rfl, rfl, rfl, by decide +kernel, rfl, by decide +kernel, by decide +kernel⟩
theorem ok_renFrom {f : Addr} {fd : FuncData} (F : Fun K "renamed_from" "renamed_from" sRenFrom f fd) (DO : Dn P w K mg base 1 "order_from" ["square", "east", "north"] (spOrder K)) (DR : Dn P w K mg base 2 "renamed" ["ones", "order"] (spRen K)) :
    FnOk P w K mg base CX0 3 f fd ["square", "east", "north"] (spRenFrom K) := by
  refine F.ok scRenFrom (fun vs H Q E h => ?_) (fun cdv A outer s H vs Q E hr h => ?_)
  · obtain ⟨z, a, b, g, rfl, _⟩ := h
    rfl
  · obtain ⟨z, a, b, g, rfl, hT, hw, hz, k⟩ := h
    refine ⟨_, pss_cons (ps_set (i := 3) scRenFrom.nd rfl (.inl rfl) (DO.pe hr (by decide) rfl (pa_cons (pv 0) (pa_cons (pv 1) (pa_cons (pv 2) pa_nil)))))
      (pss_one (ps_ret (pe_op op_cat (DR.pe hr (by decide) rfl (pa_cons (pv 1) (pa_cons (pv 3) pa_nil))) (DR.pe hr (by decide) rfl (pa_cons (pv 2) (pa_cons (pv 3) pa_nil)))))), ?_⟩
    have pw := whole_from hT.t hw hz
    have hn := hT.n
    refine ⟨_, rfl, _, rfl, _, rfl, z, a, b, g, rfl, hT, hz, fun H1 p s1 np hp => ?_⟩
    refine ⟨_, rfl, _, rfl, a, p, g.n, g.east, _, rfl, s1.seq hT.e, SqL.of hp, hT.t.e, pw, by omega, fun H2 p2 s2 np2 hp2 => ?_⟩
    have s12 := s1.trans s2
    refine ⟨_, rfl, _, rfl, b, p, g.n, g.north, _, rfl, s12.seq hT.o, SqL.of (s2 _ _ hp), hT.t.o, pw, by omega, fun H3 p3 s3 np3 hp3 => ?_⟩
    refine ⟨p2, p3, _, _, rfl, rfl, s3 _ _ hp2, hp3, line_le ?_, fun p4 np4 => ?_⟩
    · rw [nv_len, nv_len, List.length_map, List.length_map, pw.len]
      omega
    · refine k _ p4 ((s12.trans s3).trans (same_new np4)) ((s12.trans s3).free np4) ?_
      rw [upd_same, ← nv_app]
      rfl
/-! counted -/
def spCounted : Sp := fun vs H Q _ => ∃ (a : Addr) (xs : List V), vs = [.ref a] ∧ H a = some (.lst xs) ∧ xs.length ≤ 10000000 ∧ ∀ (H' : Hp) (p : Addr), Same H H' → H p = none → H' p = some (.lst (V.int ((xs.length : Nat) : Int) :: xs)) → Q (.ref p) H'
theorem scCounted : FnScope ["numbers"] ["numbers"] (defScope sCounted) := ⟨rfl, rfl, rfl, by decide +kernel, rfl, by decide +kernel, by decide +kernel⟩
theorem ok_counted {f : Addr} {fd : FuncData} (F : Fun K "counted" "counted" sCounted f fd) (B : Bn mg) : FnOk P w K mg base CX0 1 f fd ["numbers"] spCounted := by
  refine F.ok scCounted (fun vs H Q E h => ?_) (fun cdv A outer s H vs Q E hr h => ?_)
  · obtain ⟨a, xs, rfl, _⟩ := h
    rfl
  · obtain ⟨a, xs, rfl, ha, hn, k⟩ := h
    refine ⟨_, pss_one (ps_ret (pe_op op_cat (pe_lst (pa_cons (pe_callB call_len_seq (by rfl) B.len PySem.boot_len (pa_cons (pv 0) pa_nil)) pa_nil)) (pv 0))), ?_⟩
    refine ⟨_, rfl, a, _, rfl, .inl (SqL.of ha), line_le (by show 1 ≤ _; decide), fun p np => ?_⟩
    have hap : a ≠ p := ne_of_none ha np
    refine ⟨_, rfl, p, a, _, _, rfl, rfl, upd_same, (upd_ne hap).trans ha, line_le (by show 1 + _ ≤ _; omega), fun q nq => ?_⟩
    exact k _ q ((same_new np).trans (same_new nq)) ((same_new np).free nq) upd_same
end
end Gs
end
section
set_option maxRecDepth 100000
set_option maxHeartbeats 4000000
namespace Gs
open PySem L2
section
variable {P : Program} {w : World} {K : PySem.W.Frag} {mg : Str → Option Value} {base : Heap}
/-- where the four steps lead, by lists: east, north, west, south -/
def dirs (g : Krct.Glued) : Nat → List Nat
  | 0 => g.east
  | 1 => g.north
  | 2 => inv g.east
  | _ => inv g.north
theorem dirs_get {g : Krct.Glued} (T : Two g) {s : Nat} (hs : s < g.n) : ∀ {d : Nat}, d ≤ 3 → (dirs g d)[s]? = some (g.go s d)
  | 0, _ => get_to (l := g.east) (by rw [T.e.len]; exact hs)
  | 1, _ => get_to (l := g.north) (by rw [T.o.len]; exact hs)
  | 2, _ => get_inv (by rw [T.e.len]; exact hs)
  | 3, _ => get_inv (by rw [T.o.len]; exact hs)
structure WaysAt (K : PySem.W.Frag) (H : Hp) (a : Addr) (g : Krct.Glued) : Prop where
  l : ∃ b c d e : Addr, SqL K H a [.ref b, .ref c, .ref d, .ref e] ∧ SqL K H b (nv g.east) ∧ SqL K H c (nv g.north) ∧ SqL K H d (nv (inv g.east)) ∧ SqL K H e (nv (inv g.north))
  t : Two g
  n : g.n ≤ 100
theorem WaysAt.same {H H' : Hp} {a : Addr} {g : Krct.Glued} (h : WaysAt K H a g) (s : Same H H') : WaysAt K H' a g := by
  obtain ⟨b, c, d, e, h0, h1, h2, h3, h4⟩ := h.l
  exact ⟨⟨b, c, d, e, s.seq h0, s.seq h1, s.seq h2, s.seq h3, s.seq h4⟩, h.t, h.n⟩
theorem WaysAt.at {H : Hp} {a : Addr} {g : Krct.Glued} (h : WaysAt K H a g) : ∃ vs : List V, SqL K H a vs ∧ ∀ d, d ≤ 3 → ∃ b, vs[d]? = some (.ref b) ∧ SqL K H b (nv (dirs g d)) := by
  obtain ⟨b, c, d, e, h0, h1, h2, h3, h4⟩ := h.l
  refine ⟨_, h0, fun k hk => ?_⟩
  match k, hk with
  | 0, _ => exact ⟨b, rfl, h1⟩
  | 1, _ => exact ⟨c, rfl, h2⟩
  | 2, _ => exact ⟨d, rfl, h3⟩
  | 3, _ => exact ⟨e, rfl, h4⟩
def spLed (K : PySem.W.Frag) : Sp := fun vs H Q _ => ∃ (a wa : Addr) (s : Nat) (ds : List Nat) (g : Krct.Glued), vs = [.ref a, .int (s : Int), .ref wa] ∧ (SqL K H a (nv ds) ∨ SqT K H a (nv ds)) ∧ (∀ d ∈ ds, d ≤ 3) ∧ WaysAt K H wa g ∧ s < g.n ∧
  Q (.int ((g.walk s ds : Nat) : Int)) H
theorem walk_more {g : Krct.Glued} {s d : Nat} {ds : List Nat} {i : Nat} (h : ds[i]? = some d) : g.walk s (ds.take (i + 1)) = g.go (g.walk s (ds.take i)) d := by
  unfold Krct.Glued.walk
  rw [List.take_add_one, h, List.foldl_append]
  rfl
theorem scLed : FnScope ["steps", "square", "ways", "here", "step"] ["steps", "square", "ways"] (defScope sLed) := ⟨rfl, rfl, rfl, by decide +kernel, rfl, by decide +kernel, by decide +kernel⟩
theorem ok_led {f : Addr} {fd : FuncData} (F : Fun K "led_by" "led_by" sLed f fd) : FnOk P w K mg base CX0 1 f fd ["steps", "square", "ways"] (spLed K) := by
  refine F.ok scLed (fun vs H Q E h => ?_) (fun cdv A outer s H vs Q E hr h => ?_)
  · obtain ⟨a, wa, z, ds, g, rfl, _⟩ := h
    rfl
  · obtain ⟨a, wa, z, ds, g, rfl, hs, hd, W, hz, k⟩ := h
    obtain ⟨ws, hw, wd⟩ := W.at
    have turn : ∀ (i d : Nat) (v : Option V) (D : Ends), ds[i]? = some d → D.nx = (fun σ H' => ∃ v : Option V, σ = [some (.ref a), some (.int (z : Int)), some (.ref wa), some (.int ((g.walk z (ds.take (i + 1)) : Nat) : Int)), v] ∧ H' = H) →
        tAsg (tOp (rIxL K) (tOp (rIxL K) (tVar 2) (tVar 4)) (tVar 3)) (gName 3) D [some (.ref a), some (.int (z : Int)), some (.ref wa), some (.int ((g.walk z (ds.take i) : Nat) : Int)), some (.int (d : Int))] H := by
      intro i d v D hi e
      obtain ⟨b, hb, hb2⟩ := wd d (hd d (List.mem_of_getElem? hi))
      refine ⟨_, rfl, _, rfl, wa, _, _, _, rfl, rfl, hw, at_nat hb, _, rfl, b, _, _, _, rfl, rfl, hb2, at_nat (nv_get (dirs_get W.t (walk_lt W.t _ hz) (hd d (List.mem_of_getElem? hi)))), ?_⟩
      rw [← walk_more hi]
      show D.nx _ H
      rw [e]
      exact ⟨_, rfl, rfl⟩
    rcases hs with hs | hs
    · refine ⟨_, pss_cons (ps_set (i := 3) scLed.nd rfl (.inl rfl) (pv 1)) (pss_cons (ps_for PassesOwn.never rfl (pi_list (pv 0)) (pg_name (i := 4) scLed.nd rfl (.inl rfl))
        (pss_one (ps_set (i := 3) scLed.nd rfl (.inl rfl) (pe_ix ix_list (pe_ix ix_list (pv 2) (pv 4) (fun _ _ => rfl)) (pv 3) (fun _ _ => rfl))))) (pss_one (ps_ret (pv 3)))), ?_⟩
      refine ⟨_, rfl, _, rfl, a, rfl, ⟨_, hs⟩, for_list (K := K) (a := a) (xs := nv ds) (fun i σ H' => ∃ v : Option V, σ = [some (.ref a), some (.int (z : Int)), some (.ref wa), some (.int ((g.walk z (ds.take i) : Nat) : Int)), v] ∧ H' = H)
        ⟨none, rfl, rfl⟩ (fun i σ H' _ ⟨_, _, e⟩ => e ▸ hs) ?_ ?_⟩
      · rintro i x σ H' hx ⟨v, rfl, rfl⟩
        obtain ⟨d, hi, rfl⟩ := nv_at hx
        exact turn i d v _ hi rfl
      · rintro σ H' ⟨v, rfl, rfl⟩
        rw [nv_len, List.take_length]
        exact ⟨_, rfl, k⟩
    · refine ⟨_, pss_cons (ps_set (i := 3) scLed.nd rfl (.inl rfl) (pv 1)) (pss_cons (ps_for PassesOwn.never rfl (pi_tup (pv 0)) (pg_name (i := 4) scLed.nd rfl (.inl rfl))
        (pss_one (ps_set (i := 3) scLed.nd rfl (.inl rfl) (pe_ix ix_list (pe_ix ix_list (pv 2) (pv 4) (fun _ _ => rfl)) (pv 3) (fun _ _ => rfl))))) (pss_one (ps_ret (pv 3)))), ?_⟩
      refine ⟨_, rfl, _, rfl, a, rfl, ⟨_, hs⟩, for_tup (K := K) (a := a) (xs := nv ds) (fun i σ H' => ∃ v : Option V, σ = [some (.ref a), some (.int (z : Int)), some (.ref wa), some (.int ((g.walk z (ds.take i) : Nat) : Int)), v] ∧ H' = H)
        ⟨none, rfl, rfl⟩ (fun i σ H' _ ⟨_, _, e⟩ => e ▸ hs) ?_ ?_⟩
      · rintro i x σ H' hx ⟨v, rfl, rfl⟩
        obtain ⟨d, hi, rfl⟩ := nv_at hx
        exact turn i d v _ hi rfl
      · rintro σ H' ⟨v, rfl, rfl⟩
        rw [nv_len, List.take_length]
        exact ⟨_, rfl, k⟩
end
end Gs
end
section
set_option maxRecDepth 100000
set_option maxHeartbeats 4000000
namespace Gs
open PySem L2
/-- the constants of the top -/
structure Cn (K : PySem.W.Frag) (mg : Str → Option Value) : Prop where
  once : ∃ a, mg "ONCE_ROUND" = some (.ref a) ∧ ∀ H, SqT K H a (nv [0, 1, 2, 3])
  aRow : ∃ a, mg "ALONG_ROW" = some (.ref a) ∧ ∀ H, SqT K H a (nv [0])
  aCol : ∃ a, mg "ALONG_COLUMN" = some (.ref a) ∧ ∀ H, SqT K H a (nv [1])
  east : ∃ t, mg "EAST" = some (.int 0 t)
  north : ∃ t, mg "NORTH" = some (.int 1 t)
  noSquare : ∃ t, mg "NO_SQUARE" = some (.int (-2) t)
  notBegun : ∃ t, mg "NOT_BEGUN" = some (.int (-11) t)
  notRight : ∃ t, mg "NOT_RIGHT" = some (.int (-22) t)
  notTog : ∃ t, mg "NOT_TOGETHER" = some (.int (-33) t)
  mostSq : ∃ t, mg "MOST_SQUARES" = some (.int 6 t)
  mostSt : ∃ t, mg "MOST_STEPS" = some (.int 30 t)
  lastSt : ∃ t, mg "LAST_STEP" = some (.int 3 t)
  cBegin : ∃ t, mg "BEGIN" = some (.int 0 t)
  cGlue : ∃ t, mg "GLUE" = some (.int 1 t)
  cGo : ∃ t, mg "GO" = some (.int 2 t)
  cWalk : ∃ t, mg "WALK" = some (.int 3 t)
  cCorners : ∃ t, mg "CORNERS" = some (.int 4 t)
  cCorner : ∃ t, mg "CORNER" = some (.int 5 t)
  cHoles : ∃ t, mg "HOLES" = some (.int 6 t)
  cName : ∃ t, mg "NAME" = some (.int 7 t)
  cSame : ∃ t, mg "SAME" = some (.int 8 t)
  cSelves : ∃ t, mg "SELVES" = some (.int 9 t)
  cRename : ∃ t, mg "RENAME" = some (.int 10 t)
  cRows : ∃ t, mg "ROWS" = some (.int 11 t)
  cColumns : ∃ t, mg "COLUMNS" = some (.int 12 t)
  cNear : ∃ t, mg "NEAR" = some (.int 13 t)
section
variable {P : Program} {w : World} {K : PySem.W.Frag} {mg : Str → Option Value} {base : Heap}
def spRound (K : PySem.W.Frag) : Sp := fun vs H Q _ => ∃ (s : Nat) (ao wa : Addr) (ds : List Nat) (g : Krct.Glued), vs = [.int (s : Int), .ref ao, .ref wa] ∧ (∀ H, SqT K H ao (nv ds)) ∧ (∀ d ∈ ds, d ≤ 3) ∧ WaysAt K H wa g ∧ s < g.n ∧
  ∀ (H' : Hp) (p : Addr), Same H H' → H p = none → H' p = some (.lst (nv (Krct.cycleOf g.n (fun s => g.walk s ds) s))) → Q (.ref p) H'
theorem scRound : FnScope ["square", "steps", "ways", "squares", "here"] ["square", "steps", "ways"] (defScope sRound) := ⟨rfl, rfl, rfl, by decide +kernel, rfl, by decide +kernel, by decide +kernel⟩
theorem le3 : ∀ d ∈ [0, 1, 2, 3], d ≤ 3 := by decide
theorem ok_round {f : Addr} {fd : FuncData} (F : Fun K "squares_round" "squares_round" sRound f fd) (DL : Dn P w K mg base 1 "led_by" ["steps", "square", "ways"] (spLed K)) : FnOk P w K mg base CX0 2 f fd ["square", "steps", "ways"] (spRound K) := by
  refine F.ok scRound (fun vs H Q E h => ?_) (fun cdv A outer s H vs Q E hr h => ?_)
  · obtain ⟨z, ao, wa, ds, g, rfl, _⟩ := h
    rfl
  · obtain ⟨z, ao, wa, ds, g, rfl, so, hd, W, hz, k⟩ := h
    refine ⟨_, pss_cons (ps_set (i := 3) scRound.nd rfl (.inl rfl) (pe_lst (pa_cons (pv 0) pa_nil)))
      (pss_cons (ps_set (i := 4) scRound.nd rfl (.inl rfl) (DL.pe hr (by decide) rfl (pa_cons (pv 1) (pa_cons (pv 0) (pa_cons (pv 2) pa_nil)))))
      (pss_cons (ps_while PassesOwn.never (pt_cmpR op_ne (pv 4) (pv 0) (nomark _))
        (pss_cons (ps_expr (pe_bm PySem.F.plainAttrs_list PySem.F.slot_list_append PySem.F.type_list_append mt_append (pv 3) (pa_cons (pv 4) pa_nil)))
        (pss_one (ps_set (i := 4) scRound.nd rfl (.inl rfl) (DL.pe hr (by decide) rfl (pa_cons (pv 1) (pa_cons (pv 4) (pa_cons (pv 2) pa_nil))))))))
      (pss_one (ps_ret (pv 3))))), ?_⟩
    have I := walkInj W.t ds
    have hn := W.n
    generalize hf : (fun s => g.walk s ds) = fn at I k
    have ef : ∀ x, g.walk x ds = fn x := fun x => by rw [← hf]
    refine ⟨_, rfl, line_le (by show 1 ≤ _; decide), fun p hp => ?_⟩
    refine ⟨_, rfl, _, rfl, _, rfl, ao, wa, z, ds, g, rfl, .inr (so _), hd, W.same (same_new hp), hz, ?_⟩
    rw [ef]
    refine ⟨fun m σ H' => ∃ (l : List Nat) (c : Nat), m = g.n - l.length ∧ σ = [some (.int (z : Int)), some (.ref ao), some (.ref wa), some (.ref p), some (.int ((fn c : Nat) : Int))] ∧ Same H H' ∧ H' p = some (.lst (nv l)) ∧ Cyc g.n fn z l c,
      ⟨_, [z], z, rfl, rfl, same_new hp, upd_same, Cyc.start hz⟩, ?_⟩
    rintro m σ H1 ⟨l, c, rfl, rfl, s1, hl, C1⟩
    refine ⟨_, rfl, _, rfl, rfl, _, rfl, ?_⟩
    by_cases q : fn c = z
    · refine ifF (by rw [q]; simp) ?_
      refine ⟨_, rfl, k _ p s1 hp ?_⟩
      rw [hl, C1.done I q]
    · refine ifT (by rw [decide_eq_false (fun e => q (by have := V.int.inj e; omega))]; rfl) ?_
      have C2 := C1.turn I q
      have sm := C2.small
      rw [List.length_append, List.length_singleton] at sm
      refine ⟨_, fun _ _ h => h, ?_⟩
      refine ⟨_, rfl, .inl ⟨rfl, _, SqL.of hl⟩, _, rfl, p, _, _, rfl, rfl, hl, line_lt (by rw [nv_len]; omega), ?_⟩
      refine ⟨_, rfl, _, rfl, _, rfl, ao, wa, fn c, ds, g, rfl, .inr (so _), hd, W.same (same_put s1 hp), I.lt _ (C1.lt _ C1.cmem), ?_⟩
      rw [ef]
      refine ⟨_, ?_, l ++ [fn c], fn c, rfl, rfl, same_put s1 hp, ?_, C2⟩
      · rw [List.length_append, List.length_singleton]; omega
      · rw [upd_same, nv_app]; rfl
def spSizes (K : PySem.W.Frag) : Sp := fun vs H Q _ => ∃ (ao wa : Addr) (ds : List Nat) (g : Krct.Glued), vs = [.ref ao, .ref wa] ∧ (∀ H, SqT K H ao (nv ds)) ∧ (∀ d ∈ ds, d ≤ 3) ∧ WaysAt K H wa g ∧
  ∀ (H' : Hp) (p : Addr), Same H H' → H p = none → H' p = some (.lst (nv ((rounds g ds).map List.length))) → Q (.ref p) H'
theorem scSizes : FnScope ["steps", "ways", "met", "sizes", "square", "squares"] ["steps", "ways"] (defScope sSizes) := ⟨rfl, rfl, rfl, by decide +kernel, rfl, by decide +kernel, by decide +kernel⟩
theorem ok_sizes {f : Addr} {fd : FuncData} (F : Fun K "round_sizes" "round_sizes" sSizes f fd) (B : Bn mg) (C : Cn K mg) (DR : Dn P w K mg base 2 "squares_round" ["square", "steps", "ways"] (spRound K)) : FnOk P w K mg base CX0 3 f fd ["steps", "ways"] (spSizes K) := by
  refine F.ok scSizes (fun vs H Q E h => ?_) (fun cdv A outer s H vs Q E hr h => ?_)
  · obtain ⟨ao, wa, ds, g, rfl, _⟩ := h
    rfl
  · obtain ⟨ao, wa, ds, g, rfl, so, hd, W, k⟩ := h
    obtain ⟨te, me⟩ := C.east
    refine ⟨_, pss_cons (ps_set (i := 2) scSizes.nd rfl (.inl rfl) (pe_lst pa_nil)) (pss_cons (ps_set (i := 3) scSizes.nd rfl (.inl rfl) (pe_lst pa_nil))
      (pss_cons (ps_for PassesOwn.never rfl (pi_range1 (by rfl) B.range (pa_cons (pe_callB call_len_seq (by rfl) B.len PySem.boot_len (pa_cons (pe_ix ix_list (pv 1) (pe_glob (v := .int 0) rfl me ⟨_, rfl⟩) (fun _ _ => rfl)) pa_nil)) pa_nil)) (pg_name (i := 4) scSizes.nd rfl (.inl rfl))
        (pss_one (ps_if (pt_cmpR op_notIn_seq (pv 4) (pv 2) (by rfl))
          (pss_cons (ps_set (i := 5) scSizes.nd rfl (.inl rfl) (DR.pe hr (by decide) rfl (pa_cons (pv 4) (pa_cons (pv 0) (pa_cons (pv 1) pa_nil)))))
          (pss_cons (ps_expr (pe_bm PySem.F.plainAttrs_list PySem.F.slot_list_extend PySem.F.type_list_extend mt_extend (pv 2) (pa_cons (pv 5) pa_nil)))
          (pss_one (ps_expr (pe_bm PySem.F.plainAttrs_list PySem.F.slot_list_append PySem.F.type_list_append mt_append (pv 3) (pa_cons (pe_callB call_len_seq (by rfl) B.len PySem.boot_len (pa_cons (pv 5) pa_nil)) pa_nil)))))) pss_nil)))
      (pss_one (ps_ret (pv 3))))), ?_⟩
    have I := walkInj W.t ds
    have hn := W.n
    unfold rounds at k
    generalize hf : (fun s => g.walk s ds) = fn at I k
    have bd : ∀ i, i ≤ g.n → (cycs g.n fn i).flatten.length ≤ 10000 := fun i hi => by
      have a := flat_len (n := g.n) (cycs g.n fn i) (fun c hc => (cycs_lt I i hi c hc).1)
      have b := cycs_len g.n fn i
      have c : (cycs g.n fn i).length * g.n ≤ 100 * 100 := Nat.mul_le_mul (by omega) hn
      omega
    refine ⟨line_le (by show 0 ≤ _; decide), fun m hm => ⟨line_le (by show 0 ≤ _; decide), fun z hz => ?_⟩⟩
    have hmz : m ≠ z := ne_of_none upd_same hz
    have s1 : Same H (upd (upd H m (.lst [])) z (.lst [])) := (same_new hm).trans (same_new hz)
    have hz0 : H z = Option.none := (same_new hm).free hz
    obtain ⟨ws, hw, wd⟩ := (W.same s1).at
    obtain ⟨b, hb, hb2⟩ := wd 0 (by decide)
    have ln : (nv (dirs g 0)).length = g.n := by
      rw [nv_len]
      exact W.t.e.len
    refine ⟨_, rfl, wa, _, _, _, rfl, rfl, hw, at_nat hb, b, _, rfl, .inl hb2, _, rfl, by rw [ln]; omega, by rw [ln]; omega, ?_⟩
    rw [Int.toNat_natCast, ln]
    refine for_range (lo := 0) (n := g.n) (fun i σ H' => ∃ u v : Option V, σ = [some (.ref ao), some (.ref wa), some (.ref m), some (.ref z), u, v] ∧ Same H H' ∧ H' m = some (.lst (nv (cycs g.n fn i).flatten)) ∧ H' z = some (.lst (nv ((cycs g.n fn i).map List.length))))
      ⟨_, _, rfl, s1, (upd_ne hmz).trans upd_same, upd_same⟩ ?_ ?_
    · rintro i σ H1 hi ⟨u, v, rfl, s2, hm2, hz2⟩
      have ei : (0 : Int) + ((i : Nat) : Int) = ((i : Nat) : Int) := by omega
      rw [ei]
      refine ⟨_, rfl, _, rfl, m, _, rfl, .inl (SqL.of hm2), rfl, flat_nv _, _, rfl, ?_⟩
      by_cases q : i ∈ (cycs g.n fn i).flatten
      · refine ifF (by rw [in_nv, decide_eq_true q]; rfl) ?_
        refine ⟨_, _, rfl, s2, ?_, ?_⟩
        · rw [cycs_in q]; exact hm2
        · rw [cycs_in q]; exact hz2
      · refine ifT (by rw [in_nv, decide_eq_false q]; rfl) ?_
        refine ⟨_, rfl, _, rfl, _, rfl, i, ao, wa, ds, g, rfl, so, hd, W.same s2, hi, fun H3 p s3 np hp => ?_⟩
        rw [hf] at hp
        have hpm : p ≠ m := (ne_of_none hm2 np).symm
        have hpz : p ≠ z := (ne_of_none hz2 np).symm
        have bd1 := bd (i + 1) hi
        have bl := cycs_len g.n fn (i + 1)
        rw [cycs_out q] at bd1 bl
        rw [List.flatten_append, List.flatten_singleton, List.length_append] at bd1
        rw [List.length_append, List.length_singleton] at bl
        refine ⟨_, rfl, .inl ⟨rfl, _, SqL.of (s3 _ _ hm2)⟩, _, rfl, m, p, _, _, rfl, rfl, s3 _ _ hm2, hp, line_le (by rw [nv_len, nv_len]; omega), ?_⟩
        refine ⟨_, rfl, .inl ⟨rfl, _, SqL.of ((upd_ne hmz.symm).trans (s3 _ _ hz2))⟩, _, rfl, p, _, rfl, .inl (SqL.of ((upd_ne hpm).trans hp)), z, _, _, rfl, rfl, (upd_ne hmz.symm).trans (s3 _ _ hz2), line_lt (by rw [nv_len, List.length_map]; omega), ?_⟩
        refine ⟨_, _, rfl, same_put (same_put (s2.trans s3) hm) hz0, ?_, ?_⟩
        · rw [upd_ne hmz, upd_same, cycs_out q, List.flatten_append, List.flatten_singleton, nv_app]
        · rw [upd_same, cycs_out q, List.map_append, nv_app, nv_len]; rfl
    · rintro σ H1 ⟨u, v, rfl, s2, hm2, hz2⟩
      exact ⟨_, rfl, k _ z s2 hz0 hz2⟩
end
end Gs
end
section
set_option maxRecDepth 100000
set_option maxHeartbeats 4000000
namespace Gs
open PySem L2
section
variable {P : Program} {w : World} {K : PySem.W.Frag} {mg : Str → Option Value} {base : Heap}
/-! lists of whole numbers as data -/
def di (ns : List Int) : List PyData := ns.map PyData.int
theorem dp_all (H : Hp) : ∀ ns : List Int, DpAll K H (ns.map V.int) (di ns)
  | [] => .nil
  | n :: ns => .cons (.int n) (dp_all H ns)
theorem dp_ints {H : Hp} {a : Addr} {ns : List Int} (h : SqL K H a (ns.map V.int)) : Dp K H (.ref a) (.list (di ns)) := .lst h (dp_all H ns)
theorem can_ints : ∀ ns : List Int, PyData.canLayAll0 (di ns) = true
  | [] => by simp only [di, List.map_nil, PyData.canLayAll0]
  | n :: ns => by
    have ih := can_ints ns
    simp only [di, List.map_cons, PyData.canLayAll0, PyData.canLay0, Bool.true_and] at ih ⊢
    exact ih
theorem deep_ints : ∀ ns : List Int, PyData.depthAll (di ns) = 0
  | [] => by simp only [di, List.map_nil, PyData.depthAll]
  | n :: ns => by
    have ih := deep_ints ns
    simp only [di, List.map_cons, PyData.depthAll, PyData.depth] at ih ⊢
    rw [ih]
    rfl
theorem shaped_ints (ns : List Int) : SeqAt.shaped (.list (di ns)) = true := by
  unfold SeqAt.shaped
  have e1 : PyData.canLay0 (.list (di ns)) = true := by
    simp only [PyData.canLay0]
    exact can_ints ns
  have e2 : PyData.depth (.list (di ns)) ≤ 64 := by
    simp only [PyData.depth, deep_ints]
    decide
  rw [e1, decide_eq_true e2]
  rfl
theorem eqv_ints : ∀ a b : List Int, PyData.eqv (.list (di a)) (.list (di b)) = decide (a = b)
  | [], [] => by simp [di, PyData.eqv, PyData.eqvAll]
  | [], y :: b => by simp [di, PyData.eqv, PyData.eqvAll]
  | x :: a, [] => by simp [di, PyData.eqv, PyData.eqvAll]
  | x :: a, y :: b => by
    have ih := eqv_ints a b
    simp only [di, PyData.eqv, List.map_cons, PyData.eqvAll] at ih ⊢
    rw [ih, Bool.eq_iff_iff]
    simp
def spTells (K : PySem.W.Frag) : Sp := fun vs H Q _ => ∃ (a : Addr) (n : Nat) (ms : List Nat), vs = [.ref a, .int (n : Int)] ∧ SqL K H a (nv ms) ∧ n ≤ 100 ∧ ∀ H' : Hp, Same H H' → Q (.bl (Krct.isPerm n ms)) H'
theorem scTells : FnScope ["ones", "size"] ["ones", "size"] (defScope sTells) := ⟨rfl, rfl, rfl, by decide +kernel, rfl, by decide +kernel, by decide +kernel⟩
theorem rg_nat (n : Nat) : rgV 0 (n : Int) = ((List.range n).map Int.ofNat).map V.int := by
  unfold rgV
  have e : ((n : Int) - 0).toNat = n := by omega
  rw [e, List.map_map]
  refine List.map_congr_left (fun x _ => ?_)
  show V.int (0 + ((x : Nat) : Int)) = V.int (Int.ofNat x)
  rw [Int.zero_add]
  rfl
theorem ok_tells {f : Addr} {fd : FuncData} (F : Fun K "tells_all_once" "tells_all_once" sTells f fd) (B : Bn mg) : FnOk P w K mg base CX0 1 f fd ["ones", "size"] (spTells K) := by
  refine F.ok scTells (fun vs H Q E h => ?_) (fun cdv A outer s H vs Q E hr h => ?_)
  · obtain ⟨a, n, ms, rfl, _⟩ := h
    rfl
  · obtain ⟨a, n, ms, rfl, hS, hn, k⟩ := h
    refine ⟨_, pss_one (ps_ret (pe_cmpR (op_eqD hr.units) (pe_callB cr_sortedI (by rfl) B.sorted (by decide +kernel) (pa_cons (pv 0) pa_nil)) (pe_listRg rfl (by rfl) B.list (prg_1 (by rfl) B.range (pv 1))) (nomark _))), ?_⟩
    rw [nv_ints] at hS
    refine ⟨_, rfl, a, _, rfl, hS, fun ns p pp ps np => ?_⟩
    refine ⟨_, rfl, _, rfl, RgOk.of_le (by omega) (by omega) (by omega) (by omega), fun q nq => ?_⟩
    have hpq : p ≠ q := ne_of_none upd_same nq
    refine ⟨_, _, dp_ints (SqL.of ((upd_ne hpq).trans upd_same)), dp_ints (SqL.of (by rw [upd_same, rg_nat])), shaped_ints _, shaped_ints _, ?_⟩
    have e : PyData.eqv (.list (di ns)) (.list (di ((List.range n).map Int.ofNat))) = Krct.isPerm n ms := by
      rw [eqv_ints, Bool.eq_iff_iff, decide_eq_true_iff]
      exact sorted_range pp ps
    rw [e]
    exact k _ ((same_new np).trans (same_new nq))
end
end Gs
end
section
set_option maxRecDepth 100000
set_option maxHeartbeats 4000000
namespace Gs
open PySem L2
/-! ## min of a list of lists of whole numbers, max with a default -/
theorem hold_ints_det {h : Heap} : ∀ {vs : List Value} {xs ys : List Int}, PySem.W.HoldAll h vs xs → PySem.W.HoldAll h vs ys → xs = ys
  | [], xs, ys, a, b => by
    have h1 := a.length
    have h2 := b.length
    rw [List.eq_nil_of_length_eq_zero h1.symm, List.eq_nil_of_length_eq_zero h2.symm]
  | v :: vs, [], ys, a, b => by
    have h1 := a.length
    cases h1
  | v :: vs, x :: xs, [], a, b => by
    have h1 := b.length
    cases h1
  | v :: vs, x :: xs, y :: ys, a, b => by
    obtain ⟨a1, a2⟩ := a.head
    obtain ⟨b1, b2⟩ := b.head
    obtain ⟨t, e⟩ := PySem.W.int_of_holds a1
    obtain ⟨u, e2⟩ := PySem.W.int_of_holds b1
    rw [e] at e2
    cases e2
    rw [hold_ints_det a2 b2]
theorem hold_det {h : Heap} {v : Value} {xs ys : List Int} (a : PySem.W.Holds h v xs) (b : PySem.W.Holds h v ys) : xs = ys := by
  obtain ⟨l, vs, rfl, ⟨o, e, _, n, d⟩, ha⟩ := PySem.W.list_of_holds a
  obtain ⟨l', vs', e', ⟨o', e2, _, n', d'⟩, hb⟩ := PySem.W.list_of_holds b
  cases e'
  rw [e] at e2
  cases e2
  rw [d] at d'
  cases d'
  exact hold_ints_det ha hb
theorem hold_ints {h : Heap} : ∀ {ns : List Int} {us : List Value}, Vals (ns.map V.int) us → PySem.W.HoldAll h us ns
  | [], _, .nil => PySem.W.HoldAll.nil
  | n :: ns, _, .cons r t => by
    obtain ⟨tk, rfl⟩ := r
    exact PySem.W.HoldAll.cons (PySem.W.holds_int n tk) (hold_ints t)
section
variable {X : Cx} {pins : List (Addr × Obj)} {σ : L2.St} {H : Hp} {s : Shared}
theorem hold_list (I : Inv X pins σ H s) {a : Addr} {ns : List Int} (h : SqL X.K H a (ns.map V.int)) : PySem.W.Holds s.heap (.ref a) ns := by
  obtain ⟨its, rv, pl, _⟩ := I.list h
  exact PySem.W.holds_list pl.isList (hold_ints (by simpa using rv))
/-- lists of whole numbers, one by one -/
inductive AllAt (H : Hp) : List Addr → List (List Int) → Prop
  | nil : AllAt H [] []
  | cons {p : Addr} {ps : List Addr} {l : List Int} {ls : List (List Int)} : H p = some (.lst (l.map V.int)) → AllAt H ps ls → AllAt H (p :: ps) (l :: ls)
theorem hold_lists (I : Inv X pins σ H s) : ∀ {ps : List Addr} {ls : List (List Int)} {us : List Value}, AllAt H ps ls → Vals (ps.map V.ref) us → PySem.W.HoldAll s.heap us ls
  | _, _, _, .nil, .nil => PySem.W.HoldAll.nil
  | _, _, _, .cons h t, .cons r q => by
    cases r
    exact PySem.W.HoldAll.cons (hold_list I (SqL.of h)) (hold_lists I t q)
def minI (l : List Int) (ls : List (List Int)) : List Int := PySem.W.minOf l ls
def rMinL (K : PySem.W.Frag) : List V → Hp → VK → Prop := fun vs H Q => ∃ (a : Addr) (ps : List Addr) (l : List Int) (ls : List (List Int)), vs = [V.ref a] ∧ SqL K H a (ps.map V.ref) ∧ AllAt H ps (l :: ls) ∧
  ∀ p, H p = some (.lst ((minI l ls).map V.int)) → p ∈ ps → Q (.ref p) H
theorem AllAt.get {H : Hp} : ∀ {ps : List Addr} {ls : List (List Int)}, AllAt H ps ls → ∀ {p : Addr}, p ∈ ps → ∃ l : List Int, H p = some (.lst (l.map V.int))
  | _, _, .nil, _, h => absurd h List.not_mem_nil
  | _, _, .cons h t, p, q => by
    rcases List.mem_cons.mp q with e | e
    · subst e; exact ⟨_, h⟩
    · exact AllAt.get t e
theorem vals_mem : ∀ {ps : List Addr} {us : List Value} {i : Nat} {v : Value}, Vals (ps.map V.ref) us → us[i]? = some v → ∃ p, p ∈ ps ∧ v = .ref p
  | [], _, i, v, .nil, h => by simp at h
  | p :: ps, _, 0, v, .cons r t, h => by
    have e := Option.some.inj h
    subst e
    cases r
    exact ⟨p, List.mem_cons_self, rfl⟩
  | p :: ps, _, i + 1, v, .cons r t, h => by
    obtain ⟨q, hq, e⟩ := vals_mem t h
    exact ⟨q, List.mem_cons_of_mem _ hq, e⟩
theorem cr_minL (hc : X.calm = true) (hu : X.A.units + 64 < cLine) : CallR X (.builtin "min") (rMinL X.K) := by
  intro pins s σ H vs us Q I r h
  obtain ⟨a, ps, l, ls, rfl, hs, al, q⟩ := h
  obtain ⟨its, rv, pl, _⟩ := I.list hs
  rw [Vals.ref1 r]
  refine PySem.W.min_list_datum (α := List Int) (I.ok.hd hc) pl.isList (by rw [List.toList_toArray]; exact hold_lists I al rv) (by show X.A.units + 1 + 1 < cLine; omega) fun i v h' tk hi hv hk => ?_
  rw [List.getElem?_toArray] at hi
  obtain ⟨p, hp, rfl⟩ := vals_mem rv hi
  obtain ⟨m, hm⟩ := al.get hp
  have e := hold_det (PySem.W.Holds.keeps hk (hold_list I (SqL.of hm))) hv
  refine ⟨.ref p, H, I.kept hk, rfl, q p ?_ hp⟩
  unfold minI
  rw [← e]
  exact hm
/-- how often a list of whole numbers stands in a list of such -/
def rCntL (K : PySem.W.Frag) : V → List V → Hp → VK → Prop := fun x xs H Q => ∃ (a b : Addr) (ps : List Addr) (l : List Int) (ls : List (List Int)), x = .ref a ∧ xs = [.ref b] ∧ SqL K H a (ps.map V.ref) ∧ AllAt H ps ls ∧ H b = some (.lst (l.map V.int)) ∧
  Q (.int (((ls.countP fun y => decide (y = l)) : Nat) : Int)) H
theorem mt_lcountL (hu : X.A.units + 64 < cLine) : MtR X "list.count" (rCntL X.K) := by
  intro pins s σ H x xs v us Q I rx rxs h
  obtain ⟨a, b, ps, l, ls, rfl, rfl, hs, al, hb, q⟩ := h
  cases rx
  obtain ⟨u, rfl, ru⟩ := rxs.one
  cases ru
  obtain ⟨its, rv, pl, _⟩ := I.list hs
  refine PySem.W.count_list_datum (α := List Int) pl.isList (by rw [List.toList_toArray]; exact hold_lists I al rv) (hold_list I (SqL.of hb)) (by show X.A.units + 1 + 1 < cLine; omega) ?_
  exact ⟨.int _, H, I.tok _, ⟨_, rfl⟩, q⟩
theorem max_of (y : Int) : ∀ ys : List Int, PySem.W.maxOf y ys ∈ y :: ys ∧ ∀ z ∈ y :: ys, z ≤ PySem.W.maxOf y ys := fun ys => by
  unfold PySem.W.maxOf
  induction ys generalizing y with
  | nil => exact ⟨List.mem_cons_self, fun z hz => by rw [List.mem_singleton.mp hz]; exact Int.le_refl _⟩
  | cons x xs ih =>
    rw [List.foldl_cons]
    have e : (if PySem.W.DatumOrd.lt y x = true then x else y) = max y x := by
      show (if decide (y < x) = true then x else y) = max y x
      by_cases c : y < x
      · rw [if_pos (decide_eq_true c)]; omega
      · rw [if_neg (by simpa using c)]; omega
    rw [e]
    obtain ⟨h1, h2⟩ := ih (max y x)
    refine ⟨?_, fun z hz => ?_⟩
    · rcases List.mem_cons.mp h1 with q | q
      · rw [q]
        by_cases c : y < x
        · have : max y x = x := by omega
          rw [this]
          exact List.mem_cons_of_mem _ List.mem_cons_self
        · have : max y x = y := by omega
          rw [this]
          exact List.mem_cons_self
      · exact List.mem_cons_of_mem _ (List.mem_cons_of_mem _ q)
    · have h3 := h2 _ List.mem_cons_self
      rcases List.mem_cons.mp hz with q | q
      · rw [q]; omega
      · rcases List.mem_cons.mp q with q | q
        · rw [q]; omega
        · exact h2 z (List.mem_cons_of_mem _ q)
def rMaxDef (K : PySem.W.Frag) : List V → List V → Hp → VK → Prop := fun xs zs H Q => ∃ (a : Addr) (ns : List Int) (d : Int), xs = [V.ref a] ∧ zs = [V.int d] ∧ SqL K H a (ns.map V.int) ∧ (ns = [] → Q (.int d) H) ∧
  ∀ m, m ∈ ns → (∀ y ∈ ns, y ≤ m) → Q (.int m) H
theorem cr_maxDef (hc : X.calm = true) (hu : X.A.units + 64 < cLine) : CallRK X (.builtin "max") ["default"] (rMaxDef X.K) := by
  intro pins s σ H xs zs us ws Q I r rz h
  obtain ⟨a, ns, d, rfl, rfl, hs, h0, h1⟩ := h
  obtain ⟨its, rv, pl, _⟩ := I.list hs
  rw [Vals.ref1 r]
  cases rz with
  | cons rd rt =>
    cases rt
    obtain ⟨td, rfl⟩ := rd
    refine PySem.W.max_list_datum_default (α := Int) (I.ok.hd hc) pl.isList (by rw [List.toList_toArray]; exact hold_ints rv) (by show X.A.units + 1 + 0 < cLine; omega) (fun e h' tk hk => ?_) (fun y ys i v h' tk e hi hv hk => ?_)
    · exact ⟨.int d, H, I.kept hk, ⟨_, rfl⟩, h0 e⟩
    · obtain ⟨t, rfl⟩ := PySem.W.int_of_holds hv
      subst e
      obtain ⟨m1, m2⟩ := max_of y ys
      exact ⟨.int _, H, I.kept hk, ⟨_, rfl⟩, h1 _ m1 m2⟩
end
section
variable {P : Program} {w : World} {K : PySem.W.Frag} {mg : Str → Option Value} {base : Heap}
theorem ltI_lex : ∀ a b : List Nat, a.length = b.length → PySem.W.listLt (a.map Int.ofNat) (b.map Int.ofNat) = Krct.lexLess a b
  | [], [], _ => rfl
  | [], _ :: _, h => by cases h
  | _ :: _, [], h => by cases h
  | x :: a, y :: b, h => by
    have ih := ltI_lex a b (by simpa using h)
    show (if Int.ofNat x = Int.ofNat y then PySem.W.listLt (a.map Int.ofNat) (b.map Int.ofNat) else decide (Int.ofNat x < Int.ofNat y)) = (decide (x < y) || (x == y && Krct.lexLess a b))
    rw [ih]
    by_cases c : x = y
    · subst c
      rw [if_pos rfl]
      simp
    · rw [if_neg (fun e => c (Int.ofNat.inj e))]
      have e1 : (x == y) = false := by simpa using c
      rw [e1, Bool.false_and, Bool.or_false]
      simp
/-- the least of the names from the squares -/
theorem min_names {g : Krct.Glued} (T : Two g) (wh : g.whole = true) : ∀ i, i < g.n → minI ((nameFrom g 0).map Int.ofNat) ((List.range i).map fun s => (nameFrom g (s + 1)).map Int.ofNat) = (leastTo g i).map Int.ofNat ∧ (leastTo g i).length = 2 * g.n
  | 0, h => ⟨rfl, nameFrom_len T wh h⟩
  | i + 1, h => by
    obtain ⟨ih, il⟩ := min_names T wh i (by omega)
    have ln := nameFrom_len T wh h
    unfold minI PySem.W.minOf at ih ⊢
    rw [List.range_succ, List.map_append, List.foldl_append, ih]
    show (if PySem.W.listLt ((nameFrom g (i + 1)).map Int.ofNat) ((leastTo g i).map Int.ofNat) = true then _ else _) = List.map Int.ofNat (if Krct.lexLess (nameFrom g (i + 1)) (leastTo g i) = true then nameFrom g (i + 1) else leastTo g i) ∧ (if Krct.lexLess (nameFrom g (i + 1)) (leastTo g i) = true then nameFrom g (i + 1) else leastTo g i).length = 2 * g.n
    rw [ltI_lex _ _ (by rw [ln, il])]
    by_cases c : Krct.lexLess (nameFrom g (i + 1)) (leastTo g i) = true
    · rw [if_pos c, if_pos c]
      exact ⟨rfl, ln⟩
    · rw [if_neg c, if_neg c]
      exact ⟨rfl, il⟩
end
end Gs
end
section
set_option maxRecDepth 100000
set_option maxHeartbeats 4000000
namespace Gs
open PySem L2
section
variable {P : Program} {w : World} {K : PySem.W.Frag} {mg : Str → Option Value} {base : Heap}
theorem allAt_of {H : Hp} : ∀ {ps : List Addr} {ls : List (List Int)}, ps.length = ls.length → (∀ (j : Nat) (p : Addr) (l : List Int), ps[j]? = some p → ls[j]? = some l → H p = some (.lst (l.map V.int))) → AllAt H ps ls
  | [], [], _, _ => .nil
  | [], _ :: _, h, _ => by cases h
  | _ :: _, [], h, _ => by cases h
  | p :: ps, l :: ls, h, q => .cons (q 0 p l rfl rfl) (allAt_of (by simpa using h) fun j p' l' h1 h2 => q (j + 1) p' l' h1 h2)
theorem allAt_same {H H' : Hp} (s : Same H H') : ∀ {ps : List Addr} {ls : List (List Int)}, AllAt H ps ls → AllAt H' ps ls
  | _, _, .nil => .nil
  | _, _, .cons h t => .cons (s _ _ h) (allAt_same s t)
def spNames (K : PySem.W.Frag) : Sp := fun vs H Q _ => ∃ (a b : Addr) (g : Krct.Glued), vs = [.ref a, .ref b] ∧ TwoAt K H a b g ∧ g.whole = true ∧ 0 < g.n ∧
  ∀ (H' : Hp) (p : Addr) (ps : List Addr), Same H H' → H p = none → H' p = some (.lst (ps.map V.ref)) → AllAt H' ps (namesOf g) → (∀ q ∈ ps, H q = none) → Q (.ref p) H'
theorem scNames : FnScope ["east", "north", "square"] ["east", "north"] (defScope sNames) := ⟨rfl, rfl, rfl, by decide +kernel, rfl, by decide +kernel, by decide +kernel⟩
theorem ok_names {f : Addr} {fd : FuncData} (F : Fun K "names_by_orders" "names_by_orders" sNames f fd) (B : Bn mg) (DR : Dn P w K mg base 3 "renamed_from" ["square", "east", "north"] (spRenFrom K)) : FnOk P w K mg base CX0 4 f fd ["east", "north"] (spNames K) := by
  refine F.ok scNames (fun vs H Q E h => ?_) (fun cdv A outer s H vs Q E hr h => ?_)
  · obtain ⟨a, b, g, rfl, _⟩ := h
    rfl
  · obtain ⟨a, b, g, rfl, hT, hw, h0, k⟩ := h
    refine ⟨_, pss_one (ps_ret
      (pe_lc (own := [("square", 2)]) (g := gName 2) (tt := tYes) (te := tCall (spRenFrom K) [] E0 (tCons (tVar 2) (tCons (tVar 0) (tCons (tVar 1) tNil)))) rfl scNames.nd
        (pi_range1 (by rfl) B.range (pa_cons (pe_callB call_len_seq (by rfl) B.len PySem.boot_len (pa_cons (pv 0) pa_nil)) pa_nil)) (blkOk_by (own := [("square", 2)]) (N := ["east", "north", "square"]) (sc := defScope sNames) (by decide +kernel))
        (fun _ _ _ _ _ => pg_name (i := 2) scNames.nd rfl (Or.inl rfl)) (fun _ _ _ _ _ => pts_nil) (fun _ _ _ _ _ => DR.pe hr (by decide) rfl (pa_cons (pv 2) (pa_cons (pv 0) (pa_cons (pv 1) pa_nil)))))), ?_⟩
    have ln : (nv g.east).length = g.n := by rw [nv_len, hT.t.e.len]
    have hn := hT.n
    refine ⟨_, rfl, a, _, rfl, .inl hT.e, _, rfl, by rw [ln]; omega, by rw [ln]; omega, ?_⟩
    rw [Int.toNat_natCast, ln]
    intro D hD
    refine lc_range (lo := 0) (n := g.n) (fun i H' => ∃ ps : List Addr, Same H H' ∧ H' D = some (.lst (ps.map V.ref)) ∧ ps.length = i ∧ ∀ j q, ps[j]? = some q → q ≠ D ∧ H q = Option.none ∧ H' q = some (.lst (nv (nameFrom g j))))
      ⟨[], same_new hD, upd_same, rfl, fun j q h => by simp at h⟩ ?_ ?_
    · rintro i H1 hi ⟨ps, s1, hD1, hl, hq⟩
      have ei : (0 : Int) + ((i : Nat) : Int) = ((i : Nat) : Int) := by omega
      rw [ei]
      refine ⟨rfl, _, rfl, _, rfl, _, rfl, i, a, b, g, rfl, hT.same s1, hw, hi, fun H2 p s2 np hp => ?_⟩
      have hpD : p ≠ D := (ne_of_none hD1 np).symm
      refine ⟨_, s2 _ _ hD1, line_lt (by rw [List.length_map]; omega), ps ++ [p], same_put (s1.trans s2) hD, by rw [upd_same, List.map_append]; rfl, by rw [List.length_append, hl]; rfl, fun j q hj => ?_⟩
      by_cases c : j < ps.length
      · rw [List.getElem?_append_left c] at hj
        obtain ⟨q1, q2, q3⟩ := hq j q hj
        exact ⟨q1, q2, (upd_ne q1).trans (s2 _ _ q3)⟩
      · have cj : j = ps.length := by
          have := (List.getElem?_eq_some_iff.mp hj).1
          rw [List.length_append, List.length_singleton] at this
          omega
        subst cj
        rw [List.getElem?_append_right (Nat.le_refl _), Nat.sub_self] at hj
        cases hj
        exact ⟨hpD, s1.free np, by rw [upd_ne hpD, hl]; exact hp⟩
    · rintro H1 ⟨ps, s1, hD1, hl, hq⟩
      refine k _ D ps s1 hD hD1 (allAt_of (by unfold namesOf; rw [hl, List.length_map, List.length_range]) (fun j q l h1 h2 => ?_)) (fun q hm => ?_)
      · have hj : j < g.n := by
          have := (List.getElem?_eq_some_iff.mp h1).1
          omega
        unfold namesOf at h2
        rw [List.getElem?_map, List.getElem?_range hj] at h2
        have e : up (nameFrom g j) = l := Option.some.inj h2
        rw [← e, up, ← nv_ints]
        exact (hq j q h1).2.2
      · obtain ⟨j, hj, e⟩ := List.getElem_of_mem hm
        exact (hq j q (by rw [List.getElem?_eq_getElem hj, e])).2.1
theorem namesOf_cons {g : Krct.Glued} (h0 : 0 < g.n) : namesOf g = (nameFrom g 0).map Int.ofNat :: (List.range (g.n - 1)).map fun s => (nameFrom g (s + 1)).map Int.ofNat := by
  have en : g.n = (g.n - 1) + 1 := by omega
  unfold namesOf
  rw [en, List.range_succ_eq_map, List.map_cons, List.map_map]
  rfl
def spLeast (K : PySem.W.Frag) : Sp := fun vs H Q _ => ∃ (a b : Addr) (g : Krct.Glued), vs = [.ref a, .ref b] ∧ TwoAt K H a b g ∧ g.whole = true ∧ 0 < g.n ∧
  ∀ (H' : Hp) (p : Addr), Same H H' → H p = none → H' p = some (.lst (nv (word (Krct.name g)))) → Q (.ref p) H'
theorem scLeast : FnScope ["east", "north"] ["east", "north"] (defScope sLeast) := ⟨rfl, rfl, rfl, by decide +kernel, rfl, by decide +kernel, by decide +kernel⟩
theorem ok_least {f : Addr} {fd : FuncData} (F : Fun K "least_name" "least_name" sLeast f fd) (B : Bn mg) (DN : Dn P w K mg base 4 "names_by_orders" ["east", "north"] (spNames K)) : FnOk P w K mg base CX0 5 f fd ["east", "north"] (spLeast K) := by
  refine F.ok scLeast (fun vs H Q E h => ?_) (fun cdv A outer s H vs Q E hr h => ?_)
  · obtain ⟨a, b, g, rfl, _⟩ := h
    rfl
  · obtain ⟨a, b, g, rfl, hT, hw, h0, k⟩ := h
    refine ⟨_, pss_one (ps_ret (pe_callB (cr_minL rfl hr.units) (by rfl) B.min (by decide +kernel) (pa_cons (DN.pe hr (by decide) rfl (pa_cons (pv 0) (pa_cons (pv 1) pa_nil))) pa_nil))), ?_⟩
    refine ⟨_, rfl, _, rfl, a, b, g, rfl, hT, hw, h0, fun H1 D ps s1 nD hD al fr => ?_⟩
    rw [namesOf_cons h0] at al
    refine ⟨D, ps, _, _, rfl, SqL.of hD, al, fun p hp hm => ?_⟩
    rw [(min_names hT.t hw (g.n - 1) (by omega)).1, ← nv_ints, ← name_eq h0] at hp
    exact k _ p s1 (fr p hm) hp
/-! gluing_fault -/
/-- what is due to two lists -/
def faultOf (n : Nat) (l m : List Nat) : Int := if (!Krct.isPerm n l || !Krct.isPerm n m) = true then -22 else if (!(⟨n, l, m⟩ : Krct.Glued).whole) = true then -33 else 0
def spFault (K : PySem.W.Frag) : Sp := fun vs H Q _ => ∃ (a b : Addr) (n : Nat) (l m : List Nat), vs = [.ref a, .ref b, .int (n : Int)] ∧ SqL K H a (nv l) ∧ SqL K H b (nv m) ∧ 0 < n ∧ n ≤ 100 ∧ ∀ H' : Hp, Same H H' → Q (.int (faultOf n l m)) H'
theorem scFault : FnScope ["east", "north", "size"] ["east", "north", "size"] (defScope sFault) := ⟨rfl, rfl, rfl, by decide +kernel, rfl, by decide +kernel, by decide +kernel⟩
theorem ok_fault {f : Addr} {fd : FuncData} (F : Fun K "gluing_fault" "gluing_fault" sFault f fd) (N : Cn K mg) (DA : Dn P w K mg base 1 "tells_all_once" ["ones", "size"] (spTells K)) (DH : Dn P w K mg base 2 "hang_together" ["east", "north"] (spHang K)) : FnOk P w K mg base CX0 3 f fd ["east", "north", "size"] (spFault K) := by
  refine F.ok scFault (fun vs H Q E h => ?_) (fun cdv A outer s H vs Q E hr h => ?_)
  · obtain ⟨a, b, n, l, m, rfl, _⟩ := h
    rfl
  · obtain ⟨a, b, n, l, m, rfl, ha, hb, h0, hn, k⟩ := h
    obtain ⟨t3, m3⟩ := N.notRight
    obtain ⟨t4, m4⟩ := N.notTog
    refine ⟨_, pss_cons (ps_if (PW.pt (pw_or (pt_not (pt_val (DA.pe hr (by decide) rfl (pa_cons (pv 0) (pa_cons (pv 2) pa_nil))))) (pw_or1 (pt_not (pt_val (DA.pe hr (by decide) rfl (pa_cons (pv 1) (pa_cons (pv 2) pa_nil))))))))
        (pss_one (ps_ret (pe_glob (v := .int (-22)) rfl m3 ⟨_, rfl⟩))) pss_nil)
      (pss_cons (ps_if (pt_not (pt_val (DH.pe hr (by decide) rfl (pa_cons (pv 0) (pa_cons (pv 1) pa_nil))))) (pss_one (ps_ret (pe_glob (v := .int (-33)) rfl m4 ⟨_, rfl⟩))) pss_nil)
      (pss_one (ps_ret pe_int))), ?_⟩
    unfold faultOf at k
    refine ⟨_, rfl, _, rfl, a, n, l, rfl, ha, hn, fun H1 s1 => ?_⟩
    refine ⟨_, rfl, ?_⟩
    cases c : Krct.isPerm n l with
    | false =>
      rw [if_pos (by rw [c]; rfl)] at k
      exact k _ s1
    | true =>
      refine ⟨_, rfl, _, rfl, b, n, m, rfl, s1.seq hb, hn, fun H2 s2 => ?_⟩
      refine ⟨_, rfl, ?_⟩
      have s12 := s1.trans s2
      cases c2 : Krct.isPerm n m with
      | false =>
        rw [if_pos (by rw [c, c2]; rfl)] at k
        exact k _ s12
      | true =>
        rw [if_neg (by rw [c, c2]; decide)] at k
        refine ⟨_, rfl, _, rfl, a, b, ⟨n, l, m⟩, rfl, ⟨s12.seq ha, s12.seq hb, ⟨Pm.of c, Pm.of c2⟩, hn⟩, h0, fun H3 s3 => ?_⟩
        have s13 := s12.trans s3
        refine ⟨_, rfl, ?_⟩
        cases c3 : (⟨n, l, m⟩ : Krct.Glued).whole with
        | false =>
          rw [if_pos (by rw [c3]; rfl)] at k
          exact k _ s13
        | true =>
          rw [if_neg (by rw [c3]; decide)] at k
          exact k _ s13
end
end Gs
end
section
set_option maxRecDepth 100000
set_option maxHeartbeats 4000000
namespace Gs
open PySem L2
section
variable {P : Program} {w : World} {K : PySem.W.Frag} {mg : Str → Option Value} {base : Heap}
theorem WaysAt.at4 {H : Hp} {a : Addr} {g : Krct.Glued} (h : WaysAt K H a g) : ∃ vs : List V, SqL K H a vs ∧ vs.length = 4 ∧ ∀ d, d ≤ 3 → ∃ b, vs[d]? = some (.ref b) ∧ SqL K H b (nv (dirs g d)) := by
  obtain ⟨b, c, d, e, h0, h1, h2, h3, h4⟩ := h.l
  refine ⟨_, h0, rfl, fun k hk => ?_⟩
  match k, hk with
  | 0, _ => exact ⟨b, rfl, h1⟩
  | 1, _ => exact ⟨c, rfl, h2⟩
  | 2, _ => exact ⟨d, rfl, h3⟩
  | 3, _ => exact ⟨e, rfl, h4⟩
def spWith (K : PySem.W.Frag) : Sp := fun vs H Q _ => ∃ (a wa : Addr) (l : List Nat) (g : Krct.Glued), vs = [.ref a, .ref wa] ∧ H a = some (.lst (nv l)) ∧ Some_ g.n l ∧ WaysAt K H wa g ∧
  ∀ (H' : Hp) (p : Addr), Same H H' → H p = none → H' p = some (.lst (nv (wideTo g l 4))) → Q (.ref p) H'
theorem scWith : FnScope ["squares", "ways", "wider", "way", "square"] ["squares", "ways"] (defScope sWith) := ⟨rfl, rfl, rfl, by decide +kernel, rfl, by decide +kernel, by decide +kernel⟩
theorem ok_with {f : Addr} {fd : FuncData} (F : Fun K "with_neighbours" "with_neighbours" sWith f fd) (B : Bn mg) : FnOk P w K mg base CX0 1 f fd ["squares", "ways"] (spWith K) := by
  refine F.ok scWith (fun vs H Q E h => ?_) (fun cdv A outer s H vs Q E hr h => ?_)
  · obtain ⟨a, wa, l, g, rfl, _⟩ := h
    rfl
  · obtain ⟨a, wa, l, g, rfl, ha, so, W, k⟩ := h
    refine ⟨_, pss_cons (ps_set (i := 2) scWith.nd rfl (.inl rfl) (pe_callTy call_list_of (by rfl) B.list (by decide +kernel) (pa_cons (pv 0) pa_nil)))
      (pss_cons (ps_for PassesOwn.never rfl (pi_list (pv 1)) (pg_name (i := 3) scWith.nd rfl (.inl rfl))
        (pss_one (ps_for PassesOwn.never rfl (pi_list (pv 0)) (pg_name (i := 4) scWith.nd rfl (.inl rfl))
          (pss_one (ps_if (pt_cmpR op_notIn_seq (pe_ix ix_list (pv 3) (pv 4) (fun _ _ => rfl)) (pv 2) (by rfl))
            (pss_one (ps_expr (pe_bm PySem.F.plainAttrs_list PySem.F.slot_list_append PySem.F.type_list_append mt_append (pv 2) (pa_cons (pe_ix ix_list (pv 3) (pv 4) (fun _ _ => rfl)) pa_nil)))) pss_nil)))))
      (pss_one (ps_ret (pv 2)))), ?_⟩
    have hn := W.n
    obtain ⟨ws, hw, hwl, wd⟩ := W.at4
    refine ⟨_, rfl, a, _, rfl, .inl (SqL.of ha), fun p np => ?_⟩
    have hap : a ≠ p := ne_of_none ha np
    refine ⟨_, rfl, wa, rfl, ⟨_, (same_new np).seq hw⟩, for_list (K := K) (a := wa) (xs := ws) (fun i σ H' => ∃ u v : Option V, σ = [some (.ref a), some (.ref wa), some (.ref p), u, v] ∧ Same H H' ∧ H' p = some (.lst (nv (wideTo g l i))))
      ⟨none, none, rfl, same_new np, upd_same⟩ (fun i σ H' _ ⟨_, _, _, s1, _⟩ => s1.seq hw) ?_ ?_⟩
    · rintro i x σ H1 hx ⟨u, v, rfl, s1, hp1⟩
      have hi : i < 4 := by
        have := (List.getElem?_eq_some_iff.mp hx).1
        omega
      obtain ⟨b, hb, hb2⟩ := wd i (by omega)
      have ex : x = .ref b := Option.some.inj (hx.symm.trans hb)
      subst ex
      refine ⟨_, rfl, a, rfl, ⟨_, SqL.of (s1 _ _ ha)⟩, for_list (K := K) (a := a) (xs := nv l) (fun j σ H' => ∃ v : Option V, σ = [some (.ref a), some (.ref wa), some (.ref p), some (.ref b), v] ∧ Same H H' ∧ H' p = some (.lst (nv (pushAll (wideTo g l i) (along g (l.take j) i)))))
        ⟨_, rfl, s1, hp1⟩ (fun j σ H' _ ⟨_, _, s2, _⟩ => SqL.of (s2 _ _ ha)) ?_ ?_⟩
      · rintro j y σ H2 hy ⟨v, rfl, s2, hp2⟩
        obtain ⟨z, hz, rfl⟩ := nv_at hy
        have hzn := so.lt z (List.mem_of_getElem? hz)
        have gz := dirs_get W.t hzn (d := i) (by omega)
        have e1 : pushAll (wideTo g l i) (along g (l.take (j + 1)) i) = push (pushAll (wideTo g l i) (along g (l.take j) i)) (g.go z i) := by
          unfold along
          rw [List.take_add_one, hz, List.map_append, pushAll_app]
          rfl
        have sm : (pushAll (wideTo g l i) (along g (l.take j) i)).length ≤ g.n := ((so.wideTo W.t i).all fun t ht => by
          obtain ⟨s', hs', rfl⟩ := List.mem_map.mp ht
          exact go_lt W.t (so.lt s' (List.mem_of_mem_take hs'))).len
        refine ⟨_, rfl, _, rfl, b, _, _, _, rfl, rfl, s2.seq hb2, at_nat (nv_get gz), _, rfl, p, _, rfl, .inl (SqL.of hp2), rfl, flat_nv _, _, rfl, ?_⟩
        by_cases q : g.go z i ∈ pushAll (wideTo g l i) (along g (l.take j) i)
        · refine ifF (by rw [in_nv, decide_eq_true q]; rfl) ?_
          refine ⟨_, rfl, s2, ?_⟩
          rw [e1, push_in q]
          exact hp2
        · refine ifT (by rw [in_nv, decide_eq_false q]; rfl) ?_
          refine ⟨_, rfl, .inl ⟨rfl, _, SqL.of hp2⟩, _, rfl, _, rfl, b, _, _, _, rfl, rfl, s2.seq hb2, at_nat (nv_get gz), p, _, _, rfl, rfl, hp2, line_lt (by rw [nv_len]; omega), ?_⟩
          refine ⟨_, rfl, same_put s2 np, ?_⟩
          rw [upd_same, e1, push_out q, nv_app]
          rfl
      · rintro σ H2 ⟨v, rfl, s2, hp2⟩
        refine ⟨_, _, rfl, s2, ?_⟩
        rw [nv_len, List.take_length] at hp2
        rw [wideTo_succ]
        exact hp2
    · rintro σ H1 ⟨u, v, rfl, s1, hp1⟩
      rw [hwl] at hp1
      exact ⟨_, rfl, k _ p s1 np hp1⟩
def spFew (K : PySem.W.Frag) : Sp := fun vs H Q _ => ∃ (z t : Nat) (wa : Addr) (g : Krct.Glued), vs = [.int (z : Int), .int (t : Int), .ref wa] ∧ WaysAt K H wa g ∧ g.whole = true ∧ z < g.n ∧ t < g.n ∧
  ∀ H' : Hp, Same H H' → Q (.int ((Krct.far g t g.n [z] 0 : Nat) : Int)) H'
theorem scFew : FnScope ["start", "goal", "ways", "reached", "steps"] ["start", "goal", "ways"] (defScope sFewest) := ⟨rfl, rfl, rfl, by decide +kernel, rfl, by decide +kernel, by decide +kernel⟩
theorem ok_few {f : Addr} {fd : FuncData} (F : Fun K "fewest_steps" "fewest_steps" sFewest f fd) (DW : Dn P w K mg base 1 "with_neighbours" ["squares", "ways"] (spWith K)) : FnOk P w K mg base CX0 2 f fd ["start", "goal", "ways"] (spFew K) := by
  refine F.ok scFew (fun vs H Q E h => ?_) (fun cdv A outer s H vs Q E hr h => ?_)
  · obtain ⟨z, t, wa, g, rfl, _⟩ := h
    rfl
  · obtain ⟨z, t, wa, g, rfl, W, wh, hz, htn, k⟩ := h
    refine ⟨_, pss_cons (ps_set (i := 3) scFew.nd rfl (.inl rfl) (pe_lst (pa_cons (pv 0) pa_nil)))
      (pss_cons (ps_set (i := 4) scFew.nd rfl (.inl rfl) pe_int)
      (pss_cons (ps_while PassesOwn.never (pt_cmpR op_notIn_seq (pv 1) (pv 3) (by rfl))
        (pss_cons (ps_set (i := 3) scFew.nd rfl (.inl rfl) (DW.pe hr (by decide) rfl (pa_cons (pv 3) (pa_cons (pv 2) pa_nil))))
        (pss_one (ps_aug (i := 4) scFew.nd rfl (.inl rfl) pe_int ip_add))))
      (pss_one (ps_ret (pv 4))))), ?_⟩
    refine ⟨_, rfl, line_le (by show 1 ≤ _; decide), fun p hp => ?_⟩
    refine ⟨fun m σ H' => ∃ (q : Addr) (c : List Nat) (i : Nat), m = g.n - c.length ∧ σ = [some (.int (z : Int)), some (.int (t : Int)), some (.ref wa), some (.ref q), some (.int (i : Int))] ∧ Same H H' ∧ H' q = some (.lst (nv c)) ∧ Near g z t c i,
      ⟨_, p, [z], 0, rfl, rfl, same_new hp, upd_same, Near.start hz⟩, ?_⟩
    rintro m σ H1 ⟨q, c, i, rfl, rfl, s1, hq, N1⟩
    refine ⟨_, rfl, _, rfl, q, _, rfl, .inl (SqL.of hq), rfl, flat_nv _, _, rfl, ?_⟩
    by_cases ht : t ∈ c
    · refine ifF (by rw [in_nv, decide_eq_true ht]; rfl) ?_
      have e := N1.done ht
      refine ⟨_, rfl, ?_⟩
      rw [e] at k
      exact k _ s1
    · refine ifT (by rw [in_nv, decide_eq_false ht]; rfl) ?_
      have N2 := N1.turn W.t wh htn ht
      have more := wide_more W.t wh htn N1.so N1.hs ht
      have sm := N2.so.len
      refine ⟨_, fun _ _ h => h, ?_⟩
      refine ⟨_, rfl, _, rfl, q, wa, c, g, rfl, hq, N1.so, W.same s1, fun H2 r s2 nr hr2 => ?_⟩
      refine ⟨_, rfl, _, _, rfl, rfl, ?_⟩
      exact ⟨g.n - (wideTo g c 4).length, by omega, r, _, i + 1, rfl, rfl, s1.trans s2, hr2, N2⟩
end
end Gs
end
section
set_option maxRecDepth 100000
set_option maxHeartbeats 4000000
namespace Gs
open PySem L2
/-! ## the object that the calls are about -/
section
variable {P : Program} {w : World} {K : PySem.W.Frag} {mg : Str → Option Value} {base : Heap}
theorem sq_put {H : Hp} {a p : Addr} {xs : List V} {o : HO} (h : SqL K H a xs) (ne : a ≠ p) : SqL K (upd H p o) a xs := by
  rcases h with h | h
  · left
    rcases h with h | ⟨u, h⟩
    · exact .inl ((upd_ne ne).trans h)
    · exact .inr ⟨u, (upd_ne ne).trans h⟩
  · exact .inr h
/-- what stood stands, but for the object at p -/
def SameBut (p : Addr) (H H' : Hp) : Prop := ∀ b o, H b = some o → b ≠ p → H' b = some o
theorem SameBut.of {p : Addr} {H H' : Hp} (s : Same H H') : SameBut p H H' := fun b o e _ => s b o e
theorem SameBut.trans {p : Addr} {H H1 H2 : Hp} (a : SameBut p H H1) (b : SameBut p H1 H2) : SameBut p H H2 := fun c o e n => b c o (a c o e n) n
theorem SameBut.put {p : Addr} {H : Hp} {o : HO} : SameBut p H (upd H p o) := fun b u e n => (upd_ne n).trans e
theorem SameBut.seq {p C dx : Addr} {H H' : Hp} {fs : List (Str × V)} {a : Addr} {xs : List V} (s : SameBut p H H') (hp : H p = some (.ins C dx fs)) (h : SqL K H a xs) : SqL K H' a xs := by
  rcases h with h | h
  · left
    rcases h with h | ⟨u, h⟩
    · exact .inl (s _ _ h (ne_of h hp (by intro z; cases z)))
    · exact .inr ⟨u, s _ _ h (ne_of h hp (by intro z; cases z))⟩
  · exact .inr h
theorem SameBut.free {p : Addr} {H H' : Hp} (s : SameBut p H H') {l : Addr} (hl : l ≠ p) (h : H' l = Option.none) : H l = Option.none := by
  cases e : H l with
  | none => rfl
  | some o =>
    rw [s l o e hl] at h
    cases h
theorem SameBut.same {p : Addr} {H0 H H' : Hp} (s : SameBut p H H') (h : Same H0 H) (n : H0 p = Option.none) : Same H0 H' := fun b o e => s b o (h b o e) (ne_of_none e n)
/-- the four lists, none of them at gv -/
structure WaysAv (gv : Addr) (H : Hp) (a : Addr) (g : Krct.Glued) : Prop where
  l : ∃ b c d e : Addr, (a ≠ gv ∧ b ≠ gv ∧ c ≠ gv ∧ d ≠ gv ∧ e ≠ gv) ∧ H a = some (.lst [.ref b, .ref c, .ref d, .ref e]) ∧ H b = some (.lst (nv g.east)) ∧ H c = some (.lst (nv g.north)) ∧ H d = some (.lst (nv (inv g.east))) ∧ H e = some (.lst (nv (inv g.north)))
  t : Two g
  n : g.n ≤ 100
theorem WaysAv.ways {gv : Addr} {H : Hp} {a : Addr} {g : Krct.Glued} (h : WaysAv gv H a g) : WaysAt K H a g := by
  obtain ⟨b, c, d, e, _, h0, h1, h2, h3, h4⟩ := h.l
  exact ⟨⟨b, c, d, e, SqL.of h0, SqL.of h1, SqL.of h2, SqL.of h3, SqL.of h4⟩, h.t, h.n⟩
theorem SameBut.lst {p C dx : Addr} {H H' : Hp} {fs : List (Str × V)} {a : Addr} {xs : List V} (s : SameBut p H H') (hp : H p = some (.ins C dx fs)) (h : H a = some (.lst xs)) : H' a = some (.lst xs) := s _ _ h (ne_of h hp (by intro z; cases z))
theorem WaysAv.but {gv : Addr} {H H' : Hp} {a p C dx : Addr} {fs : List (Str × V)} {g : Krct.Glued} (h : WaysAv gv H a g) (s : SameBut p H H') (hp : H p = some (.ins C dx fs)) : WaysAv gv H' a g := by
  obtain ⟨b, c, d, e, n, h0, h1, h2, h3, h4⟩ := h.l
  exact ⟨⟨b, c, d, e, n, s.lst hp h0, s.lst hp h1, s.lst hp h2, s.lst hp h3, s.lst hp h4⟩, h.t, h.n⟩
theorem WaysAv.put {gv : Addr} {H : Hp} {a : Addr} {g : Krct.Glued} {o : HO} (h : WaysAv gv H a g) : WaysAv gv (upd H gv o) a g := by
  obtain ⟨b, c, d, e, n, h0, h1, h2, h3, h4⟩ := h.l
  obtain ⟨n0, n1, n2, n3, n4⟩ := n
  exact ⟨⟨b, c, d, e, ⟨n0, n1, n2, n3, n4⟩, (upd_ne n0).trans h0, (upd_ne n1).trans h1, (upd_ne n2).trans h2, (upd_ne n3).trans h3, (upd_ne n4).trans h4⟩, h.t, h.n⟩
/-- a surface as begin and glue leave it -/
structure Ok (g : Krct.Glued) : Prop where
  w : g.whole = true
  h0 : 0 < g.n
  h6 : g.n ≤ 6
def sF (n : Nat) (wa : Addr) : List (Str × V) := [("size", .int (n : Int)), ("ways", .ref wa)]
def sizeOf : Option Krct.Glued → Nat
  | none => 0
  | some g => g.n
structure SurfAt (C : Addr) (K : PySem.W.Frag) (gv : Addr) (H : Hp) (p : Addr) (x : Option Krct.Glued) : Prop where
  ex : ∃ dx wa, H p = some (.ins C dx (sF (sizeOf x) wa)) ∧ ∀ g, x = some g → WaysAv gv H wa g ∧ Ok g
theorem lk_here {k : Str} {v : V} {r : List (Str × V)} : List.lookup k ((k, v) :: r) = some v := by
  have e : (k == k) = true := beq_self_eq_true k
  simp only [List.lookup, e]
theorem lk_past {k g : Str} {v : V} {r : List (Str × V)} (h : (k == g) = false) : List.lookup k ((g, v) :: r) = List.lookup k r := by
  simp only [List.lookup, h]
theorem put_here {f : Str} {v x : V} {r : List (Str × V)} : putF f v ((f, x) :: r) = (f, v) :: r := if_pos rfl
theorem put_past {f g : Str} {v x : V} {r : List (Str × V)} (h : ¬ g = f) : putF f v ((g, x) :: r) = (g, x) :: putF f v r := if_neg h
theorem sF_size (n : Nat) (wa : Addr) : (sF n wa).lookup ("size" : Str) = some (.int (n : Int)) := lk_here
theorem sF_ways (n : Nat) (wa : Addr) : (sF n wa).lookup ("ways" : Str) = some (.ref wa) := (lk_past (by decide +kernel)).trans lk_here
theorem sF_no (n : Nat) (wa : Addr) {m : Str} (h1 : (m == ("size" : Str)) = false) (h2 : (m == ("ways" : Str)) = false) : (sF n wa).lookup m = none := (lk_past h1).trans ((lk_past h2).trans rfl)
theorem sF_putS (n m : Nat) (wa : Addr) : putF "size" (.int (m : Int)) (sF n wa) = sF m wa := put_here
theorem sF_putW (n : Nat) (wa wb : Addr) : putF "ways" (.ref wb) (sF n wa) = sF n wb := (put_past (by decide +kernel)).trans (congrArg _ put_here)
theorem sF_new (wa : Addr) : putF "ways" (.ref wa) (putF "size" (.int 0) []) = sF 0 wa := (put_past (by decide +kernel)).trans rfl
theorem SurfAt.but {C gv p q D dx : Addr} {fs : List (Str × V)} {H H' : Hp} {x : Option Krct.Glued} (h : SurfAt C K gv H p x) (s : SameBut q H H') (hq : H q = some (.ins D dx fs)) (ne : p ≠ q) : SurfAt C K gv H' p x := by
  obtain ⟨dx', wa, hp, hw⟩ := h.ex
  exact ⟨dx', wa, s _ _ hp ne, fun g e => ⟨(hw g e).1.but s hq, (hw g e).2⟩⟩
theorem SurfAt.same {C gv p : Addr} {H H' : Hp} {x : Option Krct.Glued} (h : SurfAt C K gv H p x) (s : Same H H') : SurfAt C K gv H' p x := by
  obtain ⟨dx', wa, hp, hw⟩ := h.ex
  exact ⟨dx', wa, s _ _ hp, fun g e => ⟨(hw g e).1.but (SameBut.of s (p := p)) hp, (hw g e).2⟩⟩
theorem SurfAt.put {C gv p : Addr} {H : Hp} {x : Option Krct.Glued} {o : HO} (h : SurfAt C K gv H p x) (ne : p ≠ gv) : SurfAt C K gv (upd H gv o) p x := by
  obtain ⟨dx', wa, hp, hw⟩ := h.ex
  exact ⟨dx', wa, (upd_ne ne).trans hp, fun g e => ⟨(hw g e).1.put, (hw g e).2⟩⟩
/-- what the top has written of the class -/
structure TxtS (K : PySem.W.Frag) (C : Addr) : Prop where
  cl : Cls K C
  nS : NoAttr K C "size"
  nW : NoAttr K C "ways"
abbrev sInit : Stmt := inClass cSurf 0
abbrev sLay : Stmt := inClass cSurf 1
def spInit (C : Addr) (K : PySem.W.Frag) : Sp := fun vs H Q _ => ∃ (p dx gv : Addr), vs = [.ref p] ∧ H p = some (.ins C dx []) ∧ ∀ H' : Hp, SurfAt C K gv H' p none → SameBut p H H' → Q .non H'
theorem scInit : FnScope ["self"] ["self"] (defScope sInit) := ⟨rfl, rfl, rfl, by decide +kernel, rfl, by decide +kernel, by decide +kernel⟩
theorem ok_init {f C : Addr} {fd : FuncData} (F : Fun K "__init__" "Surface.__init__" sInit f fd) (T : TxtS K C) : FnOk P w K mg base CX0 1 f fd ["self"] (spInit C K) := by
  refine F.ok scInit (fun vs H Q E h => ?_) (fun cdv A outer s H vs Q E hr h => ?_)
  · obtain ⟨p, dx, gv, rfl, _⟩ := h
    rfl
  · obtain ⟨p, dx, gv, rfl, hp, k⟩ := h
    refine ⟨_, pss_cons (ps_fld (pv 0) pe_int rfl) (pss_one (ps_fld (pv 0) (pe_lst pa_nil) rfl)), ?_⟩
    refine ⟨_, rfl, p, C, dx, [], rfl, hp, T.cl, T.nS, (by show 0 < 1000; decide), ?_⟩
    refine ⟨line_le (by show 0 ≤ _; decide), fun l hl => ?_⟩
    have npl : p ≠ l := ne_of_none upd_same hl
    refine ⟨_, rfl, p, C, dx, _, rfl, (upd_ne npl).trans upd_same, T.cl, T.nW, (by show 1 < 1000; decide), ?_⟩
    refine k _ ⟨dx, l, ?_, fun g e => by cases e⟩ ?_
    · rw [upd_same, sF_new]
      rfl
    · exact SameBut.put.trans ((SameBut.of (same_new hl)).trans SameBut.put)
def spLay (C : Addr) (K : PySem.W.Frag) : Sp := fun vs H Q _ => ∃ (p gv a b dx wa : Addr) (n : Nat) (g : Krct.Glued), vs = [.ref p, .ref a, .ref b] ∧ H p = some (.ins C dx (sF n wa)) ∧ H a = some (.lst (nv g.east)) ∧ H b = some (.lst (nv g.north)) ∧ Two g ∧ Ok g ∧ a ≠ gv ∧ b ≠ gv ∧ (∃ o, H gv = some o) ∧
  ∀ H' : Hp, SurfAt C K gv H' p (some g) → SameBut p H H' → Q .non H'
theorem scLay : FnScope ["self", "east", "north"] ["self", "east", "north"] (defScope sLay) := ⟨rfl, rfl, rfl, by decide +kernel, rfl, by decide +kernel, by decide +kernel⟩
theorem ok_lay {f C : Addr} {fd : FuncData} (F : Fun K "lay" "Surface.lay" sLay f fd) (B : Bn mg) (T : TxtS K C) (DT : Dn P w K mg base 1 "turned_back" ["ones"] (spTurned K)) : FnOk P w K mg base CX0 2 f fd ["self", "east", "north"] (spLay C K) := by
  refine F.ok scLay (fun vs H Q E h => ?_) (fun cdv A outer s H vs Q E hr h => ?_)
  · obtain ⟨p, gv, a, b, dx, wa, n, g, rfl, _⟩ := h
    rfl
  · obtain ⟨p, gv, a, b, dx, wa, n, g, rfl, hp, ha, hb, tw, ok, na, nb, ⟨og, hg⟩, k⟩ := h
    have hT : TwoAt K H a b g := ⟨SqL.of ha, SqL.of hb, tw, by have := ok.h6; omega⟩
    refine ⟨_, pss_cons (ps_fld (pv 0) (pe_callB call_len_seq (by rfl) B.len PySem.boot_len (pa_cons (pv 1) pa_nil)) rfl)
      (pss_one (ps_fld (pv 0) (pe_lst (pa_cons (pv 1) (pa_cons (pv 2) (pa_cons (DT.pe hr (by decide) rfl (pa_cons (pv 1) pa_nil)) (pa_cons (DT.pe hr (by decide) rfl (pa_cons (pv 2) pa_nil)) pa_nil))))) rfl)), ?_⟩
    have ln : (nv g.east).length = g.n := by rw [nv_len, hT.t.e.len]
    have h6 := ok.h6
    refine ⟨_, rfl, a, _, rfl, .inl hT.e, _, rfl, p, C, dx, _, rfl, hp, T.cl, T.nS, (by show 2 < 1000; decide), ?_⟩
    rw [ln, sF_putS]
    have sb1 : SameBut p H (upd H p (.ins C dx (sF g.n wa))) := SameBut.put
    have e1 := sb1.seq hp hT.e
    have o1 := sb1.seq hp hT.o
    refine ⟨_, rfl, _, rfl, _, rfl, a, g.n, g.east, rfl, e1, hT.t.e, by omega, fun H2 c s2 nc hc => ?_⟩
    refine ⟨_, rfl, b, g.n, g.north, rfl, s2.seq o1, hT.t.o, by omega, fun H3 d s3 nd hd => ?_⟩
    refine ⟨line_le (by show 4 ≤ _; decide), fun l hl => ?_⟩
    have s23 := s2.trans s3
    have hp3 : H3 p = some (.ins C dx (sF g.n wa)) := s23 _ _ upd_same
    have npl : p ≠ l := ne_of_none hp3 hl
    refine ⟨_, rfl, p, C, dx, _, rfl, (upd_ne npl).trans hp3, T.cl, T.nW, (by show 2 < 1000; decide), ?_⟩
    rw [sF_putW]
    have sb : SameBut p H (upd (upd H3 l (.lst [.ref a, .ref b, .ref c, .ref d])) p (.ins C dx (sF g.n l))) := sb1.trans ((SameBut.of s23).trans ((SameBut.of (same_new hl)).trans SameBut.put))
    have hp4 : upd H3 l (.lst [.ref a, .ref b, .ref c, .ref d]) p = some (.ins C dx (sF g.n wa)) := (upd_ne npl).trans hp3
    have sb4 : SameBut p (upd H3 l (.lst [.ref a, .ref b, .ref c, .ref d])) (upd (upd H3 l (.lst [.ref a, .ref b, .ref c, .ref d])) p (.ins C dx (sF g.n l))) := SameBut.put
    have s3l := same_new (o := .lst [.ref a, .ref b, .ref c, .ref d]) hl
    have fresh : ∀ q, upd H p (.ins C dx (sF g.n wa)) q = Option.none → q ≠ gv := fun q hq e => by
      subst e
      by_cases c : q = p
      · subst c
        rw [upd_same] at hq
        cases hq
      · rw [upd_ne c, hg] at hq
        cases hq
    refine k _ ⟨dx, l, upd_same, fun g' e => ?_⟩ sb
    cases e
    refine ⟨⟨⟨a, b, c, d, ⟨?_, na, nb, ?_, ?_⟩, ?_, ?_, ?_, ?_, ?_⟩, hT.t, hT.n⟩, ok⟩
    · exact fresh l (s23.free hl)
    · exact fresh c nc
    · exact fresh d (s2.free nd)
    · exact sb4.lst hp4 upd_same
    · exact sb.lst hp ha
    · exact sb.lst hp hb
    · exact sb4.lst hp4 (s3l _ _ (s3 _ _ hc))
    · exact sb4.lst hp4 (s3l _ _ hd)
end
end Gs
end
section
set_option maxRecDepth 100000
set_option maxHeartbeats 4000000
namespace Gs
open PySem L2
/-- a method of the class at C keeps its promise -/
structure Mt (P : Program) (w : World) (K : PySem.W.Frag) (mg : Str → Option Value) (base : Heap) (C : Addr) (k : Nat) (m : Str) (ps : List Str) (sp : Sp) : Prop where
  ex : ∃ (f : Addr) (fd : FuncData), FnOk P w K mg base CX0 k f fd ps sp ∧ Meth K C m f ∧ Binds K fd ps []
  cl : Cls K C
theorem Mt.pe {X : Cx} {C : Addr} {k j : Nat} {m : Str} {ps : List Str} {sp : Sp} {o e : Expr} {es : List Expr} {ta : TE} {t : TA} {apos pos : Pos} {pl : Sem Bool} (D : Mt X.prog X.w X.K X.mg X.base C k m ps sp) (he : PE X o ta) (hr : Room j X.A) (hj : k ≤ j) (ha : PA X (e :: es) t)
    (hst : starEach (e :: es) X.env = (false, eval e X.env) :: starEach es X.env := by rfl) (hpl : (backTo pos (starEach es X.env)).any (·.1) = false := by rfl)
    (ht : eval (.Call (.Attribute o m apos) (e :: es) [] pos) X.env = (do
      let ov ← eval o X.env
      standAt apos.atName
      let (f, first) ← holding [ov] (getMethod ov m pl)
      callWith pos f first (backTo pos (starEach (e :: es) X.env)) (backToKw pos (keywordEach [] X.env))) := by rfl) :
    PE X (.Call (.Attribute o m apos) (e :: es) [] pos) (tMeth C m sp [] E0 ta t) := by
  obtain ⟨f, fd, G, M, b⟩ := D.ex
  exact pe_meth he D.cl M G (hr.mono hj) b .nil pass0 ha hst hpl ht
theorem Mt.pe0 {X : Cx} {C : Addr} {k j : Nat} {m : Str} {ps : List Str} {sp : Sp} {o : Expr} {ta : TE} {apos pos : Pos} {pl : Sem Bool} (D : Mt X.prog X.w X.K X.mg X.base C k m ps sp) (he : PE X o ta) (hr : Room j X.A) (hj : k ≤ j)
    (ht : eval (.Call (.Attribute o m apos) [] [] pos) X.env = (do
      let ov ← eval o X.env
      standAt apos.atName
      let (f, first) ← holding [ov] (getMethod ov m pl)
      callWith pos f first (backTo pos (starEach [] X.env)) (backToKw pos (keywordEach [] X.env))) := by rfl) :
    PE X (.Call (.Attribute o m apos) [] [] pos) (tMeth C m sp [] E0 ta tNil) := by
  obtain ⟨f, fd, G, M, b⟩ := D.ex
  exact pe_meth0 he D.cl M G (hr.mono hj) b .nil pass0 ht
section
variable {P : Program} {w : World} {K : PySem.W.Frag} {mg : Str → Option Value} {base : Heap}
def iv (l : List Int) : List V := l.map V.int
/-- what a call on the object at p gives: its answer's numbers as a new list, the object as the document tells -/
def Post (C : Addr) (K : PySem.W.Frag) (gv : Addr) (H : Hp) (p : Addr) (x : Option Krct.Glued) (c : Krct.Call) (Q : VK) : Prop :=
  ∀ (H' : Hp) (q : Addr), SurfAt C K gv H' p (Krct.act x c).1 → SameBut p H H' → H q = none → H' q = some (.lst (iv (KrctNeutral.told (Krct.act x c).2))) → Q (.ref q) H'
theorem Post.done {C gv p q : Addr} {H H1 : Hp} {x x' : Option Krct.Glued} {c : Krct.Call} {ans : Krct.Ans} {Q : VK} {xs : List V} (k : Post C K gv H p x c Q) (e : Krct.act x c = (x', ans)) (S : SurfAt C K gv H1 p x') (sb : SameBut p H H1) (nq : H1 q = none) (hx : xs = iv (KrctNeutral.told ans)) :
    Q (.ref q) (upd H1 q (.lst xs)) := by
  obtain ⟨dx, wa, hp, _⟩ := S.ex
  have npq : q ≠ p := (ne_of_none hp nq).symm
  unfold Post at k
  rw [e] at k
  exact k _ q (S.same (same_new nq)) (sb.trans (SameBut.of (same_new nq))) (sb.free npq nq) (by rw [upd_same, hx])
/-- the same where the list stands already -/
theorem Post.done' {C gv p q : Addr} {H H1 : Hp} {x x' : Option Krct.Glued} {c : Krct.Call} {ans : Krct.Ans} {Q : VK} {xs : List V} (k : Post C K gv H p x c Q) (e : Krct.act x c = (x', ans)) (S : SurfAt C K gv H1 p x') (sb : SameBut p H H1) (nq : H q = none) (hq : H1 q = some (.lst xs)) (hx : xs = iv (KrctNeutral.told ans)) :
    Q (.ref q) H1 := by
  unfold Post at k
  rw [e] at k
  exact k _ q S sb nq (by rw [hq, hx])
abbrev sGo : Stmt := inClass cSurf 4
def spGo (C : Addr) (K : PySem.W.Frag) : Sp := fun vs H Q _ => ∃ (p gv : Addr) (g : Krct.Glued) (z d : Nat), vs = [.ref p, .int (z : Int), .int (d : Int)] ∧ SurfAt C K gv H p (some g) ∧ Post C K gv H p (some g) (.go z d) Q
theorem scGo : FnScope ["self", "square", "step"] ["self", "square", "step"] (defScope sGo) := ⟨rfl, rfl, rfl, by decide +kernel, rfl, by decide +kernel, by decide +kernel⟩
theorem ok_go {f C : Addr} {fd : FuncData} (F : Fun K "go" "Surface.go" sGo f fd) (T : TxtS K C) (N : Cn K mg) (DL : Dn P w K mg base 1 "led_by" ["steps", "square", "ways"] (spLed K)) : FnOk P w K mg base CX0 2 f fd ["self", "square", "step"] (spGo C K) := by
  refine F.ok scGo (fun vs H Q E h => ?_) (fun cdv A outer s H vs Q E hr h => ?_)
  · obtain ⟨p, gv, g, z, d, rfl, _⟩ := h
    rfl
  · obtain ⟨p, gv, g, z, d, rfl, S, k⟩ := h
    obtain ⟨t1, m1⟩ := N.noSquare
    obtain ⟨t2, m2⟩ := N.lastSt
    obtain ⟨t3, m3⟩ := N.notRight
    refine ⟨_, pss_cons (ps_if (pt_cmpR op_ge (pv 1) (pe_fld (pv 0) rfl) (nomark _)) (pss_one (ps_ret (pe_lst (pa_cons (pe_glob (v := .int (-2)) rfl m1 ⟨_, rfl⟩) pa_nil)))) pss_nil)
      (pss_cons (ps_if (pt_cmpR op_gt (pv 2) (pe_glob (v := .int 3) rfl m2 ⟨_, rfl⟩) (nomark _)) (pss_one (ps_ret (pe_lst (pa_cons (pe_glob (v := .int (-22)) rfl m3 ⟨_, rfl⟩) pa_nil)))) pss_nil)
      (pss_one (ps_ret (pe_lst (pa_cons (DL.pe hr (by decide) rfl (pa_cons (pe_lst (pa_cons (pv 2) pa_nil)) (pa_cons (pv 1) (pa_cons (pe_fld (pv 0) rfl) pa_nil)))) pa_nil))))), ?_⟩
    obtain ⟨dx, wa, hp, hw⟩ := S.ex
    obtain ⟨W, ok⟩ := hw g rfl
    refine ⟨_, rfl, _, rfl, p, C, dx, _, _, rfl, hp, T.cl, T.nS, sF_size _ _, _, _, rfl, rfl, _, rfl, ?_⟩
    show if decide (((sizeOf (some g) : Nat) : Int) ≤ (z : Int)) = true then _ else _
    by_cases c : g.n ≤ z
    · refine ifT (decide_eq_true (by show ((g.n : Nat) : Int) ≤ _; omega)) ?_
      refine ⟨line_le (by show 1 ≤ _; decide), fun q nq => ?_⟩
      exact k.done (x' := some g) (ans := Krct.say (-2)) (by simp [Krct.act, c]) S (SameBut.of (Same.refl _)) nq rfl
    · refine ifF (decide_eq_false (by show ¬ ((g.n : Nat) : Int) ≤ _; omega)) ?_
      refine ⟨_, rfl, _, _, rfl, rfl, _, rfl, ?_⟩
      by_cases c2 : 3 < d
      · refine ifT (decide_eq_true (by omega)) ?_
        refine ⟨line_le (by show 1 ≤ _; decide), fun q nq => ?_⟩
        exact k.done (x' := some g) (ans := Krct.say (-22)) (by simp [Krct.act, c, c2]) S (SameBut.of (Same.refl _)) nq rfl
      · refine ifF (decide_eq_false (by omega)) ?_
        refine ⟨_, rfl, line_le (by show 1 ≤ _; decide), fun l nl => ?_⟩
        have npl : p ≠ l := ne_of_none hp nl
        have sl := same_new (o := .lst [.int (d : Int)]) nl
        refine ⟨_, rfl, _, rfl, p, C, dx, _, _, rfl, (upd_ne npl).trans hp, T.cl, T.nW, sF_ways _ _, l, wa, z, [d], g, rfl, .inl (SqL.of upd_same), fun e he => by rw [List.mem_singleton.mp he]; omega, W.ways.same sl, by omega, ?_⟩
        refine ⟨line_le (by show 1 ≤ _; decide), fun q nq => ?_⟩
        exact k.done (x' := some g) (ans := Krct.nat (g.go z d)) (by simp [Krct.act, c, c2]) (S.same sl) (SameBut.of sl) nq rfl
abbrev sCornersM : Stmt := inClass cSurf 6
theorem iv_list (l : List Nat) : iv (KrctNeutral.told (Krct.list l)) = V.int ((l.length : Nat) : Int) :: nv l := by
  show V.int ((l.length : Nat) : Int) :: ((l.map fun (x : Nat) => (x : Int)).map V.int) = _
  rw [List.map_map]
  rfl
def spCorners (C : Addr) (K : PySem.W.Frag) : Sp := fun vs H Q _ => ∃ (p gv : Addr) (g : Krct.Glued), vs = [.ref p] ∧ SurfAt C K gv H p (some g) ∧ Post C K gv H p (some g) .corners Q
theorem scCornersM : FnScope ["self"] ["self"] (defScope sCornersM) := ⟨rfl, rfl, rfl, by decide +kernel, rfl, by decide +kernel, by decide +kernel⟩
theorem ok_corners {f C : Addr} {fd : FuncData} (F : Fun K "corners" "Surface.corners" sCornersM f fd) (T : TxtS K C) (N : Cn K mg) (DS : Dn P w K mg base 3 "round_sizes" ["steps", "ways"] (spSizes K)) (DC : Dn P w K mg base 1 "counted" ["numbers"] spCounted) : FnOk P w K mg base CX0 4 f fd ["self"] (spCorners C K) := by
  refine F.ok scCornersM (fun vs H Q E h => ?_) (fun cdv A outer s H vs Q E hr h => ?_)
  · obtain ⟨p, gv, g, rfl, _⟩ := h
    rfl
  · obtain ⟨p, gv, g, rfl, S, k⟩ := h
    obtain ⟨ao, mo, so⟩ := N.once
    refine ⟨_, pss_one (ps_ret (DC.pe hr (by decide) rfl (pa_cons (DS.pe hr (by decide) rfl (pa_cons (pe_glob (v := .ref ao) rfl mo rfl) (pa_cons (pe_fld (pv 0) rfl) pa_nil))) pa_nil))), ?_⟩
    obtain ⟨dx, wa, hp, hw⟩ := S.ex
    obtain ⟨W, ok⟩ := hw g rfl
    have le := rounds_le g [0, 1, 2, 3]
    have h6 := ok.h6
    refine ⟨_, rfl, p, C, dx, _, _, rfl, hp, T.cl, T.nW, sF_ways _ _, ao, wa, [0, 1, 2, 3], g, rfl, so, le3, W.ways, fun H1 q s1 nq hq => ?_⟩
    refine ⟨q, _, rfl, hq, by rw [nv_len, List.length_map]; omega, fun H2 r s2 nr hr2 => ?_⟩
    have s12 := s1.trans s2
    exact k.done' (x' := some g) (ans := Krct.list ((rounds g [0, 1, 2, 3]).map List.length)) rfl (S.same s12) (SameBut.of s12) (s1.free nr) hr2 (by rw [iv_list, nv_len])
abbrev sCornerM : Stmt := inClass cSurf 7
def spCorner (C : Addr) (K : PySem.W.Frag) : Sp := fun vs H Q _ => ∃ (p gv : Addr) (g : Krct.Glued) (z : Nat), vs = [.ref p, .int (z : Int)] ∧ SurfAt C K gv H p (some g) ∧ Post C K gv H p (some g) (.corner z) Q
theorem scCornerM : FnScope ["self", "square"] ["self", "square"] (defScope sCornerM) := ⟨rfl, rfl, rfl, by decide +kernel, rfl, by decide +kernel, by decide +kernel⟩
theorem ok_corner {f C : Addr} {fd : FuncData} (F : Fun K "corner" "Surface.corner" sCornerM f fd) (T : TxtS K C) (N : Cn K mg) (DR : Dn P w K mg base 2 "squares_round" ["square", "steps", "ways"] (spRound K)) (DC : Dn P w K mg base 1 "counted" ["numbers"] spCounted) : FnOk P w K mg base CX0 3 f fd ["self", "square"] (spCorner C K) := by
  refine F.ok scCornerM (fun vs H Q E h => ?_) (fun cdv A outer s H vs Q E hr h => ?_)
  · obtain ⟨p, gv, g, z, rfl, _⟩ := h
    rfl
  · obtain ⟨p, gv, g, z, rfl, S, k⟩ := h
    obtain ⟨t1, m1⟩ := N.noSquare
    obtain ⟨ao, mo, so⟩ := N.once
    refine ⟨_, pss_cons (ps_if (pt_cmpR op_ge (pv 1) (pe_fld (pv 0) rfl) (nomark _)) (pss_one (ps_ret (pe_lst (pa_cons (pe_glob (v := .int (-2)) rfl m1 ⟨_, rfl⟩) pa_nil)))) pss_nil)
      (pss_one (ps_ret (DC.pe hr (by decide) rfl (pa_cons (DR.pe hr (by decide) rfl (pa_cons (pv 1) (pa_cons (pe_glob (v := .ref ao) rfl mo rfl) (pa_cons (pe_fld (pv 0) rfl) pa_nil)))) pa_nil)))), ?_⟩
    obtain ⟨dx, wa, hp, hw⟩ := S.ex
    obtain ⟨W, ok⟩ := hw g rfl
    have h6 := ok.h6
    refine ⟨_, rfl, _, rfl, p, C, dx, _, _, rfl, hp, T.cl, T.nS, sF_size _ _, _, _, rfl, rfl, _, rfl, ?_⟩
    show if decide (((sizeOf (some g) : Nat) : Int) ≤ (z : Int)) = true then _ else _
    by_cases c : g.n ≤ z
    · refine ifT (decide_eq_true (by show ((g.n : Nat) : Int) ≤ _; omega)) ?_
      refine ⟨line_le (by show 1 ≤ _; decide), fun q nq => ?_⟩
      exact k.done (x' := some g) (ans := Krct.say (-2)) (by simp [Krct.act, c]) S (SameBut.of (Same.refl _)) nq rfl
    · refine ifF (decide_eq_false (by show ¬ ((g.n : Nat) : Int) ≤ _; omega)) ?_
      obtain ⟨c0, C1, _⟩ := cyc_done (round_inj W.t) (show z < g.n by omega)
      have sm := C1.small
      refine ⟨_, rfl, _, rfl, p, C, dx, _, _, rfl, hp, T.cl, T.nW, sF_ways _ _, z, ao, wa, [0, 1, 2, 3], g, rfl, so, le3, W.ways, by omega, fun H1 q s1 nq hq => ?_⟩
      have hq : H1 q = some (.lst (nv (Krct.cycleOf g.n g.round z))) := hq
      refine ⟨q, _, rfl, hq, by rw [nv_len]; omega, fun H2 r s2 nr hr2 => ?_⟩
      have s12 := s1.trans s2
      exact k.done' (x' := some g) (ans := Krct.list (Krct.cycleOf g.n g.round z)) (by simp [Krct.act, c]) (S.same s12) (SameBut.of s12) (s1.free nr) hr2 (by rw [iv_list, nv_len])
abbrev sHolesM : Stmt := inClass cSurf 8
def spHoles (C : Addr) (K : PySem.W.Frag) : Sp := fun vs H Q _ => ∃ (p gv : Addr) (g : Krct.Glued), vs = [.ref p] ∧ SurfAt C K gv H p (some g) ∧ Post C K gv H p (some g) .holes Q
theorem scHolesM : FnScope ["self"] ["self"] (defScope sHolesM) := ⟨rfl, rfl, rfl, by decide +kernel, rfl, by decide +kernel, by decide +kernel⟩
theorem ok_holes {f C : Addr} {fd : FuncData} (F : Fun K "holes" "Surface.holes" sHolesM f fd) (B : Bn mg) (T : TxtS K C) (N : Cn K mg) (DS : Dn P w K mg base 3 "round_sizes" ["steps", "ways"] (spSizes K)) : FnOk P w K mg base CX0 4 f fd ["self"] (spHoles C K) := by
  refine F.ok scHolesM (fun vs H Q E h => ?_) (fun cdv A outer s H vs Q E hr h => ?_)
  · obtain ⟨p, gv, g, rfl, _⟩ := h
    rfl
  · obtain ⟨p, gv, g, rfl, S, k⟩ := h
    obtain ⟨ao, mo, so⟩ := N.once
    refine ⟨_, pss_one (ps_ret (pe_lst (pa_cons (pe_op op_add (pe_op op_fdiv (pe_op op_sub (pe_fld (pv 0) rfl) (pe_callB call_len_seq (by rfl) B.len PySem.boot_len (pa_cons (DS.pe hr (by decide) rfl (pa_cons (pe_glob (v := .ref ao) rfl mo rfl) (pa_cons (pe_fld (pv 0) rfl) pa_nil))) pa_nil))) pe_int) pe_int) pa_nil))), ?_⟩
    obtain ⟨dx, wa, hp, hw⟩ := S.ex
    obtain ⟨W, ok⟩ := hw g rfl
    refine ⟨_, rfl, p, C, dx, _, _, rfl, hp, T.cl, T.nS, sF_size _ _, _, rfl, p, C, dx, _, _, rfl, hp, T.cl, T.nW, sF_ways _ _, ao, wa, [0, 1, 2, 3], g, rfl, so, le3, W.ways, fun H1 q s1 nq hq => ?_⟩
    rw [rounds_corners] at hq
    refine ⟨q, _, rfl, .inl (SqL.of hq), _, _, rfl, rfl, _, _, rfl, rfl, ⟨by decide, by decide⟩, _, _, rfl, rfl, line_le (by show 1 ≤ _; decide), fun r nr => ?_⟩
    refine k.done (x' := some g) (ans := Krct.nat g.holes) rfl (S.same s1) (SameBut.of s1) nr ?_
    show [V.int _] = [V.int ((g.holes : Nat) : Int)]
    rw [holes_eq, nv_len, List.length_map]
    rfl
abbrev sNameM : Stmt := inClass cSurf 9
def spName (C : Addr) (K : PySem.W.Frag) : Sp := fun vs H Q _ => ∃ (p gv : Addr) (g : Krct.Glued), vs = [.ref p] ∧ SurfAt C K gv H p (some g) ∧ Post C K gv H p (some g) .name Q
theorem scNameM : FnScope ["self"] ["self"] (defScope sNameM) := ⟨rfl, rfl, rfl, by decide +kernel, rfl, by decide +kernel, by decide +kernel⟩
theorem ok_name {f C : Addr} {fd : FuncData} (F : Fun K "name" "Surface.name" sNameM f fd) (T : TxtS K C) (N : Cn K mg) (DN : Dn P w K mg base 5 "least_name" ["east", "north"] (spLeast K)) (DC : Dn P w K mg base 1 "counted" ["numbers"] spCounted) : FnOk P w K mg base CX0 6 f fd ["self"] (spName C K) := by
  refine F.ok scNameM (fun vs H Q E h => ?_) (fun cdv A outer s H vs Q E hr h => ?_)
  · obtain ⟨p, gv, g, rfl, _⟩ := h
    rfl
  · obtain ⟨p, gv, g, rfl, S, k⟩ := h
    obtain ⟨t1, m1⟩ := N.east
    obtain ⟨t2, m2⟩ := N.north
    refine ⟨_, pss_one (ps_ret (DC.pe hr (by decide) rfl (pa_cons (DN.pe hr (by decide) rfl (pa_cons (pe_ix ix_list (pe_fld (pv 0) rfl) (pe_glob (v := .int 0) rfl m1 ⟨_, rfl⟩) (fun _ _ => rfl)) (pa_cons (pe_ix ix_list (pe_fld (pv 0) rfl) (pe_glob (v := .int 1) rfl m2 ⟨_, rfl⟩) (fun _ _ => rfl)) pa_nil))) pa_nil))), ?_⟩
    obtain ⟨dx, wa, hp, hw⟩ := S.ex
    obtain ⟨W, ok⟩ := hw g rfl
    obtain ⟨b, c, d, e, n, h0, h1, h2, h3, h4⟩ := W.l
    have h6 := ok.h6
    refine ⟨_, rfl, p, C, dx, _, _, rfl, hp, T.cl, T.nW, sF_ways _ _, wa, _, _, _, rfl, rfl, SqL.of h0, at_nat (i := 0) rfl, _, rfl, p, C, dx, _, _, rfl, hp, T.cl, T.nW, sF_ways _ _, wa, _, _, _, rfl, rfl, SqL.of h0, at_nat (i := 1) rfl, b, c, g, rfl, ⟨SqL.of h1, SqL.of h2, W.t, W.n⟩, ok.w, ok.h0, fun H1 q s1 nq hq => ?_⟩
    have ln : (word (Krct.name g)).length ≤ 1000 := by
      obtain ⟨s, hs, es⟩ := name_from ok.h0
      have := nameFrom_len W.t ok.w hs
      unfold nameFrom at this
      rw [es, this]
      omega
    refine ⟨q, _, rfl, hq, by rw [nv_len]; omega, fun H2 r s2 nr hr2 => ?_⟩
    have s12 := s1.trans s2
    exact k.done' (x' := some g) (ans := Krct.list (word (Krct.name g))) rfl (S.same s12) (SameBut.of s12) (s1.free nr) hr2 (by rw [iv_list, nv_len])
abbrev sRowsM : Stmt := inClass cSurf 13
def spRowsM (C : Addr) (K : PySem.W.Frag) : Sp := fun vs H Q _ => ∃ (p gv : Addr) (g : Krct.Glued), vs = [.ref p] ∧ SurfAt C K gv H p (some g) ∧ Post C K gv H p (some g) .rows Q
theorem scRowsM : FnScope ["self"] ["self"] (defScope sRowsM) := ⟨rfl, rfl, rfl, by decide +kernel, rfl, by decide +kernel, by decide +kernel⟩
theorem ok_rowsM {f C : Addr} {fd : FuncData} (F : Fun K "rows" "Surface.rows" sRowsM f fd) (T : TxtS K C) (N : Cn K mg) (DS : Dn P w K mg base 3 "round_sizes" ["steps", "ways"] (spSizes K)) (DC : Dn P w K mg base 1 "counted" ["numbers"] spCounted) : FnOk P w K mg base CX0 4 f fd ["self"] (spRowsM C K) := by
  refine F.ok scRowsM (fun vs H Q E h => ?_) (fun cdv A outer s H vs Q E hr h => ?_)
  · obtain ⟨p, gv, g, rfl, _⟩ := h
    rfl
  · obtain ⟨p, gv, g, rfl, S, k⟩ := h
    obtain ⟨ao, mo, so⟩ := N.aRow
    refine ⟨_, pss_one (ps_ret (DC.pe hr (by decide) rfl (pa_cons (DS.pe hr (by decide) rfl (pa_cons (pe_glob (v := .ref ao) rfl mo rfl) (pa_cons (pe_fld (pv 0) rfl) pa_nil))) pa_nil))), ?_⟩
    obtain ⟨dx, wa, hp, hw⟩ := S.ex
    obtain ⟨W, ok⟩ := hw g rfl
    have le := rounds_le g [0]
    have h6 := ok.h6
    refine ⟨_, rfl, p, C, dx, _, _, rfl, hp, T.cl, T.nW, sF_ways _ _, ao, wa, [0], g, rfl, so, (by decide), W.ways, fun H1 q s1 nq hq => ?_⟩
    refine ⟨q, _, rfl, hq, by rw [nv_len, List.length_map]; omega, fun H2 r s2 nr hr2 => ?_⟩
    have s12 := s1.trans s2
    exact k.done' (x' := some g) (ans := Krct.list ((rounds g [0]).map List.length)) rfl (S.same s12) (SameBut.of s12) (s1.free nr) hr2 (by rw [iv_list, nv_len])
abbrev sColsM : Stmt := inClass cSurf 14
def spCols (C : Addr) (K : PySem.W.Frag) : Sp := fun vs H Q _ => ∃ (p gv : Addr) (g : Krct.Glued), vs = [.ref p] ∧ SurfAt C K gv H p (some g) ∧ Post C K gv H p (some g) .columns Q
theorem scColsM : FnScope ["self"] ["self"] (defScope sColsM) := ⟨rfl, rfl, rfl, by decide +kernel, rfl, by decide +kernel, by decide +kernel⟩
theorem ok_cols {f C : Addr} {fd : FuncData} (F : Fun K "columns" "Surface.columns" sColsM f fd) (T : TxtS K C) (N : Cn K mg) (DS : Dn P w K mg base 3 "round_sizes" ["steps", "ways"] (spSizes K)) (DC : Dn P w K mg base 1 "counted" ["numbers"] spCounted) : FnOk P w K mg base CX0 4 f fd ["self"] (spCols C K) := by
  refine F.ok scColsM (fun vs H Q E h => ?_) (fun cdv A outer s H vs Q E hr h => ?_)
  · obtain ⟨p, gv, g, rfl, _⟩ := h
    rfl
  · obtain ⟨p, gv, g, rfl, S, k⟩ := h
    obtain ⟨ao, mo, so⟩ := N.aCol
    refine ⟨_, pss_one (ps_ret (DC.pe hr (by decide) rfl (pa_cons (DS.pe hr (by decide) rfl (pa_cons (pe_glob (v := .ref ao) rfl mo rfl) (pa_cons (pe_fld (pv 0) rfl) pa_nil))) pa_nil))), ?_⟩
    obtain ⟨dx, wa, hp, hw⟩ := S.ex
    obtain ⟨W, ok⟩ := hw g rfl
    have le := rounds_le g [1]
    have h6 := ok.h6
    refine ⟨_, rfl, p, C, dx, _, _, rfl, hp, T.cl, T.nW, sF_ways _ _, ao, wa, [1], g, rfl, so, (by decide), W.ways, fun H1 q s1 nq hq => ?_⟩
    refine ⟨q, _, rfl, hq, by rw [nv_len, List.length_map]; omega, fun H2 r s2 nr hr2 => ?_⟩
    have s12 := s1.trans s2
    exact k.done' (x' := some g) (ans := Krct.list ((rounds g [1]).map List.length)) rfl (S.same s12) (SameBut.of s12) (s1.free nr) hr2 (by rw [iv_list, nv_len])
end
end Gs
end
section
set_option maxRecDepth 100000
set_option maxHeartbeats 4000000
namespace Gs
open PySem L2
section
variable {P : Program} {w : World} {K : PySem.W.Frag} {mg : Str → Option Value} {base : Heap}
abbrev sWalkM : Stmt := inClass cSurf 5
def spWalk (C : Addr) (K : PySem.W.Frag) : Sp := fun vs H Q _ => ∃ (p gv a : Addr) (g : Krct.Glued) (z : Nat) (ds : List Nat), vs = [.ref p, .int (z : Int), .ref a] ∧ SurfAt C K gv H p (some g) ∧ SqL K H a (nv ds) ∧ Post C K gv H p (some g) (.walk z ds) Q
theorem scWalkM : FnScope ["self", "square", "steps"] ["self", "square", "steps"] (defScope sWalkM) := ⟨rfl, rfl, rfl, by decide +kernel, rfl, by decide +kernel, by decide +kernel⟩
theorem ok_walk {f C : Addr} {fd : FuncData} (F : Fun K "walk" "Surface.walk" sWalkM f fd) (B : Bn mg) (T : TxtS K C) (N : Cn K mg) (DL : Dn P w K mg base 1 "led_by" ["steps", "square", "ways"] (spLed K)) : FnOk P w K mg base CX0 2 f fd ["self", "square", "steps"] (spWalk C K) := by
  refine F.ok scWalkM (fun vs H Q E h => ?_) (fun cdv A outer s H vs Q E hr h => ?_)
  · obtain ⟨p, gv, a, g, z, ds, rfl, _⟩ := h
    rfl
  · obtain ⟨p, gv, a, g, z, ds, rfl, S, ha, k⟩ := h
    obtain ⟨t1, m1⟩ := N.noSquare
    obtain ⟨t2, m2⟩ := N.lastSt
    obtain ⟨t3, m3⟩ := N.notRight
    obtain ⟨t4, m4⟩ := N.mostSt
    refine ⟨_, pss_cons (ps_if (pt_cmpR op_ge (pv 1) (pe_fld (pv 0) rfl) (nomark _)) (pss_one (ps_ret (pe_lst (pa_cons (pe_glob (v := .int (-2)) rfl m1 ⟨_, rfl⟩) pa_nil)))) pss_nil)
      (pss_cons (ps_if (PW.pt (pw_or (pt_cmpR op_gt (pe_callB call_len_seq (by rfl) B.len PySem.boot_len (pa_cons (pv 2) pa_nil)) (pe_glob (v := .int 30) rfl m4 ⟨_, rfl⟩) (nomark _))
          (pw_or1 (pt_cmpR op_gt (pe_callBK (cr_maxDef rfl hr.units) (by rfl) B.max (by decide +kernel) (pa_cons (pv 2) pa_nil) (pk_cons pe_int pk_nil)) (pe_glob (v := .int 3) rfl m2 ⟨_, rfl⟩) (nomark _)))))
        (pss_one (ps_ret (pe_lst (pa_cons (pe_glob (v := .int (-22)) rfl m3 ⟨_, rfl⟩) pa_nil)))) pss_nil)
      (pss_one (ps_ret (pe_lst (pa_cons (DL.pe hr (by decide) rfl (pa_cons (pv 2) (pa_cons (pv 1) (pa_cons (pe_fld (pv 0) rfl) pa_nil)))) pa_nil))))), ?_⟩
    obtain ⟨dx, wa, hp, hw⟩ := S.ex
    obtain ⟨W, ok⟩ := hw g rfl
    refine ⟨_, rfl, _, rfl, p, C, dx, _, _, rfl, hp, T.cl, T.nS, sF_size _ _, _, _, rfl, rfl, _, rfl, ?_⟩
    show if decide (((sizeOf (some g) : Nat) : Int) ≤ (z : Int)) = true then _ else _
    by_cases c : g.n ≤ z
    · refine ifT (decide_eq_true (by show ((g.n : Nat) : Int) ≤ _; omega)) ?_
      refine ⟨line_le (by show 1 ≤ _; decide), fun q nq => ?_⟩
      exact k.done (x' := some g) (ans := Krct.say (-2)) (by simp [Krct.act, c]) S (SameBut.of (Same.refl _)) nq rfl
    · refine ifF (decide_eq_false (by show ¬ ((g.n : Nat) : Int) ≤ _; omega)) ?_
      have no : ∀ q, H q = Option.none → (30 < ds.length ∨ ¬ ∀ d ∈ ds, d ≤ 3) → Q (.ref q) (upd H q (.lst [.int (-22)])) := fun q nq hc =>
        k.done (x' := some g) (ans := Krct.say (-22)) (by
          have e : (decide (30 < ds.length) || !(ds.all fun d => decide (d ≤ 3))) = true := by
            rw [Bool.or_eq_true, decide_eq_true_iff, Bool.not_eq_true']
            rcases hc with hc | hc
            · exact .inl hc
            · right
              rw [← Bool.not_eq_true, List.all_eq_true]
              simpa using hc
          simp only [Krct.act, decide_eq_false c, e]
          simp) S (SameBut.of (Same.refl _)) nq rfl
      have yes : ds.length ≤ 30 → (∀ d ∈ ds, d ≤ 3) → tRet (tLst (tCons (tCall (spLed K) [] E0 (tCons (tVar 2) (tCons (tVar 1) (tCons (tFld K (tVar 0) "ways") tNil)))) tNil)) { nx := fun _ H' => Q .non H', rt := Q } [some (.ref p), some (.int (z : Int)), some (.ref a)] H := fun h1 h2 => by
        refine ⟨_, rfl, _, rfl, _, rfl, p, C, dx, _, _, rfl, hp, T.cl, T.nW, sF_ways _ _, a, wa, z, ds, g, rfl, .inl ha, h2, W.ways, by omega, ?_⟩
        refine ⟨line_le (by show 1 ≤ _; decide), fun q nq => ?_⟩
        refine k.done (x' := some g) (ans := Krct.nat (g.walk z ds)) ?_ S (SameBut.of (Same.refl _)) nq rfl
        have e : (decide (30 < ds.length) || !(ds.all fun d => decide (d ≤ 3))) = false := by
          rw [Bool.or_eq_false_iff, decide_eq_false_iff_not, Bool.not_eq_false', List.all_eq_true]
          exact ⟨by omega, fun d hd => decide_eq_true (h2 d hd)⟩
        simp only [Krct.act, decide_eq_false c, e]
        simp
      refine ⟨_, rfl, a, _, rfl, .inl ha, _, _, rfl, rfl, _, rfl, ?_⟩
      have nl := nv_len ds
      by_cases c2 : 30 < ds.length
      · refine ifT (decide_eq_true (by omega)) ?_
        exact ⟨line_le (by show 1 ≤ _; decide), fun q nq => no q nq (.inl c2)⟩
      · refine ifF (decide_eq_false (by omega)) ?_
        have ha2 := ha
        rw [nv_ints] at ha2
        refine ⟨_, rfl, a, _, 0, rfl, rfl, ha2, fun e => ?_, fun m hm hu => ?_⟩
        · refine ⟨_, _, rfl, rfl, _, rfl, ?_⟩
          have e2 : ds = [] := List.map_eq_nil_iff.mp e
          exact yes (by omega) (fun d hd => by rw [e2] at hd; exact absurd hd List.not_mem_nil)
        · refine ⟨_, _, rfl, rfl, _, rfl, ?_⟩
          obtain ⟨d0, hd0, rfl⟩ := List.mem_map.mp hm
          by_cases c3 : 3 < d0
          · refine ifT (decide_eq_true (by show (3 : Int) < Int.ofNat d0; simp only [Int.ofNat_eq_natCast]; omega)) ?_
            exact ⟨line_le (by show 1 ≤ _; decide), fun q nq => no q nq (.inr fun h => by have := h d0 hd0; omega)⟩
          · refine ifF (decide_eq_false (by show ¬ (3 : Int) < Int.ofNat d0; simp only [Int.ofNat_eq_natCast]; omega)) ?_
            refine yes (by omega) (fun d hd => ?_)
            have := hu (Int.ofNat d) (List.mem_map.mpr ⟨d, hd, rfl⟩)
            simp only [Int.ofNat_eq_natCast] at this
            omega
/-! begin -/
theorem row_two : ∀ n, 0 < n → n ≤ 6 → Krct.isPerm n (Krct.row n).east = true ∧ Krct.isPerm n (Krct.row n).north = true ∧ (Krct.row n).whole = true ∧ (Krct.row n).east = (List.range n).drop 1 ++ [0]
  | 1, _, _ => by decide
  | 2, _, _ => by decide
  | 3, _, _ => by decide
  | 4, _, _ => by decide
  | 5, _, _ => by decide
  | 6, _, _ => by decide
  | n + 7, _, h => by omega
abbrev sBegin : Stmt := inClass cSurf 2
def spBegin (C : Addr) (K : PySem.W.Frag) : Sp := fun vs H Q _ => ∃ (p gv : Addr) (x : Option Krct.Glued) (n : Nat), vs = [.ref p, .int (n : Int)] ∧ SurfAt C K gv H p x ∧ (∃ o, H gv = some o) ∧ Post C K gv H p x (.begin_ n) Q
theorem scBegin : FnScope ["self", "size", "squares"] ["self", "size"] (defScope sBegin) := ⟨rfl, rfl, rfl, by decide +kernel, rfl, by decide +kernel, by decide +kernel⟩
theorem cut_tail (xs : List V) : cutV xs (some 1) none = xs.drop 1 := by
  unfold cutV
  have e1 : HT.sIx xs.length 0 (some ((1 : Nat) : Int)) = min 1 xs.length := HT.sIx_nat _ _ _
  have e2 : HT.sIx xs.length xs.length none = xs.length := rfl
  have e3 : HT.sIx xs.length 0 (some 1) = min 1 xs.length := e1
  rw [e2, e3]
  cases xs with
  | nil => rfl
  | cons x xs =>
    have e : min 1 (x :: xs).length = 1 := by rw [List.length_cons]; omega
    rw [e, List.take_of_length_le (by rw [List.length_drop]; omega)]
theorem ok_begin {f C : Addr} {fd : FuncData} (F : Fun K "begin" "Surface.begin" sBegin f fd) (B : Bn mg) (T : TxtS K C) (N : Cn K mg) (ML : Mt P w K mg base C 2 "lay" ["self", "east", "north"] (spLay C K)) : FnOk P w K mg base CX0 3 f fd ["self", "size"] (spBegin C K) := by
  refine F.ok scBegin (fun vs H Q E h => ?_) (fun cdv A outer s H vs Q E hr h => ?_)
  · obtain ⟨p, gv, x, n, rfl, _⟩ := h
    rfl
  · obtain ⟨p, gv, x, n, rfl, S, ⟨og, hg⟩, k⟩ := h
    obtain ⟨t3, m3⟩ := N.notRight
    obtain ⟨t4, m4⟩ := N.mostSq
    refine ⟨_, pss_cons (ps_if (PW.pt (pw_or (pt_cmpR op_lt (pv 1) pe_int (nomark _)) (pw_or1 (pt_cmpR op_gt (pv 1) (pe_glob (v := .int 6) rfl m4 ⟨_, rfl⟩) (nomark _)))))
        (pss_one (ps_ret (pe_lst (pa_cons (pe_glob (v := .int (-22)) rfl m3 ⟨_, rfl⟩) pa_nil)))) pss_nil)
      (pss_cons (ps_set (i := 2) scBegin.nd rfl (.inl rfl) (pe_listRg rfl (by rfl) B.list (prg_1 (by rfl) B.range (pv 1))))
      (pss_cons (ps_expr (ML.pe (pv 0) hr (by decide) (pa_cons (pe_op op_cat (pe_slice sl_list (pv 2) (po_some pe_int) po_none) (pe_lst (pa_cons pe_int pa_nil))) (pa_cons (pv 2) pa_nil))))
      (pss_one (ps_ret (pe_lst (pa_cons pe_int pa_nil)))))), ?_⟩
    obtain ⟨dx, wa, hp, hw⟩ := S.ex
    have no : (n = 0 ∨ 6 < n) → ∀ q, H q = Option.none → Q (.ref q) (upd H q (.lst [.int (-22)])) := fun hc q nq =>
      k.done (x' := x) (ans := Krct.say (-22)) (by
        have e : (decide (n = 0) || decide (Krct.mostSquares < n)) = true := by
          rw [Bool.or_eq_true, decide_eq_true_iff, decide_eq_true_iff]
          exact hc
        simp only [Krct.act, e]
        simp) S (SameBut.of (Same.refl _)) nq rfl
    refine ⟨_, rfl, _, _, rfl, rfl, _, rfl, ?_⟩
    by_cases c : n = 0
    · refine ifT (decide_eq_true (by omega)) ?_
      exact ⟨line_le (by show 1 ≤ _; decide), no (.inl c)⟩
    · refine ifF (decide_eq_false (by omega)) ?_
      refine ⟨_, rfl, _, _, rfl, rfl, _, rfl, ?_⟩
      by_cases c2 : 6 < n
      · refine ifT (decide_eq_true (by omega)) ?_
        exact ⟨line_le (by show 1 ≤ _; decide), no (.inr c2)⟩
      · refine ifF (decide_eq_false (by omega)) ?_
        obtain ⟨r1, r2, r3, r4⟩ := row_two n (by omega) (by omega)
        refine ⟨_, rfl, _, rfl, RgOk.of_le (by omega) (by omega) (by omega) (by omega), fun l nl => ?_⟩
        have el : rgV 0 (n : Int) = nv (List.range n) := (rg_nat n).trans (nv_ints _).symm
        rw [el]
        have npl : p ≠ l := ne_of_none hp nl
        have sl := same_new (o := .lst (nv (List.range n))) nl
        refine ⟨_, rfl, p, dx, _, rfl, (upd_ne npl).trans hp, sF_no _ _ (by decide +kernel) (by decide +kernel), ?_⟩
        refine ⟨_, rfl, _, rfl, l, _, rfl, SqL.of upd_same, fun l1 nl1 => ?_⟩
        rw [cut_tail]
        refine ⟨line_le (by show 1 ≤ _; decide), fun l2 nl2 => ?_⟩
        have n12 : l1 ≠ l2 := ne_of_none upd_same nl2
        have sl1 := same_new (o := .lst ((nv (List.range n)).drop 1)) nl1
        have sl2 := same_new (o := .lst [V.int 0]) nl2
        refine ⟨l1, l2, _, _, rfl, rfl, (upd_ne n12).trans upd_same, upd_same, line_le ?_, fun l3 nl3 => ?_⟩
        · rw [List.length_drop, nv_len, List.length_range]
          show n - 1 + 1 ≤ _
          omega
        have ee : (nv (List.range n)).drop 1 ++ [V.int 0] = nv (Krct.row n).east := by
          rw [r4, nv_app]
          unfold nv
          rw [List.map_drop]
          rfl
        rw [ee]
        have sl3 := same_new (o := .lst (nv (Krct.row n).east)) nl3
        have sAll := ((sl.trans sl1).trans sl2).trans sl3
        have s2 := (sl1.trans sl2).trans sl3
        refine ⟨_, rfl, p, gv, l3, l, dx, wa, sizeOf x, Krct.row n, rfl, sAll _ _ hp, upd_same, s2 _ _ upd_same, ⟨Pm.of r1, Pm.of r2⟩, ⟨r3, by show 0 < n; omega, by show n ≤ 6; omega⟩, ?_, ?_, ⟨og, sAll _ _ hg⟩, fun H4 S4 sb4 => ?_⟩
        · exact (ne_of_none ((sl.trans sl1).trans sl2 |> fun h => h _ _ hg) nl3).symm
        · exact (ne_of_none hg nl).symm
        refine ⟨line_le (by show 1 ≤ _; decide), fun q nq => ?_⟩
        exact k.done (x' := some (Krct.row n)) (ans := Krct.say 0) (by
          have e : (decide (n = 0) || decide (Krct.mostSquares < n)) = false := by
            rw [Bool.or_eq_false_iff, decide_eq_false_iff_not, decide_eq_false_iff_not]
            exact ⟨c, c2⟩
          simp only [Krct.act, e]
          simp) S4 ((SameBut.of sAll).trans sb4) nq rfl
/-! glue -/
abbrev sGlue : Stmt := inClass cSurf 3
theorem act_glue {g : Krct.Glued} {l m : List Nat} (h : faultOf g.n l m ≠ 0) : Krct.act (some g) (.glue l m) = (some g, Krct.say (faultOf g.n l m)) := by
  unfold faultOf at h ⊢
  by_cases c : (!Krct.isPerm g.n l || !Krct.isPerm g.n m) = true
  · simp only [Krct.act, c]
    simp
  · rw [if_neg c] at h ⊢
    have c' := Bool.eq_false_iff.mpr c
    by_cases c2 : (!(⟨g.n, l, m⟩ : Krct.Glued).whole) = true
    · simp only [Krct.act, c', c2]
      simp
    · rw [if_neg c2] at h
      exact absurd rfl h
theorem fault_none {n : Nat} {l m : List Nat} (h : faultOf n l m = 0) : Krct.isPerm n l = true ∧ Krct.isPerm n m = true ∧ (⟨n, l, m⟩ : Krct.Glued).whole = true := by
  unfold faultOf at h
  by_cases c : (!Krct.isPerm n l || !Krct.isPerm n m) = true
  · rw [if_pos c] at h
    exact absurd h (by decide)
  · rw [if_neg c] at h
    by_cases c2 : (!(⟨n, l, m⟩ : Krct.Glued).whole) = true
    · rw [if_pos c2] at h
      exact absurd h (by decide)
    · have c' := Bool.eq_false_iff.mpr c
      have c2' := Bool.eq_false_iff.mpr c2
      rw [Bool.or_eq_false_iff, Bool.not_eq_false', Bool.not_eq_false'] at c'
      rw [Bool.not_eq_false'] at c2'
      exact ⟨c'.1, c'.2, c2'⟩
def spGlue (C : Addr) (K : PySem.W.Frag) : Sp := fun vs H Q _ => ∃ (p gv a b : Addr) (g : Krct.Glued) (l m : List Nat), vs = [.ref p, .ref a, .ref b] ∧ SurfAt C K gv H p (some g) ∧ H a = some (.lst (nv l)) ∧ H b = some (.lst (nv m)) ∧ a ≠ gv ∧ b ≠ gv ∧ (∃ o, H gv = some o) ∧ Post C K gv H p (some g) (.glue l m) Q
theorem scGlue : FnScope ["self", "east", "north", "fault"] ["self", "east", "north"] (defScope sGlue) := ⟨rfl, rfl, rfl, by decide +kernel, rfl, by decide +kernel, by decide +kernel⟩
theorem ok_glue {f C : Addr} {fd : FuncData} (F : Fun K "glue" "Surface.glue" sGlue f fd) (B : Bn mg) (T : TxtS K C) (N : Cn K mg) (ML : Mt P w K mg base C 2 "lay" ["self", "east", "north"] (spLay C K)) (DF : Dn P w K mg base 3 "gluing_fault" ["east", "north", "size"] (spFault K))
    (DS : Dn P w K mg base 3 "round_sizes" ["steps", "ways"] (spSizes K)) : FnOk P w K mg base CX0 4 f fd ["self", "east", "north"] (spGlue C K) := by
  refine F.ok scGlue (fun vs H Q E h => ?_) (fun cdv A outer s H vs Q E hr h => ?_)
  · obtain ⟨p, gv, a, b, g, l, m, rfl, _⟩ := h
    rfl
  · obtain ⟨p, gv, a, b, g, l, m, rfl, S, ha, hb, na, nb, ⟨og, hg⟩, k⟩ := h
    obtain ⟨ao, mo, so⟩ := N.once
    refine ⟨_, pss_cons (ps_set (i := 3) scGlue.nd rfl (.inl rfl) (DF.pe hr (by decide) rfl (pa_cons (pv 1) (pa_cons (pv 2) (pa_cons (pe_fld (pv 0) rfl) pa_nil)))))
      (pss_cons (ps_if (pt_cmpR op_ne (pv 3) pe_int (nomark _)) (pss_one (ps_ret (pe_lst (pa_cons (pv 3) pa_nil)))) pss_nil)
      (pss_cons (ps_expr (ML.pe (pv 0) hr (by decide) (pa_cons (pv 1) (pa_cons (pv 2) pa_nil))))
      (pss_one (ps_ret (pe_lst (pa_cons (pe_callB call_len_seq (by rfl) B.len PySem.boot_len (pa_cons (DS.pe hr (by decide) rfl (pa_cons (pe_glob (v := .ref ao) rfl mo rfl) (pa_cons (pe_fld (pv 0) rfl) pa_nil))) pa_nil)) pa_nil)))))), ?_⟩
    obtain ⟨dx, wa, hp, hw⟩ := S.ex
    obtain ⟨W, ok⟩ := hw g rfl
    have h6 := ok.h6
    have h0 := ok.h0
    refine ⟨_, rfl, _, rfl, _, rfl, p, C, dx, _, _, rfl, hp, T.cl, T.nS, sF_size _ _, a, b, g.n, l, m, rfl, SqL.of ha, SqL.of hb, h0, by omega, fun H1 s1 => ?_⟩
    refine ⟨_, rfl, rfl, _, rfl, ?_⟩
    by_cases c : faultOf g.n l m = 0
    · refine ifF (by rw [c]; rfl) ?_
      obtain ⟨c1, c2, c3⟩ := fault_none c
      have e : (!Krct.isPerm g.n l || !Krct.isPerm g.n m) = false := by
        rw [c1, c2]
        rfl
      have tw : Two (⟨g.n, l, m⟩ : Krct.Glued) := ⟨Pm.of c1, Pm.of c2⟩
      refine ⟨_, rfl, p, dx, _, rfl, s1 _ _ hp, sF_no _ _ (by decide +kernel) (by decide +kernel), ?_⟩
      refine ⟨_, rfl, _, rfl, p, gv, a, b, dx, wa, _, ⟨g.n, l, m⟩, rfl, s1 _ _ hp, s1 _ _ ha, s1 _ _ hb, tw, ⟨c3, h0, h6⟩, na, nb, ⟨og, s1 _ _ hg⟩, fun H4 S4 sb4 => ?_⟩
      obtain ⟨dx4, wa4, hp4, hw4⟩ := S4.ex
      obtain ⟨W4, ok4⟩ := hw4 _ rfl
      refine ⟨_, rfl, p, C, dx4, _, _, rfl, hp4, T.cl, T.nW, sF_ways _ _, ao, wa4, [0, 1, 2, 3], _, rfl, so, le3, W4.ways, fun H5 r s5 nr hr5 => ?_⟩
      rw [rounds_corners] at hr5
      refine ⟨r, _, rfl, .inl (SqL.of hr5), line_le (by show 1 ≤ _; decide), fun q nq => ?_⟩
      refine k.done (x' := some ⟨g.n, l, m⟩) (ans := Krct.nat (⟨g.n, l, m⟩ : Krct.Glued).corners.length) (by
        simp only [Krct.act, e, c3]
        simp) (S4.same s5) (((SameBut.of s1).trans sb4).trans (SameBut.of s5)) nq ?_
      rw [nv_len, List.length_map]
      rfl
    · refine ifT (by rw [decide_eq_false (fun e => c (V.int.inj e))]; rfl) ?_
      refine ⟨_, rfl, line_le (by show 1 ≤ _; decide), fun q nq => ?_⟩
      exact k.done (act_glue c) (S.same s1) (SameBut.of s1) nq rfl
end
end Gs
end
section
set_option maxRecDepth 100000
set_option maxHeartbeats 4000000
namespace Gs
open PySem L2
section
variable {P : Program} {w : World} {K : PySem.W.Frag} {mg : Str → Option Value} {base : Heap}
/-! same -/
abbrev sSameM : Stmt := inClass cSurf 10
theorem act_same {g : Krct.Glued} {l m : List Nat} (h : faultOf g.n l m ≠ 0) : Krct.act (some g) (.same l m) = (some g, Krct.say (faultOf g.n l m)) := by
  unfold faultOf at h ⊢
  by_cases c : (!Krct.isPerm g.n l || !Krct.isPerm g.n m) = true
  · simp only [Krct.act, c]
    simp
  · rw [if_neg c] at h ⊢
    have c' := Bool.eq_false_iff.mpr c
    by_cases c2 : (!(⟨g.n, l, m⟩ : Krct.Glued).whole) = true
    · simp only [Krct.act, c', c2]
      simp
    · rw [if_neg c2] at h
      exact absurd rfl h
def spSame (C : Addr) (K : PySem.W.Frag) : Sp := fun vs H Q _ => ∃ (p gv a b : Addr) (g : Krct.Glued) (l m : List Nat), vs = [.ref p, .ref a, .ref b] ∧ SurfAt C K gv H p (some g) ∧ H a = some (.lst (nv l)) ∧ H b = some (.lst (nv m)) ∧ Post C K gv H p (some g) (.same l m) Q
theorem scSameM : FnScope ["self", "east", "north", "fault", "own_name"] ["self", "east", "north"] (defScope sSameM) := ⟨rfl, rfl, rfl, by decide +kernel, rfl, by decide +kernel, by decide +kernel⟩
theorem ok_same {f C : Addr} {fd : FuncData} (F : Fun K "same" "Surface.same" sSameM f fd) (T : TxtS K C) (N : Cn K mg) (DF : Dn P w K mg base 3 "gluing_fault" ["east", "north", "size"] (spFault K))
    (DN : Dn P w K mg base 5 "least_name" ["east", "north"] (spLeast K)) : FnOk P w K mg base CX0 6 f fd ["self", "east", "north"] (spSame C K) := by
  refine F.ok scSameM (fun vs H Q E h => ?_) (fun cdv A outer s H vs Q E hr h => ?_)
  · obtain ⟨p, gv, a, b, g, l, m, rfl, _⟩ := h
    rfl
  · obtain ⟨p, gv, a, b, g, l, m, rfl, S, ha, hb, k⟩ := h
    obtain ⟨t1, m1⟩ := N.east
    obtain ⟨t2, m2⟩ := N.north
    refine ⟨_, pss_cons (ps_set (i := 3) scSameM.nd rfl (.inl rfl) (DF.pe hr (by decide) rfl (pa_cons (pv 1) (pa_cons (pv 2) (pa_cons (pe_fld (pv 0) rfl) pa_nil)))))
      (pss_cons (ps_if (pt_cmpR op_ne (pv 3) pe_int (nomark _)) (pss_one (ps_ret (pe_lst (pa_cons (pv 3) pa_nil)))) pss_nil)
      (pss_cons (ps_set (i := 4) scSameM.nd rfl (.inl rfl) (DN.pe hr (by decide) rfl (pa_cons (pe_ix ix_list (pe_fld (pv 0) rfl) (pe_glob (v := .int 0) rfl m1 ⟨_, rfl⟩) (fun _ _ => rfl)) (pa_cons (pe_ix ix_list (pe_fld (pv 0) rfl) (pe_glob (v := .int 1) rfl m2 ⟨_, rfl⟩) (fun _ _ => rfl)) pa_nil))))
      (pss_one (ps_ret (pe_lst (pa_cons (pe_ifExp (pt_cmpR (op_eqD hr.units) (DN.pe hr (by decide) rfl (pa_cons (pv 1) (pa_cons (pv 2) pa_nil))) (pv 4) (nomark _)) pe_int pe_int) pa_nil)))))), ?_⟩
    obtain ⟨dx, wa, hp, hw⟩ := S.ex
    obtain ⟨W, ok⟩ := hw g rfl
    have h6 := ok.h6
    have h0 := ok.h0
    obtain ⟨b1, c1, d1, e1, n1, w0, w1, w2, w3, w4⟩ := W.l
    refine ⟨_, rfl, _, rfl, _, rfl, p, C, dx, _, _, rfl, hp, T.cl, T.nS, sF_size _ _, a, b, g.n, l, m, rfl, SqL.of ha, SqL.of hb, h0, by omega, fun H1 s1 => ?_⟩
    refine ⟨_, rfl, rfl, _, rfl, ?_⟩
    by_cases c : faultOf g.n l m = 0
    · refine ifF (by rw [c]; rfl) ?_
      obtain ⟨f1, f2, f3⟩ := fault_none c
      have e : (!Krct.isPerm g.n l || !Krct.isPerm g.n m) = false := by
        rw [f1, f2]
        rfl
      have tw : Two (⟨g.n, l, m⟩ : Krct.Glued) := ⟨Pm.of f1, Pm.of f2⟩
      refine ⟨_, rfl, p, C, dx, _, _, rfl, s1 _ _ hp, T.cl, T.nW, sF_ways _ _, wa, _, _, _, rfl, rfl, SqL.of (s1 _ _ w0), at_nat (i := 0) rfl, _, rfl, p, C, dx, _, _, rfl, s1 _ _ hp, T.cl, T.nW, sF_ways _ _, wa, _, _, _, rfl, rfl, SqL.of (s1 _ _ w0), at_nat (i := 1) rfl, b1, c1, g, rfl, ⟨SqL.of (s1 _ _ w1), SqL.of (s1 _ _ w2), W.t, W.n⟩, ok.w, ok.h0, fun H2 q2 s2 nq2 hq2 => ?_⟩
      have s12 := s1.trans s2
      refine ⟨_, rfl, _, rfl, a, b, ⟨g.n, l, m⟩, rfl, ⟨SqL.of (s12 _ _ ha), SqL.of (s12 _ _ hb), tw, by show g.n ≤ 100; omega⟩, f3, h0, fun H3 q3 s3 nq3 hq3 => ?_⟩
      have s13 := s12.trans s3
      rw [nv_ints] at hq2 hq3
      refine ⟨_, rfl, _, _, dp_ints (SqL.of hq3), dp_ints (SqL.of (s3 _ _ hq2)), shaped_ints _, shaped_ints _, _, rfl, ?_⟩
      have eq : PyData.eqv (.list (di ((word (Krct.name ⟨g.n, l, m⟩)).map Int.ofNat))) (.list (di ((word (Krct.name g)).map Int.ofNat))) = Krct.same g ⟨g.n, l, m⟩ := by
        rw [eqv_ints]
        exact same_eq rfl h0 W.t ok.w tw f3
      have fin : ∀ v : Int, v = (if Krct.same g ⟨g.n, l, m⟩ = true then 1 else 0) → ∀ q, H3 q = Option.none → Q (.ref q) (upd H3 q (.lst [.int v])) := fun v hv q nq =>
        k.done (x' := some g) (ans := Krct.ask (Krct.same g ⟨g.n, l, m⟩)) (by
          simp only [Krct.act, e, f3]
          simp) (S.same s13) (SameBut.of s13) nq (by rw [hv]; rfl)
      rw [eq]
      cases z : Krct.same g ⟨g.n, l, m⟩ with
      | true => exact ⟨line_le (by show 1 ≤ _; decide), fun q nq => fin 1 (by rw [z]; rfl) q nq⟩
      | false => exact ⟨line_le (by show 1 ≤ _; decide), fun q nq => fin 0 (by rw [z]; rfl) q nq⟩
    · refine ifT (by rw [decide_eq_false (fun e => c (V.int.inj e))]; rfl) ?_
      refine ⟨_, rfl, line_le (by show 1 ≤ _; decide), fun q nq => ?_⟩
      exact k.done (act_same c) (S.same s1) (SameBut.of s1) nq rfl
/-! selves -/
abbrev sSelvesM : Stmt := inClass cSurf 11
def spSelves (C : Addr) (K : PySem.W.Frag) : Sp := fun vs H Q _ => ∃ (p gv : Addr) (g : Krct.Glued), vs = [.ref p] ∧ SurfAt C K gv H p (some g) ∧ Post C K gv H p (some g) .selves Q
theorem scSelvesM : FnScope ["self", "names"] ["self"] (defScope sSelvesM) := ⟨rfl, rfl, rfl, by decide +kernel, rfl, by decide +kernel, by decide +kernel⟩
theorem ok_selves {f C : Addr} {fd : FuncData} (F : Fun K "selves" "Surface.selves" sSelvesM f fd) (T : TxtS K C) (N : Cn K mg) (DM : Dn P w K mg base 4 "names_by_orders" ["east", "north"] (spNames K)) : FnOk P w K mg base CX0 5 f fd ["self"] (spSelves C K) := by
  refine F.ok scSelvesM (fun vs H Q E h => ?_) (fun cdv A outer s H vs Q E hr h => ?_)
  · obtain ⟨p, gv, g, rfl, _⟩ := h
    rfl
  · obtain ⟨p, gv, g, rfl, S, k⟩ := h
    obtain ⟨t1, m1⟩ := N.east
    obtain ⟨t2, m2⟩ := N.north
    refine ⟨_, pss_cons (ps_set (i := 1) scSelvesM.nd rfl (.inl rfl) (DM.pe hr (by decide) rfl (pa_cons (pe_ix ix_list (pe_fld (pv 0) rfl) (pe_glob (v := .int 0) rfl m1 ⟨_, rfl⟩) (fun _ _ => rfl)) (pa_cons (pe_ix ix_list (pe_fld (pv 0) rfl) (pe_glob (v := .int 1) rfl m2 ⟨_, rfl⟩) (fun _ _ => rfl)) pa_nil))))
      (pss_one (ps_ret (pe_lst (pa_cons (pe_bm PySem.F.plainAttrs_list PySem.F.slot_list_count PySem.F.type_list_count (mt_lcountL hr.units) (pv 1) (pa_cons (pe_ix ix_list (pv 1) pe_int (fun _ _ => rfl)) pa_nil)) pa_nil)))), ?_⟩
    obtain ⟨dx, wa, hp, hw⟩ := S.ex
    obtain ⟨W, ok⟩ := hw g rfl
    obtain ⟨b1, c1, d1, e1, n1, w0, w1, w2, w3, w4⟩ := W.l
    refine ⟨_, rfl, p, C, dx, _, _, rfl, hp, T.cl, T.nW, sF_ways _ _, wa, _, _, _, rfl, rfl, SqL.of w0, at_nat (i := 0) rfl, _, rfl, p, C, dx, _, _, rfl, hp, T.cl, T.nW, sF_ways _ _, wa, _, _, _, rfl, rfl, SqL.of w0, at_nat (i := 1) rfl, b1, c1, g, rfl, ⟨SqL.of w1, SqL.of w2, W.t, W.n⟩, ok.w, ok.h0, fun H1 D ps s1 nD hD al fr => ?_⟩
    have cnt := selves_count W.t ok.w ok.h0
    have al2 := al
    rw [namesOf_cons ok.h0] at al2
    cases al2 with
    | cons hz tz =>
      rename_i p0 ps0
      refine ⟨_, rfl, .inl ⟨rfl, _, SqL.of hD⟩, _, rfl, D, _, _, _, rfl, rfl, SqL.of hD, at_nat (i := 0) rfl, D, p0, p0 :: ps0, _, namesOf g, rfl, rfl, SqL.of hD, al, hz, line_le (by show 1 ≤ _; decide), fun q nq => ?_⟩
      refine k.done (x' := some g) (ans := Krct.nat (Krct.selves g)) rfl (S.same s1) (SameBut.of s1) nq ?_
      show [V.int _] = [V.int ((Krct.selves g : Nat) : Int)]
      rw [← cnt]
/-! rename -/
abbrev sRenameM : Stmt := inClass cSurf 12
def spRename (C : Addr) (K : PySem.W.Frag) : Sp := fun vs H Q _ => ∃ (p gv a : Addr) (g : Krct.Glued) (l : List Nat), vs = [.ref p, .ref a] ∧ SurfAt C K gv H p (some g) ∧ SqL K H a (nv l) ∧ (∃ o, H gv = some o) ∧ Post C K gv H p (some g) (.rename l) Q
theorem scRenameM : FnScope ["self", "order"] ["self", "order"] (defScope sRenameM) := ⟨rfl, rfl, rfl, by decide +kernel, rfl, by decide +kernel, by decide +kernel⟩
theorem ok_rename {f C : Addr} {fd : FuncData} (F : Fun K "rename" "Surface.rename" sRenameM f fd) (T : TxtS K C) (N : Cn K mg) (ML : Mt P w K mg base C 2 "lay" ["self", "east", "north"] (spLay C K)) (DA : Dn P w K mg base 1 "tells_all_once" ["ones", "size"] (spTells K))
    (DR : Dn P w K mg base 2 "renamed" ["ones", "order"] (spRen K)) : FnOk P w K mg base CX0 3 f fd ["self", "order"] (spRename C K) := by
  refine F.ok scRenameM (fun vs H Q E h => ?_) (fun cdv A outer s H vs Q E hr h => ?_)
  · obtain ⟨p, gv, a, g, l, rfl, _⟩ := h
    rfl
  · obtain ⟨p, gv, a, g, l, rfl, S, ha, ⟨og, hg⟩, k⟩ := h
    obtain ⟨t1, m1⟩ := N.east
    obtain ⟨t2, m2⟩ := N.north
    obtain ⟨t3, m3⟩ := N.notRight
    refine ⟨_, pss_cons (ps_if (pt_not (pt_val (DA.pe hr (by decide) rfl (pa_cons (pv 1) (pa_cons (pe_fld (pv 0) rfl) pa_nil))))) (pss_one (ps_ret (pe_lst (pa_cons (pe_glob (v := .int (-22)) rfl m3 ⟨_, rfl⟩) pa_nil)))) pss_nil)
      (pss_cons (ps_expr (ML.pe (pv 0) hr (by decide) (pa_cons (DR.pe hr (by decide) rfl (pa_cons (pe_ix ix_list (pe_fld (pv 0) rfl) (pe_glob (v := .int 0) rfl m1 ⟨_, rfl⟩) (fun _ _ => rfl)) (pa_cons (pv 1) pa_nil)))
        (pa_cons (DR.pe hr (by decide) rfl (pa_cons (pe_ix ix_list (pe_fld (pv 0) rfl) (pe_glob (v := .int 1) rfl m2 ⟨_, rfl⟩) (fun _ _ => rfl)) (pa_cons (pv 1) pa_nil))) pa_nil))))
      (pss_one (ps_ret (pe_lst (pa_cons pe_int pa_nil))))), ?_⟩
    obtain ⟨dx, wa, hp, hw⟩ := S.ex
    obtain ⟨W, ok⟩ := hw g rfl
    have h6 := ok.h6
    have h0 := ok.h0
    obtain ⟨b1, c1, d1, e1, n1, w0, w1, w2, w3, w4⟩ := W.l
    refine ⟨_, rfl, _, rfl, p, C, dx, _, _, rfl, hp, T.cl, T.nS, sF_size _ _, a, g.n, l, rfl, ha, by omega, fun H1 s1 => ?_⟩
    refine ⟨_, rfl, ?_⟩
    cases c : Krct.isPerm g.n l with
    | false =>
      refine ⟨line_le (by show 1 ≤ _; decide), fun q nq => ?_⟩
      exact k.done (x' := some g) (ans := Krct.say (-22)) (by simp [Krct.act, c]) (S.same s1) (SameBut.of s1) nq rfl
    | true =>
      have pl := Pm.of c
      refine ⟨_, rfl, p, dx, _, rfl, s1 _ _ hp, sF_no _ _ (by decide +kernel) (by decide +kernel), ?_⟩
      refine ⟨_, rfl, p, C, dx, _, _, rfl, s1 _ _ hp, T.cl, T.nW, sF_ways _ _, wa, _, _, _, rfl, rfl, SqL.of (s1 _ _ w0), at_nat (i := 0) rfl, _, rfl, b1, a, g.n, g.east, l, rfl, SqL.of (s1 _ _ w1), s1.seq ha, W.t.e, pl, by omega, fun H2 q2 s2 nq2 hq2 => ?_⟩
      have s12 := s1.trans s2
      refine ⟨_, rfl, p, C, dx, _, _, rfl, s12 _ _ hp, T.cl, T.nW, sF_ways _ _, wa, _, _, _, rfl, rfl, SqL.of (s12 _ _ w0), at_nat (i := 1) rfl, _, rfl, c1, a, g.n, g.north, l, rfl, SqL.of (s12 _ _ w2), s12.seq ha, W.t.o, pl, by omega, fun H3 q3 s3 nq3 hq3 => ?_⟩
      have s13 := s12.trans s3
      refine ⟨p, gv, q2, q3, dx, wa, _, Krct.renamed g l, rfl, s13 _ _ hp, s3 _ _ hq2, hq3, renamed_two W.t pl, ⟨renamed_whole W.t ok.w h0 pl, h0, h6⟩, ?_, ?_, ⟨og, s13 _ _ hg⟩, fun H4 S4 sb4 => ?_⟩
      · exact (ne_of_none (s1 _ _ hg) nq2).symm
      · exact (ne_of_none (s12 _ _ hg) nq3).symm
      refine ⟨line_le (by show 1 ≤ _; decide), fun q nq => ?_⟩
      exact k.done (x' := some (Krct.renamed g l)) (ans := Krct.say 0) (by simp [Krct.act, c]) S4 ((SameBut.of s13).trans sb4) nq rfl
/-! near -/
abbrev sNearM : Stmt := inClass cSurf 15
def spNear (C : Addr) (K : PySem.W.Frag) : Sp := fun vs H Q _ => ∃ (p gv : Addr) (g : Krct.Glued) (z t : Nat), vs = [.ref p, .int (z : Int), .int (t : Int)] ∧ SurfAt C K gv H p (some g) ∧ Post C K gv H p (some g) (.near z t) Q
theorem scNearM : FnScope ["self", "start", "goal"] ["self", "start", "goal"] (defScope sNearM) := ⟨rfl, rfl, rfl, by decide +kernel, rfl, by decide +kernel, by decide +kernel⟩
theorem ok_near {f C : Addr} {fd : FuncData} (F : Fun K "near" "Surface.near" sNearM f fd) (T : TxtS K C) (N : Cn K mg) (DF : Dn P w K mg base 2 "fewest_steps" ["start", "goal", "ways"] (spFew K)) : FnOk P w K mg base CX0 3 f fd ["self", "start", "goal"] (spNear C K) := by
  refine F.ok scNearM (fun vs H Q E h => ?_) (fun cdv A outer s H vs Q E hr h => ?_)
  · obtain ⟨p, gv, g, z, t, rfl, _⟩ := h
    rfl
  · obtain ⟨p, gv, g, z, t, rfl, S, k⟩ := h
    obtain ⟨t1, m1⟩ := N.noSquare
    refine ⟨_, pss_cons (ps_if (PW.pt (pw_or (pt_cmpR op_ge (pv 1) (pe_fld (pv 0) rfl) (nomark _)) (pw_or1 (pt_cmpR op_ge (pv 2) (pe_fld (pv 0) rfl) (nomark _)))))
        (pss_one (ps_ret (pe_lst (pa_cons (pe_glob (v := .int (-2)) rfl m1 ⟨_, rfl⟩) pa_nil)))) pss_nil)
      (pss_one (ps_ret (pe_lst (pa_cons (DF.pe hr (by decide) rfl (pa_cons (pv 1) (pa_cons (pv 2) (pa_cons (pe_fld (pv 0) rfl) pa_nil)))) pa_nil)))), ?_⟩
    obtain ⟨dx, wa, hp, hw⟩ := S.ex
    obtain ⟨W, ok⟩ := hw g rfl
    have no : (g.n ≤ z ∨ g.n ≤ t) → ∀ q, H q = Option.none → Q (.ref q) (upd H q (.lst [.int (-2)])) := fun hc q nq =>
      k.done (x' := some g) (ans := Krct.say (-2)) (by
        have e : (decide (g.n ≤ z) || decide (g.n ≤ t)) = true := by
          rw [Bool.or_eq_true, decide_eq_true_iff, decide_eq_true_iff]
          exact hc
        simp only [Krct.act, e]
        simp) S (SameBut.of (Same.refl _)) nq rfl
    refine ⟨_, rfl, _, rfl, p, C, dx, _, _, rfl, hp, T.cl, T.nS, sF_size _ _, _, _, rfl, rfl, _, rfl, ?_⟩
    show if decide (((sizeOf (some g) : Nat) : Int) ≤ (z : Int)) = true then _ else _
    by_cases c : g.n ≤ z
    · refine ifT (decide_eq_true (by show ((g.n : Nat) : Int) ≤ _; omega)) ?_
      exact ⟨line_le (by show 1 ≤ _; decide), no (.inl c)⟩
    · refine ifF (decide_eq_false (by show ¬ ((g.n : Nat) : Int) ≤ _; omega)) ?_
      refine ⟨_, rfl, _, rfl, p, C, dx, _, _, rfl, hp, T.cl, T.nS, sF_size _ _, _, _, rfl, rfl, _, rfl, ?_⟩
      show if decide (((sizeOf (some g) : Nat) : Int) ≤ (t : Int)) = true then _ else _
      by_cases c2 : g.n ≤ t
      · refine ifT (decide_eq_true (by show ((g.n : Nat) : Int) ≤ _; omega)) ?_
        exact ⟨line_le (by show 1 ≤ _; decide), no (.inr c2)⟩
      · refine ifF (decide_eq_false (by show ¬ ((g.n : Nat) : Int) ≤ _; omega)) ?_
        refine ⟨_, rfl, _, rfl, _, rfl, p, C, dx, _, _, rfl, hp, T.cl, T.nW, sF_ways _ _, z, t, wa, g, rfl, W.ways, ok.w, by omega, by omega, fun H1 s1 => ?_⟩
        refine ⟨line_le (by show 1 ≤ _; decide), fun q nq => ?_⟩
        exact k.done (x' := some g) (ans := Krct.nat (Krct.far g t g.n [z] 0)) (by simp [Krct.act, c, c2]) (S.same s1) (SameBut.of s1) nq rfl
/-! state -/
abbrev sStateM : Stmt := inClass cSurf 16
def spState (C : Addr) (K : PySem.W.Frag) : Sp := fun vs H Q _ => ∃ (p gv : Addr) (g : Krct.Glued), vs = [.ref p] ∧ SurfAt C K gv H p (some g) ∧ Post C K gv H p (some g) .state Q
theorem scStateM : FnScope ["self"] ["self"] (defScope sStateM) := ⟨rfl, rfl, rfl, by decide +kernel, rfl, by decide +kernel, by decide +kernel⟩
theorem ok_state {f C : Addr} {fd : FuncData} (F : Fun K "state" "Surface.state" sStateM f fd) (T : TxtS K C) (N : Cn K mg) : FnOk P w K mg base CX0 1 f fd ["self"] (spState C K) := by
  refine F.ok scStateM (fun vs H Q E h => ?_) (fun cdv A outer s H vs Q E hr h => ?_)
  · obtain ⟨p, gv, g, rfl, _⟩ := h
    rfl
  · obtain ⟨p, gv, g, rfl, S, k⟩ := h
    obtain ⟨t1, m1⟩ := N.east
    obtain ⟨t2, m2⟩ := N.north
    refine ⟨_, pss_one (ps_ret (pe_op op_cat (pe_op op_cat (pe_lst (pa_cons (pe_fld (pv 0) rfl) pa_nil)) (pe_ix ix_list (pe_fld (pv 0) rfl) (pe_glob (v := .int 0) rfl m1 ⟨_, rfl⟩) (fun _ _ => rfl))) (pe_ix ix_list (pe_fld (pv 0) rfl) (pe_glob (v := .int 1) rfl m2 ⟨_, rfl⟩) (fun _ _ => rfl)))), ?_⟩
    obtain ⟨dx, wa, hp, hw⟩ := S.ex
    obtain ⟨W, ok⟩ := hw g rfl
    have h6 := ok.h6
    obtain ⟨b1, c1, d1, e1, n1, w0, w1, w2, w3, w4⟩ := W.l
    have le : (nv g.east).length ≤ 6 := by rw [nv_len, W.t.e.len]; exact h6
    have lo : (nv g.north).length ≤ 6 := by rw [nv_len, W.t.o.len]; exact h6
    refine ⟨_, rfl, p, C, dx, _, _, rfl, hp, T.cl, T.nS, sF_size _ _, line_le (by show 1 ≤ _; decide), fun q1 nq1 => ?_⟩
    have s1 := same_new (o := .lst [V.int ((sizeOf (some g) : Nat) : Int)]) nq1
    refine ⟨_, rfl, p, C, dx, _, _, rfl, s1 _ _ hp, T.cl, T.nW, sF_ways _ _, wa, _, _, _, rfl, rfl, SqL.of (s1 _ _ w0), at_nat (i := 0) rfl, q1, b1, _, _, rfl, rfl, upd_same, s1 _ _ w1, line_le (by show 1 + _ ≤ _; omega), fun q2 nq2 => ?_⟩
    have s2 := s1.trans (same_new (o := .lst ([V.int ((sizeOf (some g) : Nat) : Int)] ++ nv g.east)) nq2)
    refine ⟨_, rfl, p, C, dx, _, _, rfl, s2 _ _ hp, T.cl, T.nW, sF_ways _ _, wa, _, _, _, rfl, rfl, SqL.of (s2 _ _ w0), at_nat (i := 1) rfl, q2, c1, _, _, rfl, rfl, upd_same, s2 _ _ w2, line_le (by rw [List.length_append]; show 1 + _ + _ ≤ _; omega), fun q3 nq3 => ?_⟩
    refine k.done (x' := some g) (ans := { num := g.n, nums := Krct.ints (g.east ++ g.north) }) rfl (S.same s2) (SameBut.of s2) nq3 ?_
    show V.int ((g.n : Nat) : Int) :: (nv g.east ++ nv g.north) = V.int ((g.n : Nat) : Int) :: (Krct.ints (g.east ++ g.north)).map V.int
    rw [← nv_app]
    unfold nv Krct.ints
    rw [List.map_map]
    rfl
end
end Gs
end
section
set_option maxRecDepth 100000
set_option maxHeartbeats 4000000
namespace Gs
open PySem L2
/-! ## the reader -/
section
variable {P : Program} {w : World} {K : PySem.W.Frag} {mg : Str → Option Value} {base : Heap}
def rF (a : Addr) (i : Nat) : List (Str × V) := [("calls", .ref a), ("place", .int (i : Int))]
theorem rF_calls (a : Addr) (i : Nat) : (rF a i).lookup ("calls" : Str) = some (.ref a) := lk_here
theorem rF_place (a : Addr) (i : Nat) : (rF a i).lookup ("place" : Str) = some (.int (i : Int)) := (lk_past (by decide +kernel)).trans lk_here
theorem rF_no (a : Addr) (i : Nat) {m : Str} (h1 : (m == ("calls" : Str)) = false) (h2 : (m == ("place" : Str)) = false) : (rF a i).lookup m = none := (lk_past h1).trans ((lk_past h2).trans rfl)
theorem rF_put (a : Addr) (i j : Nat) : putF "place" (.int (j : Int)) (rF a i) = rF a j := (put_past (by decide +kernel)).trans (congrArg _ put_here)
theorem rF_new (a : Addr) : putF "place" (.int 0) (putF "calls" (.ref a) []) = rF a 0 := (put_past (by decide +kernel)).trans rfl
def ReadAt (C : Addr) (H : Hp) (r a : Addr) (i : Nat) : Prop := ∃ dx, H r = some (.ins C dx (rF a i))
structure TxtR (K : PySem.W.Frag) (C : Addr) : Prop where
  cl : Cls K C
  nC : NoAttr K C "calls"
  nP : NoAttr K C "place"
theorem cut_nat {xs : List V} {i n : Nat} : cutV xs (some (i : Int)) (some ((i + n : Nat) : Int)) = (xs.drop i).take n := by
  unfold cutV
  rw [HT.sIx_nat, HT.sIx_nat]
  by_cases h : i ≤ xs.length
  · have e1 : min i xs.length = i := by omega
    rw [e1]
    by_cases h2 : i + n ≤ xs.length
    · have e2 : min (i + n) xs.length = i + n := by omega
      rw [e2, Nat.add_sub_cancel_left]
    · have e2 : min (i + n) xs.length = xs.length := by omega
      rw [e2, List.take_of_length_le (by rw [List.length_drop]; omega), List.take_of_length_le (by rw [List.length_drop]; omega)]
  · have e1 : min i xs.length = xs.length := by omega
    rw [e1, List.drop_of_length_le (Nat.le_refl _), List.drop_of_length_le (by omega)]
    simp
abbrev rInit : Stmt := inClass cRead 0
abbrev rMore : Stmt := inClass cRead 1
abbrev rTake : Stmt := inClass cRead 2
abbrev rOne : Stmt := inClass cRead 3
abbrev rRows : Stmt := inClass cRead 4
def spRInit (C : Addr) : Sp := fun vs H Q _ => ∃ (r dx a : Addr), vs = [.ref r, .ref a] ∧ H r = some (.ins C dx []) ∧ ∀ H' : Hp, ReadAt C H' r a 0 → SameBut r H H' → Q .non H'
theorem scRInit : FnScope ["self", "calls"] ["self", "calls"] (defScope rInit) := ⟨rfl, rfl, rfl, by decide +kernel, rfl, by decide +kernel, by decide +kernel⟩
theorem ok_rinit {f C : Addr} {fd : FuncData} (F : Fun K "__init__" "Reader.__init__" rInit f fd) (T : TxtR K C) : FnOk P w K mg base CX0 1 f fd ["self", "calls"] (spRInit C) := by
  refine F.ok scRInit (fun vs H Q E h => ?_) (fun cdv A outer s H vs Q E hr h => ?_)
  · obtain ⟨r, dx, a, rfl, _⟩ := h
    rfl
  · obtain ⟨r, dx, a, rfl, hp, k⟩ := h
    refine ⟨_, pss_cons (ps_fld (pv 0) (pv 1) rfl) (pss_one (ps_fld (pv 0) pe_int rfl)), ?_⟩
    refine ⟨_, rfl, _, rfl, r, C, dx, [], rfl, hp, T.cl, T.nC, (by show 0 < 1000; decide), ?_⟩
    refine ⟨_, rfl, r, C, dx, _, rfl, upd_same, T.cl, T.nP, (by show 1 < 1000; decide), ?_⟩
    exact k _ ⟨dx, by rw [upd_same, rF_new]⟩ (SameBut.put.trans SameBut.put)
def spMore (C : Addr) (K : PySem.W.Frag) : Sp := fun vs H Q _ => ∃ (r a : Addr) (i : Nat) (ms : List Nat), vs = [.ref r] ∧ ReadAt C H r a i ∧ SqL K H a (nv ms) ∧ Q (.bl (decide (i < ms.length))) H
theorem scMore : FnScope ["self"] ["self"] (defScope rMore) := ⟨rfl, rfl, rfl, by decide +kernel, rfl, by decide +kernel, by decide +kernel⟩
theorem ok_more {f C : Addr} {fd : FuncData} (F : Fun K "has_more" "Reader.has_more" rMore f fd) (B : Bn mg) (T : TxtR K C) : FnOk P w K mg base CX0 1 f fd ["self"] (spMore C K) := by
  refine F.ok scMore (fun vs H Q E h => ?_) (fun cdv A outer s H vs Q E hr h => ?_)
  · obtain ⟨r, a, i, ms, rfl, _⟩ := h
    rfl
  · obtain ⟨r, a, i, ms, rfl, ⟨dx, hp⟩, ha, k⟩ := h
    refine ⟨_, pss_one (ps_ret (pe_cmpR op_lt (pe_fld (pv 0) rfl) (pe_callB call_len_seq (by rfl) B.len PySem.boot_len (pa_cons (pe_fld (pv 0) rfl) pa_nil)) (nomark _))), ?_⟩
    refine ⟨_, rfl, r, C, dx, _, _, rfl, hp, T.cl, T.nP, rF_place _ _, _, rfl, r, C, dx, _, _, rfl, hp, T.cl, T.nC, rF_calls _ _, a, _, rfl, .inl ha, _, _, rfl, rfl, ?_⟩
    have e : decide ((i : Int) < (((nv ms).length : Nat) : Int)) = decide (i < ms.length) := by
      rw [nv_len, Bool.eq_iff_iff, decide_eq_true_iff, decide_eq_true_iff]
      omega
    show Q (.bl (decide ((i : Int) < (((nv ms).length : Nat) : Int)))) _
    rw [e]
    exact k
def spTake (C : Addr) (K : PySem.W.Frag) : Sp := fun vs H Q _ => ∃ (r a : Addr) (i n : Nat) (ms : List Nat), vs = [.ref r, .int (n : Int)] ∧ ReadAt C H r a i ∧ SqL K H a (nv ms) ∧
  ∀ (H' : Hp) (q : Addr), ReadAt C H' r a (i + n) → SameBut r H H' → H q = none → H' q = some (.lst (nv ((ms.drop i).take n))) → Q (.ref q) H'
theorem scTake : FnScope ["self", "many", "first"] ["self", "many"] (defScope rTake) := ⟨rfl, rfl, rfl, by decide +kernel, rfl, by decide +kernel, by decide +kernel⟩
theorem ok_take {f C : Addr} {fd : FuncData} (F : Fun K "take" "Reader.take" rTake f fd) (T : TxtR K C) : FnOk P w K mg base CX0 1 f fd ["self", "many"] (spTake C K) := by
  refine F.ok scTake (fun vs H Q E h => ?_) (fun cdv A outer s H vs Q E hr h => ?_)
  · obtain ⟨r, a, i, n, ms, rfl, _⟩ := h
    rfl
  · obtain ⟨r, a, i, n, ms, rfl, ⟨dx, hp⟩, ha, k⟩ := h
    refine ⟨_, pss_cons (ps_set (i := 2) scTake.nd rfl (.inl rfl) (pe_fld (pv 0) rfl)) (pss_cons (ps_fld (pv 0) (pe_op op_add (pv 2) (pv 1)) rfl)
      (pss_one (ps_ret (pe_slice sl_list (pe_fld (pv 0) rfl) (po_some (pv 2)) (po_some (pe_fld (pv 0) rfl)))))), ?_⟩
    refine ⟨_, rfl, r, C, dx, _, _, rfl, hp, T.cl, T.nP, rF_place _ _, ?_⟩
    refine ⟨_, rfl, _, rfl, _, _, rfl, rfl, _, rfl, r, C, dx, _, rfl, hp, T.cl, T.nP, (by show 2 < 1000; decide), ?_⟩
    have e : (i : Int) + (n : Int) = ((i + n : Nat) : Int) := by omega
    generalize hF : putF (Str.ofString "place") _ (rF a i) = Fs
    have eF : Fs = rF a (i + n) := by
      rw [← hF]
      show putF "place" (V.int ((i : Int) + (n : Int))) (rF a i) = _
      rw [e, rF_put]
    subst eF
    have sb : SameBut r H (upd H r (.ins C dx (rF a (i + n)))) := SameBut.put
    refine ⟨_, rfl, r, C, dx, _, _, rfl, upd_same, T.cl, T.nC, rF_calls _ _, _, rfl, _, rfl, _, rfl, r, C, dx, _, _, rfl, upd_same, T.cl, T.nP, rF_place _ _, _, rfl, a, _, rfl, sb.seq hp ha, fun q nq => ?_⟩
    rw [cut_nat]
    have nqr : q ≠ r := (ne_of_none upd_same nq).symm
    refine k _ q ⟨dx, (upd_ne nqr.symm).trans upd_same⟩ (sb.trans (SameBut.of (same_new nq))) (sb.free nqr nq) ?_
    rw [upd_same]
    unfold nv
    rw [List.map_take, List.map_drop]
def spOne (C : Addr) (K : PySem.W.Frag) : Sp := fun vs H Q _ => ∃ (r a : Addr) (i c : Nat) (ms : List Nat), vs = [.ref r] ∧ ReadAt C H r a i ∧ SqL K H a (nv ms) ∧ ms[i]? = some c ∧
  ∀ H' : Hp, ReadAt C H' r a (i + 1) → SameBut r H H' → Q (.int (c : Int)) H'
theorem scOne : FnScope ["self"] ["self"] (defScope rOne) := ⟨rfl, rfl, rfl, by decide +kernel, rfl, by decide +kernel, by decide +kernel⟩
theorem ok_one {f C : Addr} {fd : FuncData} (F : Fun K "take_one" "Reader.take_one" rOne f fd) (MT : Mt P w K mg base C 1 "take" ["self", "many"] (spTake C K)) : FnOk P w K mg base CX0 2 f fd ["self"] (spOne C K) := by
  refine F.ok scOne (fun vs H Q E h => ?_) (fun cdv A outer s H vs Q E hr h => ?_)
  · obtain ⟨r, a, i, c, ms, rfl, _⟩ := h
    rfl
  · obtain ⟨r, a, i, c, ms, rfl, ⟨dx, hp⟩, ha, hc, k⟩ := h
    refine ⟨_, pss_one (ps_ret (pe_ix ix_list (MT.pe (pv 0) hr (by decide) (pa_cons pe_int pa_nil)) pe_int (fun _ _ => rfl))), ?_⟩
    refine ⟨_, rfl, r, dx, _, rfl, hp, rF_no _ _ (by decide +kernel) (by decide +kernel), r, a, i, 1, ms, rfl, ⟨dx, hp⟩, ha, fun H1 q R1 sb nq hq => ?_⟩
    refine ⟨q, _, _, _, rfl, rfl, SqL.of hq, at_nat (i := 0) (v := .int (c : Int)) ?_, k _ R1 sb⟩
    refine nv_get ?_
    rw [List.getElem?_take, if_pos (by decide), List.getElem?_drop]
    exact hc
/-- the rows stand at these addresses -/
def RowsAt (H : Hp) (qs : List Addr) (ys : List (List Nat)) : Prop := qs.length = ys.length ∧ ∀ (j : Nat) (q : Addr) (y : List Nat), qs[j]? = some q → ys[j]? = some y → H q = some (.lst (nv y))
def spRows (C : Addr) (K : PySem.W.Frag) : Sp := fun vs H Q _ => ∃ (r a : Addr) (i : Nat) (ms : List Nat) (ys : List (List Nat)) (t : List Nat), vs = [.ref r, .int ((ys.length : Nat) : Int)] ∧ ReadAt C H r a i ∧ SqL K H a (nv ms) ∧ RowsN (ms.drop i) ys t ∧ ys.length ≤ 10 ∧
  ∀ (H' : Hp) (q : Addr) (qs : List Addr) (i' : Nat), ReadAt C H' r a i' → ms.drop i' = t → SameBut r H H' → H q = none → H' q = some (.lst (qs.map V.ref)) → RowsAt H' qs ys → (∀ b ∈ qs, H b = Option.none) → Q (.ref q) H'
theorem scRows : FnScope ["self", "many", "turn"] ["self", "many"] (defScope rRows) := ⟨rfl, rfl, rfl, by decide +kernel, rfl, by decide +kernel, by decide +kernel⟩
theorem ok_rows {f C : Addr} {fd : FuncData} (F : Fun K "take_rows" "Reader.take_rows" rRows f fd) (B : Bn mg) (MT : Mt P w K mg base C 1 "take" ["self", "many"] (spTake C K)) (MO : Mt P w K mg base C 2 "take_one" ["self"] (spOne C K)) : FnOk P w K mg base CX0 3 f fd ["self", "many"] (spRows C K) := by
  refine F.ok scRows (fun vs H Q E h => ?_) (fun cdv A outer s H vs Q E hr h => ?_)
  · obtain ⟨r, a, i, ms, ys, t, rfl, _⟩ := h
    rfl
  · obtain ⟨r, a, i, ms, ys, t, rfl, ⟨dx, hp⟩, ha, hR, hn, k⟩ := h
    refine ⟨_, pss_one (ps_ret (pe_lc (own := [("turn", 2)]) (g := gName 2) (tt := tYes) (te := tMeth C "take" (spTake C K) [] E0 (tVar 0) (tCons (tMeth C "take_one" (spOne C K) [] E0 (tVar 0) tNil) tNil)) rfl scRows.nd
      (pi_range1 (by rfl) B.range (pa_cons (pv 1) pa_nil)) (blkOk_by (own := [("turn", 2)]) (N := ["self", "many", "turn"]) (sc := defScope rRows) (by decide +kernel))
      (fun _ _ _ _ _ => pg_name (i := 2) scRows.nd rfl (Or.inl rfl)) (fun _ _ _ _ _ => pts_nil) (fun _ _ _ _ _ => MT.pe (pv 0) hr (by decide) (pa_cons (MO.pe0 (pv 0) hr (by decide)) pa_nil)))), ?_⟩
    refine ⟨_, rfl, _, rfl, by omega, by omega, ?_⟩
    rw [Int.toNat_natCast]
    intro D hD
    have hrD : r ≠ D := ne_of_none hp hD
    refine lc_range (lo := 0) (n := ys.length) (fun j H' => ∃ (i' : Nat) (qs : List Addr), ReadAt C H' r a i' ∧ RowsN (ms.drop i') (ys.drop j) t ∧ SameBut r H H' ∧ H' D = some (.lst (qs.map V.ref)) ∧ RowsAt H' qs (ys.take j) ∧ (∀ b ∈ qs, H b = Option.none ∧ b ≠ D))
      ⟨i, [], ⟨dx, (upd_ne hrD).trans hp⟩, hR, SameBut.of (same_new hD), upd_same, ⟨rfl, fun j q y h => by simp at h⟩, fun b hb => absurd hb List.not_mem_nil⟩ ?_ ?_
    · rintro j H1 hj ⟨i', qs, ⟨dx1, hp1⟩, hR1, sb1, hD1, hQ1, hf1⟩
      obtain ⟨y, hy⟩ : ∃ y, ys[j]? = some y := ⟨_, List.getElem?_eq_getElem hj⟩
      have ey : ys.drop j = y :: ys.drop (j + 1) := by
        rw [List.drop_eq_getElem_cons hj]
        rw [List.getElem?_eq_getElem hj] at hy
        rw [Option.some.inj hy]
      rw [ey] at hR1
      cases e : ms.drop i' with
      | nil =>
        rw [e] at hR1
        cases hR1
      | cons z r1 =>
        rw [e] at hR1
        cases hR1 with
        | cons hz hR2 =>
          have hz1 : ms[i']? = some z := by
            have := congrArg (fun l : List Nat => l[0]?) e
            simpa using this
          have e1 : ms.drop (i' + 1) = r1 := by
            rw [← List.drop_drop, e]
            rfl
          have no1 : ∀ i'', (rF a i'').lookup ("take" : Str) = none := fun _ => rF_no _ _ (by decide +kernel) (by decide +kernel)
          have no2 : ∀ i'', (rF a i'').lookup ("take_one" : Str) = none := fun _ => rF_no _ _ (by decide +kernel) (by decide +kernel)
          have ha1 := sb1.seq hp ha
          refine ⟨rfl, _, rfl, r, dx1, _, rfl, hp1, no1 _, _, rfl, r, dx1, _, rfl, hp1, no2 _, r, a, i', z, ms, rfl, ⟨dx1, hp1⟩, ha1, hz1, fun H2 R2 sb2 => ?_⟩
          have ha2 := sb2.seq hp1 ha1
          refine ⟨r, a, i' + 1, z, ms, rfl, R2, ha2, fun H3 q R3 sb3 nq hq => ?_⟩
          obtain ⟨dx2, hp2⟩ := R2
          have sb13 := sb2.trans sb3
          have hDr : D ≠ r := hrD.symm
          have hD3 : H3 D = some (.lst (qs.map V.ref)) := sb13 _ _ hD1 hDr
          have nqr : q ≠ r := (ne_of_none hp2 nq).symm
          have nq1 : H1 q = Option.none := sb2.free nqr nq
          have nqD : q ≠ D := (ne_of_none hD1 nq1).symm
          have nq0 : H q = Option.none := sb1.free nqr nq1
          obtain ⟨dx3, hp3⟩ := R3
          rw [e1] at hq
          refine ⟨_, hD3, line_lt ?_, i' + 1 + z, qs ++ [q], ⟨dx3, (upd_ne hrD).trans hp3⟩, ?_, ?_, ?_, ?_, ?_⟩
          · rw [List.length_map, hQ1.1, List.length_take]
            omega
          · rw [← List.drop_drop, e1]
            exact hR2
          · exact fun b o eb nb => by
              rw [upd_ne (ne_of_none eb hD)]
              exact (sb1.trans sb13) b o eb nb
          · rw [upd_same, List.map_append]
            rfl
          · refine ⟨?_, fun j2 q2 y2 h1 h2 => ?_⟩
            · rw [List.length_append, hQ1.1, List.length_take, List.length_take, List.length_singleton]
              omega
            · by_cases c : j2 < qs.length
              · rw [List.getElem?_append_left c] at h1
                have hq2 := hf1 q2 (List.mem_of_getElem? h1)
                have lq := hQ1.1
                rw [List.length_take] at lq
                rw [List.getElem?_take, if_pos (by omega)] at h2
                have h3 := hQ1.2 j2 q2 y2 h1 (by rw [List.getElem?_take, if_pos (by omega)]; exact h2)
                rw [upd_ne hq2.2]
                exact sb13 _ _ h3 (fun ee => by
                  have := hq2.1
                  rw [ee, hp] at this
                  cases this)
              · have cj : j2 = qs.length := by
                  have := (List.getElem?_eq_some_iff.mp h1).1
                  rw [List.length_append, List.length_singleton] at this
                  omega
                have lq := hQ1.1
                rw [List.length_take] at lq
                have cj2 : j2 = j := by omega
                rw [cj, List.getElem?_append_right (Nat.le_refl _), Nat.sub_self] at h1
                cases h1
                rw [List.getElem?_take, if_pos (by omega), cj2, hy] at h2
                cases h2
                rw [upd_ne nqD]
                exact hq
          · intro b hb
            rcases List.mem_append.mp hb with h | h
            · exact hf1 b h
            · rw [List.mem_singleton.mp h]
              exact ⟨nq0, nqD⟩
    · rintro H1 ⟨i', qs, R1, hR1, sb1, hD1, hQ1, hf1⟩
      rw [List.drop_of_length_le (Nat.le_refl _)] at hR1
      rw [List.take_length] at hQ1
      refine k _ D qs i' R1 ?_ sb1 hD hD1 hQ1 (fun b hb => (hf1 b hb).1)
      generalize ms.drop i' = u at hR1 ⊢
      cases hR1
      rfl
end
end Gs
end
section
set_option maxRecDepth 100000
set_option maxHeartbeats 4000000
namespace Gs
open PySem L2
/-! ## all the calls -/
section
variable {P : Program} {w : World} {K : PySem.W.Frag} {mg : Str → Option Value} {base : Heap}
/-- one call, by its number, its whole numbers, its rows -/
def spAnswer (C : Addr) (K : PySem.W.Frag) : Sp := fun vs H Q _ => ∃ (p gv nb rw : Addr) (x : Option Krct.Glued) (c : Nat) (xs : List Nat) (ys : List (List Nat)) (qs : List Addr) (cl : Krct.Call), vs = [.ref p, .int (c : Int), .ref nb, .ref rw] ∧ SurfAt C K gv H p x ∧ (∃ o, H gv = some o) ∧
  CallN c xs ys cl ∧ H nb = some (.lst (nv xs)) ∧ H rw = some (.lst (qs.map V.ref)) ∧ RowsAt H qs ys ∧ (∀ b ∈ qs, b ≠ gv) ∧ Post C K gv H p x cl Q
/-- the table of the calls' shapes -/
structure Sh (K : PySem.W.Frag) (mg : Str → Option Value) : Prop where
  ex : ∃ (a : Addr) (ts : List Addr), mg "SHAPES" = some (.ref a) ∧ (∀ H, SqT K H a (ts.map V.ref)) ∧ ∀ (c n k : Nat), shapes[c]? = some (n, k) → ∃ t, ts[c]? = some t ∧ ∀ H, SqT K H t [.int (n : Int), .int (k : Int)]
def spAnswers (K : PySem.W.Frag) : Sp := fun vs H Q _ => ∃ (a : Addr) (ns : List Int), vs = [.ref a] ∧ SqL K H a (ns.map V.int) ∧ (∀ x ∈ ns, 0 ≤ x) ∧ PyKrct.answers_asked ns = true ∧
  ∀ (H' : Hp) (p : Addr), H' p = some (.lst ((PyKrct.answers ns).map V.int)) → Q (.ref p) H'
theorem up_of {ns : List Int} (h : ∀ x ∈ ns, 0 ≤ x) : ns = up (ns.map Int.toNat) := by
  rw [up, List.map_map]
  induction ns with
  | nil => rfl
  | cons x xs ih =>
    rw [List.map_cons, ← ih (fun y hy => h y (List.mem_cons_of_mem _ hy))]
    have := h x List.mem_cons_self
    congr 1
    show x = Int.ofNat x.toNat
    simp only [Int.ofNat_eq_natCast]
    omega
theorem none_any {C gv gv' p : Addr} {H : Hp} (S : SurfAt C K gv H p none) : SurfAt C K gv' H p none := by
  obtain ⟨dx, wa, hp, _⟩ := S.ex
  exact ⟨dx, wa, hp, fun g e => by cases e⟩
theorem scAnswers : FnScope ["calls", "reader", "surface", "given", "call", "shape", "numbers", "rows"] ["calls"] (defScope sAnswers) := ⟨rfl, rfl, rfl, by decide +kernel, rfl, by decide +kernel, by decide +kernel⟩
theorem drop_cons {ms : List Nat} {i : Nat} (h : i < ms.length) : ∃ c r, ms[i]? = some c ∧ ms.drop i = c :: r ∧ ms.drop (i + 1) = r :=
  ⟨_, _, List.getElem?_eq_getElem h, List.drop_eq_getElem_cons h, rfl⟩
theorem rowsN_len : ∀ {u : List Nat} {ys : List (List Nat)} {t : List Nat}, RowsN u ys t → t.length ≤ u.length
  | _, _, _, .nil r => Nat.le_refl _
  | _, _, _, .cons hz h => by
    have := rowsN_len h
    rw [List.length_drop] at this
    rw [List.length_cons]
    omega
theorem ok_answers {f C CR fI fR : Addr} {fd fdI fdR : FuncData} (F : Fun K "answers" "answers" sAnswers f fd) (S0 : Sh K mg) (gS : mg "Surface" = some (.ref C)) (gR : mg "Reader" = some (.ref CR)) (MS : Mk K C fI) (MR : Mk K CR fR)
    (GI : FnOk P w K mg base CX0 1 fI fdI ["self"] (spInit C K)) (bI : Binds K fdI ["self"] []) (GR : FnOk P w K mg base CX0 1 fR fdR ["self", "calls"] (spRInit CR)) (bR : Binds K fdR ["self", "calls"] [])
    (MM : Mt P w K mg base CR 1 "has_more" ["self"] (spMore CR K)) (MO : Mt P w K mg base CR 2 "take_one" ["self"] (spOne CR K)) (MT : Mt P w K mg base CR 1 "take" ["self", "many"] (spTake CR K)) (MW : Mt P w K mg base CR 3 "take_rows" ["self", "many"] (spRows CR K))
    (DC : Dn P w K mg base 1 "counted" ["numbers"] spCounted) (DA : Dn P w K mg base 7 "answer" ["surface", "call", "numbers", "rows"] (spAnswer C K)) : FnOk P w K mg base CX0 9 f fd ["calls"] (spAnswers K) := by
  refine F.ok scAnswers (fun vs H Q E h => ?_) (fun cdv A outer s H vs Q E hr h => ?_)
  · obtain ⟨a, ns, rfl, _⟩ := h
    rfl
  · obtain ⟨a, ns, rfl, ha0, hpos, hask, k⟩ := h
    obtain ⟨ash, ts, mS, hS, hT⟩ := S0.ex
    refine ⟨_, pss_cons (ps_set (i := 1) scAnswers.nd rfl (.inl rfl) (pe_make MR GR (hr.mono (by decide)) rfl gR bR .nil pass0 (pa_cons (pv 0) pa_nil)))
      (pss_cons (ps_set (i := 2) scAnswers.nd rfl (.inl rfl) (pe_make0 MS GI (hr.mono (by decide)) rfl gS bI .nil pass0))
      (pss_cons (ps_set (i := 3) scAnswers.nd rfl (.inl rfl) (pe_lst pa_nil))
      (pss_cons (ps_while PassesOwn.never (pt_val (MM.pe0 (pv 1) hr (by decide)))
        (pss_cons (ps_set (i := 4) scAnswers.nd rfl (.inl rfl) (MO.pe0 (pv 1) hr (by decide)))
        (pss_cons (ps_set (i := 5) scAnswers.nd rfl (.inl rfl) (pe_ix ix_tup (pe_glob (v := .ref ash) rfl mS rfl) (pv 4) (fun _ _ => rfl)))
        (pss_cons (ps_set (i := 6) scAnswers.nd rfl (.inl rfl) (MT.pe (pv 1) hr (by decide) (pa_cons (pe_ix ix_tup (pv 5) pe_int (fun _ _ => rfl)) pa_nil)))
        (pss_cons (ps_set (i := 7) scAnswers.nd rfl (.inl rfl) (MW.pe (pv 1) hr (by decide) (pa_cons (pe_ix ix_tup (pv 5) pe_int (fun _ _ => rfl)) pa_nil)))
        (pss_one (ps_expr (pe_bm PySem.F.plainAttrs_list PySem.F.slot_list_extend PySem.F.type_list_extend mt_extend (pv 3) (pa_cons (DC.pe hr (by decide) rfl (pa_cons (DA.pe hr (by decide) rfl (pa_cons (pv 2) (pa_cons (pv 4) (pa_cons (pv 6) (pa_cons (pv 7) pa_nil))))) pa_nil)) pa_nil)))))))))
      (pss_one (ps_ret (pv 3)))))), ?_⟩
    have eu := up_of hpos
    obtain ⟨pl0, lim⟩ := Play.start eu hask
    generalize hms : ns.map Int.toNat = ms at eu pl0
    have ha : SqL K H a (nv ms) := by
      rw [nv_ints, ← up, ← eu]
      exact ha0
    refine ⟨_, rfl, ?_⟩
    intro r dxr nr ndr ner
    have s0 : Same H (upd (upd H dxr (.own r)) r (.ins CR dxr [])) := (same_new ndr).trans (same_new ((upd_ne ner.symm).trans nr))
    refine ⟨r, dxr, a, rfl, upd_same, fun H1 R1 sb1 => ⟨rfl, ?_⟩⟩
    have s1 : Same H H1 := sb1.same s0 nr
    intro p dxp np ndp nep
    have s2 : Same H1 (upd (upd H1 dxp (.own p)) p (.ins C dxp [])) := (same_new ndp).trans (same_new ((upd_ne nep.symm).trans np))
    refine ⟨p, dxp, p, rfl, upd_same, fun H2 S2 sb2 => ⟨rfl, ?_⟩⟩
    have s12 : Same H1 H2 := sb2.same s2 np
    refine ⟨line_le (by show 0 ≤ _; decide), fun gv ng => ?_⟩
    have hnp : H p = Option.none := s1.free np
    have hng : H gv = Option.none := (s1.trans s12).free ng
    have s3 : Same H (upd H2 gv (.lst [])) := (s1.trans s12).trans (same_new ng)
    obtain ⟨dxr1, hr1⟩ := id R1
    have hpr : p ≠ r := (ne_of_none hr1 np).symm
    have hgr : gv ≠ r := (ne_of_none (s12 _ _ hr1) ng).symm
    have hgp : gv ≠ p := by
      obtain ⟨_, _, hp2, _⟩ := S2.ex
      exact (ne_of_none hp2 ng).symm
    refine ⟨fun m σ H' => ∃ (i : Nat) (x : Option Krct.Glued) (out : List Int) (v4 v5 v6 v7 : Option V), m = ms.length - i ∧ σ = [some (.ref a), some (.ref r), some (.ref p), some (.ref gv), v4, v5, v6, v7] ∧ Same H H' ∧ ReadAt CR H' r a i ∧ SurfAt C K gv H' p x ∧ H' gv = some (.lst (iv out)) ∧ Play (PyKrct.answers ns) (ms.drop i) x out,
      ⟨_, 0, none, [], none, none, none, none, rfl, rfl, s3, ?_, ?_, upd_same, pl0⟩, ?_⟩
    · obtain ⟨dx, h⟩ := R1
      exact ⟨dx, same_new ng _ _ (s12 _ _ h)⟩
    · exact none_any (S2.same (same_new ng))
    rintro m σ H3 ⟨i, x, out, v4, v5, v6, v7, rfl, rfl, s4, ⟨dx, hr3⟩, S3, hg3, pl⟩
    refine ⟨_, rfl, r, dx, _, rfl, hr3, rF_no _ _ (by decide +kernel) (by decide +kernel), r, a, i, ms, rfl, ⟨dx, hr3⟩, s4.seq ha, _, rfl, ?_⟩
    by_cases c : i < ms.length
    · refine ifT (decide_eq_true c) ?_
      refine ⟨_, fun _ _ h => h, ?_⟩
      obtain ⟨c0, r0, hc0, hd0, hd1⟩ := drop_cons c
      rw [hd0] at pl
      obtain ⟨n, kk, ys, t, cl, hsh, hn, hR, hyl, hC, pl2⟩ := pl.turn
      obtain ⟨tt, htt, hTT⟩ := hT c0 n kk hsh
      subst hyl
      have hk10 : ys.length ≤ 10 := by
        have all : ∀ q ∈ shapes, q.2 ≤ 10 := by decide
        exact all _ (List.mem_of_getElem? hsh)
      have gts : (ts.map V.ref)[c0]? = some (.ref tt) := by
        rw [List.getElem?_map, htt]
        rfl
      -- call = reader.take_one()
      refine ⟨_, rfl, r, dx, _, rfl, hr3, rF_no _ _ (by decide +kernel) (by decide +kernel), r, a, i, c0, ms, rfl, ⟨dx, hr3⟩, s4.seq ha, hc0, fun H4 R4 sb4 => ?_⟩
      have S4 := S3.but sb4 hr3 hpr
      have hg4 := sb4 _ _ hg3 hgr
      have s5 : Same H H4 := sb4.same s4 nr
      -- shape = SHAPES[call]
      refine ⟨_, rfl, ash, _, _, _, rfl, rfl, hS _, at_nat gts, ?_⟩
      -- numbers = reader.take(shape[0])
      obtain ⟨dx4, hr4⟩ := R4
      refine ⟨_, rfl, r, dx4, _, rfl, hr4, rF_no _ _ (by decide +kernel) (by decide +kernel), _, rfl, tt, _, _, _, rfl, rfl, hTT _, at_nat (i := 0) rfl, r, a, i + 1, n, ms, rfl, ⟨dx4, hr4⟩, s5.seq ha, fun H5 q5 R5 sb5 nq5 hq5 => ?_⟩
      have S5 := S4.but sb5 hr4 hpr
      have hg5 := sb5 _ _ hg4 hgr
      have s6 : Same H H5 := sb5.same s5 nr
      have n5r : q5 ≠ r := (ne_of_none hr4 nq5).symm
      rw [hd1] at hq5
      -- rows = reader.take_rows(shape[1])
      obtain ⟨dx5, hr5⟩ := R5
      refine ⟨_, rfl, r, dx5, _, rfl, hr5, rF_no _ _ (by decide +kernel) (by decide +kernel), _, rfl, tt, _, _, _, rfl, rfl, hTT _, at_nat (i := 1) rfl, r, a, i + 1 + n, ms, ys, t, rfl, ⟨dx5, hr5⟩, s6.seq ha, by rw [← List.drop_drop, hd1]; exact hR, hk10, fun H6 q6 qs i' R6 ht sb6 nq6 hq6 hrows hfresh => ?_⟩
      have S6 := S5.but sb6 hr5 hpr
      have hg6 := sb6 _ _ hg5 hgr
      have s7 : Same H H6 := sb6.same s6 nr
      -- given.extend(counted(answer(surface, call, numbers, rows)))
      refine ⟨_, rfl, .inl ⟨rfl, _, SqL.of hg6⟩, _, rfl, _, rfl, _, rfl, _, rfl, p, gv, q5, q6, x, c0, r0.take n, ys, qs, cl, rfl, S6, ⟨_, hg6⟩, hC, sb6 _ _ hq5 n5r, hq6, hrows, fun b hb => (ne_of_none hg5 (hfresh b hb)).symm, fun H7 q7 S7 sb7 nq7 hq7 => ?_⟩
      have hg7 := sb7 _ _ hg6 hgp
      have plen := pl2.len
      rw [List.length_append, List.length_cons] at plen
      refine ⟨q7, _, rfl, hq7, by rw [iv, List.length_map]; omega, fun H8 q8 s8 nq8 hq8 => ?_⟩
      have hg8 := s8 _ _ hg7
      refine ⟨gv, q8, _, _, rfl, rfl, hg8, hq8, line_le ?_, ?_⟩
      · rw [List.length_cons, iv, iv, List.length_map, List.length_map]
        omega
      have htl := rowsN_len hR
      rw [List.length_drop] at htl
      have hil : (ms.drop i').length = t.length := by rw [ht]
      rw [List.length_drop] at hil
      have hml := congrArg List.length hd0
      rw [List.length_drop, List.length_cons] at hml
      refine ⟨ms.length - i', by omega, i', _, _, _, _, _, _, rfl, rfl, ?_, ?_, ?_, ?_, by rw [ht]; exact pl2⟩
      · exact same_put (s8 |> fun q => (sb7.same s7 hnp).trans q) hng
      · obtain ⟨dx6, hr6⟩ := R6
        exact ⟨dx6, (upd_ne hgr.symm).trans (s8 _ _ (sb7 _ _ hr6 hpr.symm))⟩
      · exact (S7.same s8).put hgp.symm
      · rw [upd_same]
        unfold iv
        rw [List.map_append, List.map_cons, List.length_map]
    · refine ifF (decide_eq_false c) ?_
      rw [List.drop_of_length_le (by omega)] at pl
      refine ⟨_, rfl, k _ gv ?_⟩
      rw [hg3, pl.done]
      rfl
end
end Gs
end
section
set_option maxRecDepth 100000
set_option maxHeartbeats 4000000
namespace Gs
open PySem L2
section
variable {P : Program} {w : World} {K : PySem.W.Frag} {mg : Str → Option Value} {base : Heap}
theorem eqT {a b : Int} (h : a = b) : decide (V.int a = V.int b) = true := decide_eq_true (congrArg _ h)
theorem eqF {a b : Int} (h : a ≠ b) : decide (V.int a = V.int b) = false := decide_eq_false fun e => h (V.int.inj e)
theorem RowsAt.at1 {H : Hp} {qs : List Addr} {l : List Nat} (h : RowsAt H qs [l]) : ∃ a, qs = [a] ∧ H a = some (.lst (nv l)) := by
  obtain ⟨a, rfl⟩ := len1 h.1
  exact ⟨a, rfl, h.2 0 a l rfl rfl⟩
theorem RowsAt.at2 {H : Hp} {qs : List Addr} {l k : List Nat} (h : RowsAt H qs [l, k]) : ∃ a b, qs = [a, b] ∧ H a = some (.lst (nv l)) ∧ H b = some (.lst (nv k)) := by
  obtain ⟨a, b, rfl⟩ := len2 h.1
  exact ⟨a, b, rfl, h.2 0 a l rfl rfl, h.2 1 b k rfl rfl⟩
theorem SurfAt.ins {C gv p : Addr} {H : Hp} {x : Option Krct.Glued} (S : SurfAt C K gv H p x) : ∃ dx wa, H p = some (.ins C dx (sF (sizeOf x) wa)) := by
  obtain ⟨dx, wa, hp, _⟩ := S.ex
  exact ⟨dx, wa, hp⟩
theorem act_none {cl : Krct.Call} {c : Nat} {xs : List Nat} {ys : List (List Nat)} (h : CallN c xs ys cl) (hc : c ≠ 0) : Krct.act none cl = (none, Krct.say (-11)) := by
  cases h <;> first | rfl | exact absurd rfl hc
theorem scAnswer : FnScope ["surface", "call", "numbers", "rows"] ["surface", "call", "numbers", "rows"] (defScope sAnswer) := ⟨rfl, rfl, rfl, by decide +kernel, rfl, by decide +kernel, by decide +kernel⟩
theorem ok_answer {f C : Addr} {fd : FuncData} (F : Fun K "answer" "answer" sAnswer f fd) (T : TxtS K C) (N : Cn K mg) (MB : Mt P w K mg base C 3 "begin" ["self", "size"] (spBegin C K)) (MG : Mt P w K mg base C 4 "glue" ["self", "east", "north"] (spGlue C K)) (MGo : Mt P w K mg base C 2 "go" ["self", "square", "step"] (spGo C K))
    (MW : Mt P w K mg base C 2 "walk" ["self", "square", "steps"] (spWalk C K)) (MCs : Mt P w K mg base C 4 "corners" ["self"] (spCorners C K)) (MC : Mt P w K mg base C 3 "corner" ["self", "square"] (spCorner C K)) (MH : Mt P w K mg base C 4 "holes" ["self"] (spHoles C K)) (MN : Mt P w K mg base C 6 "name" ["self"] (spName C K))
    (MSa : Mt P w K mg base C 6 "same" ["self", "east", "north"] (spSame C K)) (MSe : Mt P w K mg base C 5 "selves" ["self"] (spSelves C K)) (MRe : Mt P w K mg base C 3 "rename" ["self", "order"] (spRename C K)) (MRo : Mt P w K mg base C 4 "rows" ["self"] (spRowsM C K)) (MCo : Mt P w K mg base C 4 "columns" ["self"] (spCols C K))
    (MNe : Mt P w K mg base C 3 "near" ["self", "start", "goal"] (spNear C K)) (MSt : Mt P w K mg base C 1 "state" ["self"] (spState C K)) :
    FnOk P w K mg base CX0 7 f fd ["surface", "call", "numbers", "rows"] (spAnswer C K) := by
  refine F.ok scAnswer (fun vs H Q E h => ?_) (fun cdv A outer s H vs Q E hr h => ?_)
  · obtain ⟨p, gv, nb, rw, x, c, xs, ys, qs, cl, rfl, _⟩ := h
    rfl
  · obtain ⟨p, gv, nb, rw, x, c, xs, ys, qs, cl, rfl, S, hg, hC, hnb, hrw, hrows, hqs, k⟩ := h
    obtain ⟨u0, m0⟩ := N.cBegin
    obtain ⟨u1, m1⟩ := N.cGlue
    obtain ⟨u2, m2⟩ := N.cGo
    obtain ⟨u3, m3⟩ := N.cWalk
    obtain ⟨u4, m4⟩ := N.cCorners
    obtain ⟨u5, m5⟩ := N.cCorner
    obtain ⟨u6, m6⟩ := N.cHoles
    obtain ⟨u7, m7⟩ := N.cName
    obtain ⟨u8, m8⟩ := N.notBegun
    obtain ⟨v8, n8⟩ := N.cSame
    obtain ⟨v9, n9⟩ := N.cSelves
    obtain ⟨v10, n10⟩ := N.cRename
    obtain ⟨v11, n11⟩ := N.cRows
    obtain ⟨v12, n12⟩ := N.cColumns
    obtain ⟨v13, n13⟩ := N.cNear
    refine ⟨_, pss_cons (ps_if (pt_cmpR op_eq (pv 1) (pe_glob (v := .int 0) rfl m0 ⟨_, rfl⟩) (nomark _)) (pss_one (ps_ret (MB.pe (pv 0) hr (by decide) (pa_cons (pe_ix ix_list (pv 2) pe_int (fun _ _ => rfl)) pa_nil)))) pss_nil)
      (pss_cons (ps_if (pt_cmpR op_eq (pe_fld (pv 0) rfl) pe_int (nomark _)) (pss_one (ps_ret (pe_lst (pa_cons (pe_glob (v := .int (-11)) rfl m8 ⟨_, rfl⟩) pa_nil)))) pss_nil)
      (pss_cons (ps_if (pt_cmpR op_eq (pv 1) (pe_glob (v := .int 1) rfl m1 ⟨_, rfl⟩) (nomark _)) (pss_one (ps_ret (MG.pe (pv 0) hr (by decide) (pa_cons (pe_ix ix_list (pv 3) pe_int (fun _ _ => rfl)) (pa_cons (pe_ix ix_list (pv 3) pe_int (fun _ _ => rfl)) pa_nil))))) pss_nil)
      (pss_cons (ps_if (pt_cmpR op_eq (pv 1) (pe_glob (v := .int 2) rfl m2 ⟨_, rfl⟩) (nomark _)) (pss_one (ps_ret (MGo.pe (pv 0) hr (by decide) (pa_cons (pe_ix ix_list (pv 2) pe_int (fun _ _ => rfl)) (pa_cons (pe_ix ix_list (pv 2) pe_int (fun _ _ => rfl)) pa_nil))))) pss_nil)
      (pss_cons (ps_if (pt_cmpR op_eq (pv 1) (pe_glob (v := .int 3) rfl m3 ⟨_, rfl⟩) (nomark _)) (pss_one (ps_ret (MW.pe (pv 0) hr (by decide) (pa_cons (pe_ix ix_list (pv 2) pe_int (fun _ _ => rfl)) (pa_cons (pe_ix ix_list (pv 3) pe_int (fun _ _ => rfl)) pa_nil))))) pss_nil)
      (pss_cons (ps_if (pt_cmpR op_eq (pv 1) (pe_glob (v := .int 4) rfl m4 ⟨_, rfl⟩) (nomark _)) (pss_one (ps_ret (MCs.pe0 (pv 0) hr (by decide)))) pss_nil)
      (pss_cons (ps_if (pt_cmpR op_eq (pv 1) (pe_glob (v := .int 5) rfl m5 ⟨_, rfl⟩) (nomark _)) (pss_one (ps_ret (MC.pe (pv 0) hr (by decide) (pa_cons (pe_ix ix_list (pv 2) pe_int (fun _ _ => rfl)) pa_nil)))) pss_nil)
      (pss_cons (ps_if (pt_cmpR op_eq (pv 1) (pe_glob (v := .int 6) rfl m6 ⟨_, rfl⟩) (nomark _)) (pss_one (ps_ret (MH.pe0 (pv 0) hr (by decide)))) pss_nil)
      (pss_cons (ps_if (pt_cmpR op_eq (pv 1) (pe_glob (v := .int 7) rfl m7 ⟨_, rfl⟩) (nomark _)) (pss_one (ps_ret (MN.pe0 (pv 0) hr (by decide)))) pss_nil)
      (pss_cons (ps_if (pt_cmpR op_eq (pv 1) (pe_glob (v := .int 8) rfl n8 ⟨_, rfl⟩) (nomark _)) (pss_one (ps_ret (MSa.pe (pv 0) hr (by decide) (pa_cons (pe_ix ix_list (pv 3) pe_int (fun _ _ => rfl)) (pa_cons (pe_ix ix_list (pv 3) pe_int (fun _ _ => rfl)) pa_nil))))) pss_nil)
      (pss_cons (ps_if (pt_cmpR op_eq (pv 1) (pe_glob (v := .int 9) rfl n9 ⟨_, rfl⟩) (nomark _)) (pss_one (ps_ret (MSe.pe0 (pv 0) hr (by decide)))) pss_nil)
      (pss_cons (ps_if (pt_cmpR op_eq (pv 1) (pe_glob (v := .int 10) rfl n10 ⟨_, rfl⟩) (nomark _)) (pss_one (ps_ret (MRe.pe (pv 0) hr (by decide) (pa_cons (pe_ix ix_list (pv 3) pe_int (fun _ _ => rfl)) pa_nil)))) pss_nil)
      (pss_cons (ps_if (pt_cmpR op_eq (pv 1) (pe_glob (v := .int 11) rfl n11 ⟨_, rfl⟩) (nomark _)) (pss_one (ps_ret (MRo.pe0 (pv 0) hr (by decide)))) pss_nil)
      (pss_cons (ps_if (pt_cmpR op_eq (pv 1) (pe_glob (v := .int 12) rfl n12 ⟨_, rfl⟩) (nomark _)) (pss_one (ps_ret (MCo.pe0 (pv 0) hr (by decide)))) pss_nil)
      (pss_cons (ps_if (pt_cmpR op_eq (pv 1) (pe_glob (v := .int 13) rfl n13 ⟨_, rfl⟩) (nomark _)) (pss_one (ps_ret (MNe.pe (pv 0) hr (by decide) (pa_cons (pe_ix ix_list (pv 2) pe_int (fun _ _ => rfl)) (pa_cons (pe_ix ix_list (pv 2) pe_int (fun _ _ => rfl)) pa_nil))))) pss_nil)
      (pss_one (ps_ret (MSt.pe0 (pv 0) hr (by decide)))))))))))))))))), ?_⟩
    obtain ⟨dx, wa, hp⟩ := S.ins
    by_cases c0 : c = 0
    · subst c0
      refine ⟨_, rfl, rfl, _, rfl, ?_⟩
      refine ifT (eqT rfl) ?_
      cases hC with
      | begin_ n =>
        exact ⟨_, rfl, p, dx, _, rfl, hp, sF_no _ _ (by decide +kernel) (by decide +kernel), _, rfl, nb, _, _, _, rfl, rfl, SqL.of hnb, at_nat (i := 0) rfl, p, gv, x, n, rfl, S, hg, k⟩
    · refine ⟨_, rfl, rfl, _, rfl, ?_⟩
      refine ifF (eqF (by omega)) ?_
      refine ⟨_, rfl, p, C, dx, _, _, rfl, hp, T.cl, T.nS, sF_size _ _, rfl, _, rfl, ?_⟩
      cases x with
      | none =>
        refine ifT (eqT rfl) ?_
        refine ⟨line_le (by show 1 ≤ _; decide), fun q nq => ?_⟩
        exact k.done (act_none hC c0) S (SameBut.of (Same.refl _)) nq rfl
      | some g =>
        obtain ⟨_, _, _, hw⟩ := S.ex
        have h0 := (hw g rfl).2.h0
        refine ifF (eqF (by show ((g.n : Nat) : Int) ≠ 0; omega)) ?_
        have mt : ∀ m : Str, (m == ("size" : Str)) = false → (m == ("ways" : Str)) = false → (sF (sizeOf (some g)) wa).lookup m = none := fun m a b => sF_no _ _ a b
        cases hC with
        | begin_ n => exact absurd rfl c0
        | glue l m =>
          obtain ⟨a, b, rfl, ha, hb⟩ := hrows.at2
          refine ⟨_, rfl, rfl, _, rfl, ifT (eqT rfl) ?_⟩
          exact ⟨_, rfl, p, dx, _, rfl, hp, mt _ (by decide +kernel) (by decide +kernel), _, rfl, rw, _, _, _, rfl, rfl, SqL.of hrw, at_nat (i := 0) rfl, _, rfl, rw, _, _, _, rfl, rfl, SqL.of hrw, at_nat (i := 1) rfl, p, gv, a, b, g, l, m, rfl, S, ha, hb, hqs a (by simp), hqs b (by simp), hg, k⟩
        | go z d =>
          refine ⟨_, rfl, rfl, _, rfl, ifF (eqF (by decide)) ?_⟩
          refine ⟨_, rfl, rfl, _, rfl, ifT (eqT rfl) ?_⟩
          exact ⟨_, rfl, p, dx, _, rfl, hp, mt _ (by decide +kernel) (by decide +kernel), _, rfl, nb, _, _, _, rfl, rfl, SqL.of hnb, at_nat (i := 0) rfl, _, rfl, nb, _, _, _, rfl, rfl, SqL.of hnb, at_nat (i := 1) rfl, p, gv, g, z, d, rfl, S, k⟩
        | walk z l =>
          obtain ⟨a, rfl, ha⟩ := hrows.at1
          refine ⟨_, rfl, rfl, _, rfl, ifF (eqF (by decide)) ?_⟩
          refine ⟨_, rfl, rfl, _, rfl, ifF (eqF (by decide)) ?_⟩
          refine ⟨_, rfl, rfl, _, rfl, ifT (eqT rfl) ?_⟩
          exact ⟨_, rfl, p, dx, _, rfl, hp, mt _ (by decide +kernel) (by decide +kernel), _, rfl, nb, _, _, _, rfl, rfl, SqL.of hnb, at_nat (i := 0) rfl, _, rfl, rw, _, _, _, rfl, rfl, SqL.of hrw, at_nat (i := 0) rfl, p, gv, a, g, z, l, rfl, S, SqL.of ha, k⟩
        | corners =>
          iterate 3 refine ⟨_, rfl, rfl, _, rfl, ifF (eqF (by decide)) ?_⟩
          refine ⟨_, rfl, rfl, _, rfl, ifT (eqT rfl) ?_⟩
          exact ⟨_, rfl, p, dx, _, rfl, hp, mt _ (by decide +kernel) (by decide +kernel), p, gv, g, rfl, S, k⟩
        | corner z =>
          iterate 4 refine ⟨_, rfl, rfl, _, rfl, ifF (eqF (by decide)) ?_⟩
          refine ⟨_, rfl, rfl, _, rfl, ifT (eqT rfl) ?_⟩
          exact ⟨_, rfl, p, dx, _, rfl, hp, mt _ (by decide +kernel) (by decide +kernel), _, rfl, nb, _, _, _, rfl, rfl, SqL.of hnb, at_nat (i := 0) rfl, p, gv, g, z, rfl, S, k⟩
        | holes =>
          iterate 5 refine ⟨_, rfl, rfl, _, rfl, ifF (eqF (by decide)) ?_⟩
          refine ⟨_, rfl, rfl, _, rfl, ifT (eqT rfl) ?_⟩
          exact ⟨_, rfl, p, dx, _, rfl, hp, mt _ (by decide +kernel) (by decide +kernel), p, gv, g, rfl, S, k⟩
        | name =>
          iterate 6 refine ⟨_, rfl, rfl, _, rfl, ifF (eqF (by decide)) ?_⟩
          refine ⟨_, rfl, rfl, _, rfl, ifT (eqT rfl) ?_⟩
          exact ⟨_, rfl, p, dx, _, rfl, hp, mt _ (by decide +kernel) (by decide +kernel), p, gv, g, rfl, S, k⟩
        | same l m =>
          obtain ⟨a, b, rfl, ha, hb⟩ := hrows.at2
          iterate 7 refine ⟨_, rfl, rfl, _, rfl, ifF (eqF (by decide)) ?_⟩
          refine ⟨_, rfl, rfl, _, rfl, ifT (eqT rfl) ?_⟩
          exact ⟨_, rfl, p, dx, _, rfl, hp, mt _ (by decide +kernel) (by decide +kernel), _, rfl, rw, _, _, _, rfl, rfl, SqL.of hrw, at_nat (i := 0) rfl, _, rfl, rw, _, _, _, rfl, rfl, SqL.of hrw, at_nat (i := 1) rfl, p, gv, a, b, g, l, m, rfl, S, ha, hb, k⟩
        | selves =>
          iterate 8 refine ⟨_, rfl, rfl, _, rfl, ifF (eqF (by decide)) ?_⟩
          refine ⟨_, rfl, rfl, _, rfl, ifT (eqT rfl) ?_⟩
          exact ⟨_, rfl, p, dx, _, rfl, hp, mt _ (by decide +kernel) (by decide +kernel), p, gv, g, rfl, S, k⟩
        | rename l =>
          obtain ⟨a, rfl, ha⟩ := hrows.at1
          iterate 9 refine ⟨_, rfl, rfl, _, rfl, ifF (eqF (by decide)) ?_⟩
          refine ⟨_, rfl, rfl, _, rfl, ifT (eqT rfl) ?_⟩
          exact ⟨_, rfl, p, dx, _, rfl, hp, mt _ (by decide +kernel) (by decide +kernel), _, rfl, rw, _, _, _, rfl, rfl, SqL.of hrw, at_nat (i := 0) rfl, p, gv, a, g, l, rfl, S, SqL.of ha, hg, k⟩
        | rows =>
          iterate 10 refine ⟨_, rfl, rfl, _, rfl, ifF (eqF (by decide)) ?_⟩
          refine ⟨_, rfl, rfl, _, rfl, ifT (eqT rfl) ?_⟩
          exact ⟨_, rfl, p, dx, _, rfl, hp, mt _ (by decide +kernel) (by decide +kernel), p, gv, g, rfl, S, k⟩
        | columns =>
          iterate 11 refine ⟨_, rfl, rfl, _, rfl, ifF (eqF (by decide)) ?_⟩
          refine ⟨_, rfl, rfl, _, rfl, ifT (eqT rfl) ?_⟩
          exact ⟨_, rfl, p, dx, _, rfl, hp, mt _ (by decide +kernel) (by decide +kernel), p, gv, g, rfl, S, k⟩
        | near z t =>
          iterate 12 refine ⟨_, rfl, rfl, _, rfl, ifF (eqF (by decide)) ?_⟩
          refine ⟨_, rfl, rfl, _, rfl, ifT (eqT rfl) ?_⟩
          exact ⟨_, rfl, p, dx, _, rfl, hp, mt _ (by decide +kernel) (by decide +kernel), _, rfl, nb, _, _, _, rfl, rfl, SqL.of hnb, at_nat (i := 0) rfl, _, rfl, nb, _, _, _, rfl, rfl, SqL.of hnb, at_nat (i := 1) rfl, p, gv, g, z, t, rfl, S, k⟩
        | state =>
          iterate 13 refine ⟨_, rfl, rfl, _, rfl, ifF (eqF (by decide)) ?_⟩
          exact ⟨_, rfl, p, dx, _, rfl, hp, mt _ (by decide +kernel) (by decide +kernel), p, gv, g, rfl, S, k⟩
end
end Gs
end
set_option maxRecDepth 100000
set_option maxHeartbeats 8000000
namespace Gs
open PySem L2
theorem tup_at {K : PySem.W.Frag} {a : Addr} {od : Option Addr} {its : Array Value} {n : Nat} {sl : Array (Option Value)} {xs : List V} (h : K.lookup a = some ⟨.type "tuple", od, .seq its n, sl⟩) (hs : its.size ≤ sizeLine) (hv : Vals xs its.toList) (H : Hp) : SqT K H a xs := .inr ⟨_, its, n, h, rfl, rfl, hs, hv⟩
theorem pair_at {K : PySem.W.Frag} {a : Addr} {od : Option Addr} {x y : Int} {tx ty : Tok} {n : Nat} {sl : Array (Option Value)} (h : K.lookup a = some ⟨.type "tuple", od, .seq #[.int x tx, .int y ty] n, sl⟩) (H : Hp) : SqT K H a [.int x, .int y] :=
  tup_at (xs := [.int x, .int y]) h (line_le (by show 2 ≤ _; decide)) (.cons ⟨tx, rfl⟩ (.cons ⟨ty, rfl⟩ .nil)) H
theorem all_mk {P : Program} {w : World} {K : PySem.W.Frag} {h : Heap} {mg : Str → Option Value} {fa : Addr} (X : K.In h) (G : h.Ns mainGlobals mg) (hfa : mg "answers" = some (.ref fa))
    {C : Addr} (aC : PySem.W.nsIn K mainGlobals "Surface" = some (some (.ref C))) (pgC : PySem.W.plainGet K C Str.empty = true) (hdC : PySem.W.hasDictIn K C = true) (poC : PySem.W.plainOver K C = true) (saC : PySem.W.findIn K (.ref C) "__setattr__" = some (some (.builtin "object.__setattr__"))) (mkC : PySem.W.makesIn K C = true) (kcC : PySem.W.keepIn K (.ref C) = true) (nC0 : PySem.W.findIn K (.ref C) "size" = some none) (nC1 : PySem.W.findIn K (.ref C) "ways" = some none)
    {CR : Addr} (aCR : PySem.W.nsIn K mainGlobals "Reader" = some (some (.ref CR))) (pgCR : PySem.W.plainGet K CR Str.empty = true) (hdCR : PySem.W.hasDictIn K CR = true) (poCR : PySem.W.plainOver K CR = true) (saCR : PySem.W.findIn K (.ref CR) "__setattr__" = some (some (.builtin "object.__setattr__"))) (mkCR : PySem.W.makesIn K CR = true) (kcCR : PySem.W.keepIn K (.ref CR) = true) (nCR0 : PySem.W.findIn K (.ref CR) "calls" = some none) (nCR1 : PySem.W.findIn K (.ref CR) "place" = some none)
    (z_len : PySem.W.nsIn K mainGlobals "len" = some none)
    (z_enumerate : PySem.W.nsIn K mainGlobals "enumerate" = some none)
    (z_range : PySem.W.nsIn K mainGlobals "range" = some none)
    (z_list : PySem.W.nsIn K mainGlobals "list" = some none)
    (z_sorted : PySem.W.nsIn K mainGlobals "sorted" = some none)
    (z_min : PySem.W.nsIn K mainGlobals "min" = some none)
    (z_max : PySem.W.nsIn K mainGlobals "max" = some none)
    {t_EAST : Tok} (v_EAST : PySem.W.nsIn K mainGlobals "EAST" = some (some (.int (0) t_EAST)))
    {t_NORTH : Tok} (v_NORTH : PySem.W.nsIn K mainGlobals "NORTH" = some (some (.int (1) t_NORTH)))
    {t_NO_SQUARE : Tok} (v_NO_SQUARE : PySem.W.nsIn K mainGlobals "NO_SQUARE" = some (some (.int (-2) t_NO_SQUARE)))
    {t_NOT_BEGUN : Tok} (v_NOT_BEGUN : PySem.W.nsIn K mainGlobals "NOT_BEGUN" = some (some (.int (-11) t_NOT_BEGUN)))
    {t_NOT_RIGHT : Tok} (v_NOT_RIGHT : PySem.W.nsIn K mainGlobals "NOT_RIGHT" = some (some (.int (-22) t_NOT_RIGHT)))
    {t_NOT_TOGETHER : Tok} (v_NOT_TOGETHER : PySem.W.nsIn K mainGlobals "NOT_TOGETHER" = some (some (.int (-33) t_NOT_TOGETHER)))
    {t_MOST_SQUARES : Tok} (v_MOST_SQUARES : PySem.W.nsIn K mainGlobals "MOST_SQUARES" = some (some (.int (6) t_MOST_SQUARES)))
    {t_MOST_STEPS : Tok} (v_MOST_STEPS : PySem.W.nsIn K mainGlobals "MOST_STEPS" = some (some (.int (30) t_MOST_STEPS)))
    {t_LAST_STEP : Tok} (v_LAST_STEP : PySem.W.nsIn K mainGlobals "LAST_STEP" = some (some (.int (3) t_LAST_STEP)))
    {t_BEGIN : Tok} (v_BEGIN : PySem.W.nsIn K mainGlobals "BEGIN" = some (some (.int (0) t_BEGIN)))
    {t_GLUE : Tok} (v_GLUE : PySem.W.nsIn K mainGlobals "GLUE" = some (some (.int (1) t_GLUE)))
    {t_GO : Tok} (v_GO : PySem.W.nsIn K mainGlobals "GO" = some (some (.int (2) t_GO)))
    {t_WALK : Tok} (v_WALK : PySem.W.nsIn K mainGlobals "WALK" = some (some (.int (3) t_WALK)))
    {t_CORNERS : Tok} (v_CORNERS : PySem.W.nsIn K mainGlobals "CORNERS" = some (some (.int (4) t_CORNERS)))
    {t_CORNER : Tok} (v_CORNER : PySem.W.nsIn K mainGlobals "CORNER" = some (some (.int (5) t_CORNER)))
    {t_HOLES : Tok} (v_HOLES : PySem.W.nsIn K mainGlobals "HOLES" = some (some (.int (6) t_HOLES)))
    {t_NAME : Tok} (v_NAME : PySem.W.nsIn K mainGlobals "NAME" = some (some (.int (7) t_NAME)))
    {t_SAME : Tok} (v_SAME : PySem.W.nsIn K mainGlobals "SAME" = some (some (.int (8) t_SAME)))
    {t_SELVES : Tok} (v_SELVES : PySem.W.nsIn K mainGlobals "SELVES" = some (some (.int (9) t_SELVES)))
    {t_RENAME : Tok} (v_RENAME : PySem.W.nsIn K mainGlobals "RENAME" = some (some (.int (10) t_RENAME)))
    {t_ROWS : Tok} (v_ROWS : PySem.W.nsIn K mainGlobals "ROWS" = some (some (.int (11) t_ROWS)))
    {t_COLUMNS : Tok} (v_COLUMNS : PySem.W.nsIn K mainGlobals "COLUMNS" = some (some (.int (12) t_COLUMNS)))
    {t_NEAR : Tok} (v_NEAR : PySem.W.nsIn K mainGlobals "NEAR" = some (some (.int (13) t_NEAR)))
    {aO : Addr} {odO : Option Addr} {slO : Array (Option Value)} {nO : Nat} {tO0 tO1 tO2 tO3 : Tok} (vO : PySem.W.nsIn K mainGlobals "ONCE_ROUND" = some (some (.ref aO))) (lO : K.lookup aO = some ⟨.type "tuple", odO, .seq #[.int 0 tO0, .int 1 tO1, .int 2 tO2, .int 3 tO3] nO, slO⟩)
    {aR : Addr} {odR : Option Addr} {slR : Array (Option Value)} {nR : Nat} {tR0 : Tok} (vR : PySem.W.nsIn K mainGlobals "ALONG_ROW" = some (some (.ref aR))) (lR : K.lookup aR = some ⟨.type "tuple", odR, .seq #[.int 0 tR0] nR, slR⟩)
    {aL : Addr} {odL : Option Addr} {slL : Array (Option Value)} {nL : Nat} {tL0 : Tok} (vL : PySem.W.nsIn K mainGlobals "ALONG_COLUMN" = some (some (.ref aL))) (lL : K.lookup aL = some ⟨.type "tuple", odL, .seq #[.int 1 tL0] nL, slL⟩)
    {aS : Addr} {odS : Option Addr} {slS : Array (Option Value)} {nS : Nat} {s0 s1 s2 s3 s4 s5 s6 s7 s8 s9 s10 s11 s12 s13 s14 : Addr} (vS : PySem.W.nsIn K mainGlobals "SHAPES" = some (some (.ref aS))) (lS : K.lookup aS = some ⟨.type "tuple", odS, .seq #[.ref s0, .ref s1, .ref s2, .ref s3, .ref s4, .ref s5, .ref s6, .ref s7, .ref s8, .ref s9, .ref s10, .ref s11, .ref s12, .ref s13, .ref s14] nS, slS⟩)
    {odS0 : Option Addr} {slS0 : Array (Option Value)} {nS0 : Nat} {tx0 ty0 : Tok} (lS0 : K.lookup s0 = some ⟨.type "tuple", odS0, .seq #[.int 1 tx0, .int 0 ty0] nS0, slS0⟩)
    {odS1 : Option Addr} {slS1 : Array (Option Value)} {nS1 : Nat} {tx1 ty1 : Tok} (lS1 : K.lookup s1 = some ⟨.type "tuple", odS1, .seq #[.int 0 tx1, .int 2 ty1] nS1, slS1⟩)
    {odS2 : Option Addr} {slS2 : Array (Option Value)} {nS2 : Nat} {tx2 ty2 : Tok} (lS2 : K.lookup s2 = some ⟨.type "tuple", odS2, .seq #[.int 2 tx2, .int 0 ty2] nS2, slS2⟩)
    {odS3 : Option Addr} {slS3 : Array (Option Value)} {nS3 : Nat} {tx3 ty3 : Tok} (lS3 : K.lookup s3 = some ⟨.type "tuple", odS3, .seq #[.int 1 tx3, .int 1 ty3] nS3, slS3⟩)
    {odS4 : Option Addr} {slS4 : Array (Option Value)} {nS4 : Nat} {tx4 ty4 : Tok} (lS4 : K.lookup s4 = some ⟨.type "tuple", odS4, .seq #[.int 0 tx4, .int 0 ty4] nS4, slS4⟩)
    {odS5 : Option Addr} {slS5 : Array (Option Value)} {nS5 : Nat} {tx5 ty5 : Tok} (lS5 : K.lookup s5 = some ⟨.type "tuple", odS5, .seq #[.int 1 tx5, .int 0 ty5] nS5, slS5⟩)
    {odS6 : Option Addr} {slS6 : Array (Option Value)} {nS6 : Nat} {tx6 ty6 : Tok} (lS6 : K.lookup s6 = some ⟨.type "tuple", odS6, .seq #[.int 0 tx6, .int 0 ty6] nS6, slS6⟩)
    {odS7 : Option Addr} {slS7 : Array (Option Value)} {nS7 : Nat} {tx7 ty7 : Tok} (lS7 : K.lookup s7 = some ⟨.type "tuple", odS7, .seq #[.int 0 tx7, .int 0 ty7] nS7, slS7⟩)
    {odS8 : Option Addr} {slS8 : Array (Option Value)} {nS8 : Nat} {tx8 ty8 : Tok} (lS8 : K.lookup s8 = some ⟨.type "tuple", odS8, .seq #[.int 0 tx8, .int 2 ty8] nS8, slS8⟩)
    {odS9 : Option Addr} {slS9 : Array (Option Value)} {nS9 : Nat} {tx9 ty9 : Tok} (lS9 : K.lookup s9 = some ⟨.type "tuple", odS9, .seq #[.int 0 tx9, .int 0 ty9] nS9, slS9⟩)
    {odS10 : Option Addr} {slS10 : Array (Option Value)} {nS10 : Nat} {tx10 ty10 : Tok} (lS10 : K.lookup s10 = some ⟨.type "tuple", odS10, .seq #[.int 0 tx10, .int 1 ty10] nS10, slS10⟩)
    {odS11 : Option Addr} {slS11 : Array (Option Value)} {nS11 : Nat} {tx11 ty11 : Tok} (lS11 : K.lookup s11 = some ⟨.type "tuple", odS11, .seq #[.int 0 tx11, .int 0 ty11] nS11, slS11⟩)
    {odS12 : Option Addr} {slS12 : Array (Option Value)} {nS12 : Nat} {tx12 ty12 : Tok} (lS12 : K.lookup s12 = some ⟨.type "tuple", odS12, .seq #[.int 0 tx12, .int 0 ty12] nS12, slS12⟩)
    {odS13 : Option Addr} {slS13 : Array (Option Value)} {nS13 : Nat} {tx13 ty13 : Tok} (lS13 : K.lookup s13 = some ⟨.type "tuple", odS13, .seq #[.int 2 tx13, .int 0 ty13] nS13, slS13⟩)
    {odS14 : Option Addr} {slS14 : Array (Option Value)} {nS14 : Nat} {tx14 ty14 : Tok} (lS14 : K.lookup s14 = some ⟨.type "tuple", odS14, .seq #[.int 0 tx14, .int 0 ty14] nS14, slS14⟩)
    {f1 : Addr} {od1 an1 : Option Addr} {sl1 : Array (Option Value)} {oc1 kV1 dc1 pm1 cd1 ct1 : Value}
    (a1 : PySem.W.nsIn K mainGlobals "turned_back" = some (some (.ref f1))) (l1 : K.lookup f1 = some ⟨oc1, od1, .func (PySem.W.fnOf "turned_back" "turned_back" (defArgs sTurned) (defBody sTurned) (defScope sTurned) .none kV1 dc1 pm1 an1 cd1 ct1), sl1⟩) (c1 : PySem.W.codeIn K cd1 "turned_back" = true) (k1 : PySem.W.keepIn K (.ref f1) = true)
    {f2 : Addr} {od2 an2 : Option Addr} {sl2 : Array (Option Value)} {oc2 kV2 dc2 pm2 cd2 ct2 : Value}
    (a2 : PySem.W.nsIn K mainGlobals "order_from" = some (some (.ref f2))) (l2 : K.lookup f2 = some ⟨oc2, od2, .func (PySem.W.fnOf "order_from" "order_from" (defArgs sOrder) (defBody sOrder) (defScope sOrder) .none kV2 dc2 pm2 an2 cd2 ct2), sl2⟩) (c2 : PySem.W.codeIn K cd2 "order_from" = true) (k2 : PySem.W.keepIn K (.ref f2) = true)
    {f3 : Addr} {od3 an3 : Option Addr} {sl3 : Array (Option Value)} {oc3 kV3 dc3 pm3 cd3 ct3 : Value}
    (a3 : PySem.W.nsIn K mainGlobals "hang_together" = some (some (.ref f3))) (l3 : K.lookup f3 = some ⟨oc3, od3, .func (PySem.W.fnOf "hang_together" "hang_together" (defArgs sHang) (defBody sHang) (defScope sHang) .none kV3 dc3 pm3 an3 cd3 ct3), sl3⟩) (c3 : PySem.W.codeIn K cd3 "hang_together" = true) (k3 : PySem.W.keepIn K (.ref f3) = true)
    {f4 : Addr} {od4 an4 : Option Addr} {sl4 : Array (Option Value)} {oc4 kV4 dc4 pm4 cd4 ct4 : Value}
    (a4 : PySem.W.nsIn K mainGlobals "renamed" = some (some (.ref f4))) (l4 : K.lookup f4 = some ⟨oc4, od4, .func (PySem.W.fnOf "renamed" "renamed" (defArgs sRenamed) (defBody sRenamed) (defScope sRenamed) .none kV4 dc4 pm4 an4 cd4 ct4), sl4⟩) (c4 : PySem.W.codeIn K cd4 "renamed" = true) (k4 : PySem.W.keepIn K (.ref f4) = true)
    {f5 : Addr} {od5 an5 : Option Addr} {sl5 : Array (Option Value)} {oc5 kV5 dc5 pm5 cd5 ct5 : Value}
    (a5 : PySem.W.nsIn K mainGlobals "renamed_from" = some (some (.ref f5))) (l5 : K.lookup f5 = some ⟨oc5, od5, .func (PySem.W.fnOf "renamed_from" "renamed_from" (defArgs sRenFrom) (defBody sRenFrom) (defScope sRenFrom) .none kV5 dc5 pm5 an5 cd5 ct5), sl5⟩) (c5 : PySem.W.codeIn K cd5 "renamed_from" = true) (k5 : PySem.W.keepIn K (.ref f5) = true)
    {f6 : Addr} {od6 an6 : Option Addr} {sl6 : Array (Option Value)} {oc6 kV6 dc6 pm6 cd6 ct6 : Value}
    (a6 : PySem.W.nsIn K mainGlobals "counted" = some (some (.ref f6))) (l6 : K.lookup f6 = some ⟨oc6, od6, .func (PySem.W.fnOf "counted" "counted" (defArgs sCounted) (defBody sCounted) (defScope sCounted) .none kV6 dc6 pm6 an6 cd6 ct6), sl6⟩) (c6 : PySem.W.codeIn K cd6 "counted" = true) (k6 : PySem.W.keepIn K (.ref f6) = true)
    {f7 : Addr} {od7 an7 : Option Addr} {sl7 : Array (Option Value)} {oc7 kV7 dc7 pm7 cd7 ct7 : Value}
    (a7 : PySem.W.nsIn K mainGlobals "led_by" = some (some (.ref f7))) (l7 : K.lookup f7 = some ⟨oc7, od7, .func (PySem.W.fnOf "led_by" "led_by" (defArgs sLed) (defBody sLed) (defScope sLed) .none kV7 dc7 pm7 an7 cd7 ct7), sl7⟩) (c7 : PySem.W.codeIn K cd7 "led_by" = true) (k7 : PySem.W.keepIn K (.ref f7) = true)
    {f8 : Addr} {od8 an8 : Option Addr} {sl8 : Array (Option Value)} {oc8 kV8 dc8 pm8 cd8 ct8 : Value}
    (a8 : PySem.W.nsIn K mainGlobals "squares_round" = some (some (.ref f8))) (l8 : K.lookup f8 = some ⟨oc8, od8, .func (PySem.W.fnOf "squares_round" "squares_round" (defArgs sRound) (defBody sRound) (defScope sRound) .none kV8 dc8 pm8 an8 cd8 ct8), sl8⟩) (c8 : PySem.W.codeIn K cd8 "squares_round" = true) (k8 : PySem.W.keepIn K (.ref f8) = true)
    {f9 : Addr} {od9 an9 : Option Addr} {sl9 : Array (Option Value)} {oc9 kV9 dc9 pm9 cd9 ct9 : Value}
    (a9 : PySem.W.nsIn K mainGlobals "round_sizes" = some (some (.ref f9))) (l9 : K.lookup f9 = some ⟨oc9, od9, .func (PySem.W.fnOf "round_sizes" "round_sizes" (defArgs sSizes) (defBody sSizes) (defScope sSizes) .none kV9 dc9 pm9 an9 cd9 ct9), sl9⟩) (c9 : PySem.W.codeIn K cd9 "round_sizes" = true) (k9 : PySem.W.keepIn K (.ref f9) = true)
    {f10 : Addr} {od10 an10 : Option Addr} {sl10 : Array (Option Value)} {oc10 kV10 dc10 pm10 cd10 ct10 : Value}
    (a10 : PySem.W.nsIn K mainGlobals "tells_all_once" = some (some (.ref f10))) (l10 : K.lookup f10 = some ⟨oc10, od10, .func (PySem.W.fnOf "tells_all_once" "tells_all_once" (defArgs sTells) (defBody sTells) (defScope sTells) .none kV10 dc10 pm10 an10 cd10 ct10), sl10⟩) (c10 : PySem.W.codeIn K cd10 "tells_all_once" = true) (k10 : PySem.W.keepIn K (.ref f10) = true)
    {f11 : Addr} {od11 an11 : Option Addr} {sl11 : Array (Option Value)} {oc11 kV11 dc11 pm11 cd11 ct11 : Value}
    (a11 : PySem.W.nsIn K mainGlobals "names_by_orders" = some (some (.ref f11))) (l11 : K.lookup f11 = some ⟨oc11, od11, .func (PySem.W.fnOf "names_by_orders" "names_by_orders" (defArgs sNames) (defBody sNames) (defScope sNames) .none kV11 dc11 pm11 an11 cd11 ct11), sl11⟩) (c11 : PySem.W.codeIn K cd11 "names_by_orders" = true) (k11 : PySem.W.keepIn K (.ref f11) = true)
    {f12 : Addr} {od12 an12 : Option Addr} {sl12 : Array (Option Value)} {oc12 kV12 dc12 pm12 cd12 ct12 : Value}
    (a12 : PySem.W.nsIn K mainGlobals "least_name" = some (some (.ref f12))) (l12 : K.lookup f12 = some ⟨oc12, od12, .func (PySem.W.fnOf "least_name" "least_name" (defArgs sLeast) (defBody sLeast) (defScope sLeast) .none kV12 dc12 pm12 an12 cd12 ct12), sl12⟩) (c12 : PySem.W.codeIn K cd12 "least_name" = true) (k12 : PySem.W.keepIn K (.ref f12) = true)
    {f13 : Addr} {od13 an13 : Option Addr} {sl13 : Array (Option Value)} {oc13 kV13 dc13 pm13 cd13 ct13 : Value}
    (a13 : PySem.W.nsIn K mainGlobals "gluing_fault" = some (some (.ref f13))) (l13 : K.lookup f13 = some ⟨oc13, od13, .func (PySem.W.fnOf "gluing_fault" "gluing_fault" (defArgs sFault) (defBody sFault) (defScope sFault) .none kV13 dc13 pm13 an13 cd13 ct13), sl13⟩) (c13 : PySem.W.codeIn K cd13 "gluing_fault" = true) (k13 : PySem.W.keepIn K (.ref f13) = true)
    {f14 : Addr} {od14 an14 : Option Addr} {sl14 : Array (Option Value)} {oc14 kV14 dc14 pm14 cd14 ct14 : Value}
    (a14 : PySem.W.nsIn K mainGlobals "with_neighbours" = some (some (.ref f14))) (l14 : K.lookup f14 = some ⟨oc14, od14, .func (PySem.W.fnOf "with_neighbours" "with_neighbours" (defArgs sWith) (defBody sWith) (defScope sWith) .none kV14 dc14 pm14 an14 cd14 ct14), sl14⟩) (c14 : PySem.W.codeIn K cd14 "with_neighbours" = true) (k14 : PySem.W.keepIn K (.ref f14) = true)
    {f15 : Addr} {od15 an15 : Option Addr} {sl15 : Array (Option Value)} {oc15 kV15 dc15 pm15 cd15 ct15 : Value}
    (a15 : PySem.W.nsIn K mainGlobals "fewest_steps" = some (some (.ref f15))) (l15 : K.lookup f15 = some ⟨oc15, od15, .func (PySem.W.fnOf "fewest_steps" "fewest_steps" (defArgs sFewest) (defBody sFewest) (defScope sFewest) .none kV15 dc15 pm15 an15 cd15 ct15), sl15⟩) (c15 : PySem.W.codeIn K cd15 "fewest_steps" = true) (k15 : PySem.W.keepIn K (.ref f15) = true)
    {f16 : Addr} {od16 an16 : Option Addr} {sl16 : Array (Option Value)} {oc16 kV16 dc16 pm16 cd16 ct16 : Value}
    (a16 : PySem.W.findIn K (.ref C) "__init__" = some (some (.ref f16))) (i16 : PySem.W.isFn K (.ref f16) = true) (l16 : K.lookup f16 = some ⟨oc16, od16, .func (PySem.W.fnOf "__init__" "Surface.__init__" (defArgs sInit) (defBody sInit) (defScope sInit) .none kV16 dc16 pm16 an16 cd16 ct16), sl16⟩) (c16 : PySem.W.codeIn K cd16 "Surface.__init__" = true) (k16 : PySem.W.keepIn K (.ref f16) = true)
    {f17 : Addr} {od17 an17 : Option Addr} {sl17 : Array (Option Value)} {oc17 kV17 dc17 pm17 cd17 ct17 : Value}
    (a17 : PySem.W.findIn K (.ref C) "lay" = some (some (.ref f17))) (i17 : PySem.W.isFn K (.ref f17) = true) (l17 : K.lookup f17 = some ⟨oc17, od17, .func (PySem.W.fnOf "lay" "Surface.lay" (defArgs sLay) (defBody sLay) (defScope sLay) .none kV17 dc17 pm17 an17 cd17 ct17), sl17⟩) (c17 : PySem.W.codeIn K cd17 "Surface.lay" = true) (k17 : PySem.W.keepIn K (.ref f17) = true)
    {f18 : Addr} {od18 an18 : Option Addr} {sl18 : Array (Option Value)} {oc18 kV18 dc18 pm18 cd18 ct18 : Value}
    (a18 : PySem.W.findIn K (.ref C) "begin" = some (some (.ref f18))) (i18 : PySem.W.isFn K (.ref f18) = true) (l18 : K.lookup f18 = some ⟨oc18, od18, .func (PySem.W.fnOf "begin" "Surface.begin" (defArgs sBegin) (defBody sBegin) (defScope sBegin) .none kV18 dc18 pm18 an18 cd18 ct18), sl18⟩) (c18 : PySem.W.codeIn K cd18 "Surface.begin" = true) (k18 : PySem.W.keepIn K (.ref f18) = true)
    {f19 : Addr} {od19 an19 : Option Addr} {sl19 : Array (Option Value)} {oc19 kV19 dc19 pm19 cd19 ct19 : Value}
    (a19 : PySem.W.findIn K (.ref C) "glue" = some (some (.ref f19))) (i19 : PySem.W.isFn K (.ref f19) = true) (l19 : K.lookup f19 = some ⟨oc19, od19, .func (PySem.W.fnOf "glue" "Surface.glue" (defArgs sGlue) (defBody sGlue) (defScope sGlue) .none kV19 dc19 pm19 an19 cd19 ct19), sl19⟩) (c19 : PySem.W.codeIn K cd19 "Surface.glue" = true) (k19 : PySem.W.keepIn K (.ref f19) = true)
    {f20 : Addr} {od20 an20 : Option Addr} {sl20 : Array (Option Value)} {oc20 kV20 dc20 pm20 cd20 ct20 : Value}
    (a20 : PySem.W.findIn K (.ref C) "go" = some (some (.ref f20))) (i20 : PySem.W.isFn K (.ref f20) = true) (l20 : K.lookup f20 = some ⟨oc20, od20, .func (PySem.W.fnOf "go" "Surface.go" (defArgs sGo) (defBody sGo) (defScope sGo) .none kV20 dc20 pm20 an20 cd20 ct20), sl20⟩) (c20 : PySem.W.codeIn K cd20 "Surface.go" = true) (k20 : PySem.W.keepIn K (.ref f20) = true)
    {f21 : Addr} {od21 an21 : Option Addr} {sl21 : Array (Option Value)} {oc21 kV21 dc21 pm21 cd21 ct21 : Value}
    (a21 : PySem.W.findIn K (.ref C) "walk" = some (some (.ref f21))) (i21 : PySem.W.isFn K (.ref f21) = true) (l21 : K.lookup f21 = some ⟨oc21, od21, .func (PySem.W.fnOf "walk" "Surface.walk" (defArgs sWalkM) (defBody sWalkM) (defScope sWalkM) .none kV21 dc21 pm21 an21 cd21 ct21), sl21⟩) (c21 : PySem.W.codeIn K cd21 "Surface.walk" = true) (k21 : PySem.W.keepIn K (.ref f21) = true)
    {f22 : Addr} {od22 an22 : Option Addr} {sl22 : Array (Option Value)} {oc22 kV22 dc22 pm22 cd22 ct22 : Value}
    (a22 : PySem.W.findIn K (.ref C) "corners" = some (some (.ref f22))) (i22 : PySem.W.isFn K (.ref f22) = true) (l22 : K.lookup f22 = some ⟨oc22, od22, .func (PySem.W.fnOf "corners" "Surface.corners" (defArgs sCornersM) (defBody sCornersM) (defScope sCornersM) .none kV22 dc22 pm22 an22 cd22 ct22), sl22⟩) (c22 : PySem.W.codeIn K cd22 "Surface.corners" = true) (k22 : PySem.W.keepIn K (.ref f22) = true)
    {f23 : Addr} {od23 an23 : Option Addr} {sl23 : Array (Option Value)} {oc23 kV23 dc23 pm23 cd23 ct23 : Value}
    (a23 : PySem.W.findIn K (.ref C) "corner" = some (some (.ref f23))) (i23 : PySem.W.isFn K (.ref f23) = true) (l23 : K.lookup f23 = some ⟨oc23, od23, .func (PySem.W.fnOf "corner" "Surface.corner" (defArgs sCornerM) (defBody sCornerM) (defScope sCornerM) .none kV23 dc23 pm23 an23 cd23 ct23), sl23⟩) (c23 : PySem.W.codeIn K cd23 "Surface.corner" = true) (k23 : PySem.W.keepIn K (.ref f23) = true)
    {f24 : Addr} {od24 an24 : Option Addr} {sl24 : Array (Option Value)} {oc24 kV24 dc24 pm24 cd24 ct24 : Value}
    (a24 : PySem.W.findIn K (.ref C) "holes" = some (some (.ref f24))) (i24 : PySem.W.isFn K (.ref f24) = true) (l24 : K.lookup f24 = some ⟨oc24, od24, .func (PySem.W.fnOf "holes" "Surface.holes" (defArgs sHolesM) (defBody sHolesM) (defScope sHolesM) .none kV24 dc24 pm24 an24 cd24 ct24), sl24⟩) (c24 : PySem.W.codeIn K cd24 "Surface.holes" = true) (k24 : PySem.W.keepIn K (.ref f24) = true)
    {f25 : Addr} {od25 an25 : Option Addr} {sl25 : Array (Option Value)} {oc25 kV25 dc25 pm25 cd25 ct25 : Value}
    (a25 : PySem.W.findIn K (.ref C) "name" = some (some (.ref f25))) (i25 : PySem.W.isFn K (.ref f25) = true) (l25 : K.lookup f25 = some ⟨oc25, od25, .func (PySem.W.fnOf "name" "Surface.name" (defArgs sNameM) (defBody sNameM) (defScope sNameM) .none kV25 dc25 pm25 an25 cd25 ct25), sl25⟩) (c25 : PySem.W.codeIn K cd25 "Surface.name" = true) (k25 : PySem.W.keepIn K (.ref f25) = true)
    {f26 : Addr} {od26 an26 : Option Addr} {sl26 : Array (Option Value)} {oc26 kV26 dc26 pm26 cd26 ct26 : Value}
    (a26 : PySem.W.findIn K (.ref C) "same" = some (some (.ref f26))) (i26 : PySem.W.isFn K (.ref f26) = true) (l26 : K.lookup f26 = some ⟨oc26, od26, .func (PySem.W.fnOf "same" "Surface.same" (defArgs sSameM) (defBody sSameM) (defScope sSameM) .none kV26 dc26 pm26 an26 cd26 ct26), sl26⟩) (c26 : PySem.W.codeIn K cd26 "Surface.same" = true) (k26 : PySem.W.keepIn K (.ref f26) = true)
    {f27 : Addr} {od27 an27 : Option Addr} {sl27 : Array (Option Value)} {oc27 kV27 dc27 pm27 cd27 ct27 : Value}
    (a27 : PySem.W.findIn K (.ref C) "selves" = some (some (.ref f27))) (i27 : PySem.W.isFn K (.ref f27) = true) (l27 : K.lookup f27 = some ⟨oc27, od27, .func (PySem.W.fnOf "selves" "Surface.selves" (defArgs sSelvesM) (defBody sSelvesM) (defScope sSelvesM) .none kV27 dc27 pm27 an27 cd27 ct27), sl27⟩) (c27 : PySem.W.codeIn K cd27 "Surface.selves" = true) (k27 : PySem.W.keepIn K (.ref f27) = true)
    {f28 : Addr} {od28 an28 : Option Addr} {sl28 : Array (Option Value)} {oc28 kV28 dc28 pm28 cd28 ct28 : Value}
    (a28 : PySem.W.findIn K (.ref C) "rename" = some (some (.ref f28))) (i28 : PySem.W.isFn K (.ref f28) = true) (l28 : K.lookup f28 = some ⟨oc28, od28, .func (PySem.W.fnOf "rename" "Surface.rename" (defArgs sRenameM) (defBody sRenameM) (defScope sRenameM) .none kV28 dc28 pm28 an28 cd28 ct28), sl28⟩) (c28 : PySem.W.codeIn K cd28 "Surface.rename" = true) (k28 : PySem.W.keepIn K (.ref f28) = true)
    {f29 : Addr} {od29 an29 : Option Addr} {sl29 : Array (Option Value)} {oc29 kV29 dc29 pm29 cd29 ct29 : Value}
    (a29 : PySem.W.findIn K (.ref C) "rows" = some (some (.ref f29))) (i29 : PySem.W.isFn K (.ref f29) = true) (l29 : K.lookup f29 = some ⟨oc29, od29, .func (PySem.W.fnOf "rows" "Surface.rows" (defArgs sRowsM) (defBody sRowsM) (defScope sRowsM) .none kV29 dc29 pm29 an29 cd29 ct29), sl29⟩) (c29 : PySem.W.codeIn K cd29 "Surface.rows" = true) (k29 : PySem.W.keepIn K (.ref f29) = true)
    {f30 : Addr} {od30 an30 : Option Addr} {sl30 : Array (Option Value)} {oc30 kV30 dc30 pm30 cd30 ct30 : Value}
    (a30 : PySem.W.findIn K (.ref C) "columns" = some (some (.ref f30))) (i30 : PySem.W.isFn K (.ref f30) = true) (l30 : K.lookup f30 = some ⟨oc30, od30, .func (PySem.W.fnOf "columns" "Surface.columns" (defArgs sColsM) (defBody sColsM) (defScope sColsM) .none kV30 dc30 pm30 an30 cd30 ct30), sl30⟩) (c30 : PySem.W.codeIn K cd30 "Surface.columns" = true) (k30 : PySem.W.keepIn K (.ref f30) = true)
    {f31 : Addr} {od31 an31 : Option Addr} {sl31 : Array (Option Value)} {oc31 kV31 dc31 pm31 cd31 ct31 : Value}
    (a31 : PySem.W.findIn K (.ref C) "near" = some (some (.ref f31))) (i31 : PySem.W.isFn K (.ref f31) = true) (l31 : K.lookup f31 = some ⟨oc31, od31, .func (PySem.W.fnOf "near" "Surface.near" (defArgs sNearM) (defBody sNearM) (defScope sNearM) .none kV31 dc31 pm31 an31 cd31 ct31), sl31⟩) (c31 : PySem.W.codeIn K cd31 "Surface.near" = true) (k31 : PySem.W.keepIn K (.ref f31) = true)
    {f32 : Addr} {od32 an32 : Option Addr} {sl32 : Array (Option Value)} {oc32 kV32 dc32 pm32 cd32 ct32 : Value}
    (a32 : PySem.W.findIn K (.ref C) "state" = some (some (.ref f32))) (i32 : PySem.W.isFn K (.ref f32) = true) (l32 : K.lookup f32 = some ⟨oc32, od32, .func (PySem.W.fnOf "state" "Surface.state" (defArgs sStateM) (defBody sStateM) (defScope sStateM) .none kV32 dc32 pm32 an32 cd32 ct32), sl32⟩) (c32 : PySem.W.codeIn K cd32 "Surface.state" = true) (k32 : PySem.W.keepIn K (.ref f32) = true)
    {f33 : Addr} {od33 an33 : Option Addr} {sl33 : Array (Option Value)} {oc33 kV33 dc33 pm33 cd33 ct33 : Value}
    (a33 : PySem.W.findIn K (.ref CR) "__init__" = some (some (.ref f33))) (i33 : PySem.W.isFn K (.ref f33) = true) (l33 : K.lookup f33 = some ⟨oc33, od33, .func (PySem.W.fnOf "__init__" "Reader.__init__" (defArgs rInit) (defBody rInit) (defScope rInit) .none kV33 dc33 pm33 an33 cd33 ct33), sl33⟩) (c33 : PySem.W.codeIn K cd33 "Reader.__init__" = true) (k33 : PySem.W.keepIn K (.ref f33) = true)
    {f34 : Addr} {od34 an34 : Option Addr} {sl34 : Array (Option Value)} {oc34 kV34 dc34 pm34 cd34 ct34 : Value}
    (a34 : PySem.W.findIn K (.ref CR) "has_more" = some (some (.ref f34))) (i34 : PySem.W.isFn K (.ref f34) = true) (l34 : K.lookup f34 = some ⟨oc34, od34, .func (PySem.W.fnOf "has_more" "Reader.has_more" (defArgs rMore) (defBody rMore) (defScope rMore) .none kV34 dc34 pm34 an34 cd34 ct34), sl34⟩) (c34 : PySem.W.codeIn K cd34 "Reader.has_more" = true) (k34 : PySem.W.keepIn K (.ref f34) = true)
    {f35 : Addr} {od35 an35 : Option Addr} {sl35 : Array (Option Value)} {oc35 kV35 dc35 pm35 cd35 ct35 : Value}
    (a35 : PySem.W.findIn K (.ref CR) "take" = some (some (.ref f35))) (i35 : PySem.W.isFn K (.ref f35) = true) (l35 : K.lookup f35 = some ⟨oc35, od35, .func (PySem.W.fnOf "take" "Reader.take" (defArgs rTake) (defBody rTake) (defScope rTake) .none kV35 dc35 pm35 an35 cd35 ct35), sl35⟩) (c35 : PySem.W.codeIn K cd35 "Reader.take" = true) (k35 : PySem.W.keepIn K (.ref f35) = true)
    {f36 : Addr} {od36 an36 : Option Addr} {sl36 : Array (Option Value)} {oc36 kV36 dc36 pm36 cd36 ct36 : Value}
    (a36 : PySem.W.findIn K (.ref CR) "take_one" = some (some (.ref f36))) (i36 : PySem.W.isFn K (.ref f36) = true) (l36 : K.lookup f36 = some ⟨oc36, od36, .func (PySem.W.fnOf "take_one" "Reader.take_one" (defArgs rOne) (defBody rOne) (defScope rOne) .none kV36 dc36 pm36 an36 cd36 ct36), sl36⟩) (c36 : PySem.W.codeIn K cd36 "Reader.take_one" = true) (k36 : PySem.W.keepIn K (.ref f36) = true)
    {f37 : Addr} {od37 an37 : Option Addr} {sl37 : Array (Option Value)} {oc37 kV37 dc37 pm37 cd37 ct37 : Value}
    (a37 : PySem.W.findIn K (.ref CR) "take_rows" = some (some (.ref f37))) (i37 : PySem.W.isFn K (.ref f37) = true) (l37 : K.lookup f37 = some ⟨oc37, od37, .func (PySem.W.fnOf "take_rows" "Reader.take_rows" (defArgs rRows) (defBody rRows) (defScope rRows) .none kV37 dc37 pm37 an37 cd37 ct37), sl37⟩) (c37 : PySem.W.codeIn K cd37 "Reader.take_rows" = true) (k37 : PySem.W.keepIn K (.ref f37) = true)
    {f38 : Addr} {od38 an38 : Option Addr} {sl38 : Array (Option Value)} {oc38 kV38 dc38 pm38 cd38 ct38 : Value}
    (a38 : PySem.W.nsIn K mainGlobals "answer" = some (some (.ref f38))) (l38 : K.lookup f38 = some ⟨oc38, od38, .func (PySem.W.fnOf "answer" "answer" (defArgs sAnswer) (defBody sAnswer) (defScope sAnswer) .none kV38 dc38 pm38 an38 cd38 ct38), sl38⟩) (c38 : PySem.W.codeIn K cd38 "answer" = true) (k38 : PySem.W.keepIn K (.ref f38) = true)
    {f39 : Addr} {od39 an39 : Option Addr} {sl39 : Array (Option Value)} {oc39 kV39 dc39 pm39 cd39 ct39 : Value}
    (a39 : PySem.W.nsIn K mainGlobals "answers" = some (some (.ref f39))) (l39 : K.lookup f39 = some ⟨oc39, od39, .func (PySem.W.fnOf "answers" "answers" (defArgs sAnswers) (defBody sAnswers) (defScope sAnswers) .none kV39 dc39 pm39 an39 cd39 ct39), sl39⟩) (c39 : PySem.W.codeIn K cd39 "answers" = true) (k39 : PySem.W.keepIn K (.ref f39) = true)
    : ∃ fd : FuncData, (∀ (s : Shared) (us : List Value), us.length = (["calls"] : List Str).length → BindsTo s fd ⟨us, []⟩ ((["calls"] : List Str).zip us)) ∧ ∀ base : Heap, K.In base → base.Ns mainGlobals mg → FnOk P w K mg base CX0 9 fa fd ["calls"] (spAnswers K) := by
  have e := hfa.symm.trans (PySem.W.mg_of X G a39)
  cases e
  have F1 := fun_mk (st := sTurned) l1 c1 k1
  have b1 := F1.binds (ps := ["ones"]) fun _ _ _ _ _ _ us hl => match us, hl with | [_], _ => rfl
  have F2 := fun_mk (st := sOrder) l2 c2 k2
  have b2 := F2.binds (ps := ["square", "east", "north"]) fun _ _ _ _ _ _ us hl => match us, hl with | [_, _, _], _ => rfl
  have F3 := fun_mk (st := sHang) l3 c3 k3
  have b3 := F3.binds (ps := ["east", "north"]) fun _ _ _ _ _ _ us hl => match us, hl with | [_, _], _ => rfl
  have F4 := fun_mk (st := sRenamed) l4 c4 k4
  have b4 := F4.binds (ps := ["ones", "order"]) fun _ _ _ _ _ _ us hl => match us, hl with | [_, _], _ => rfl
  have F5 := fun_mk (st := sRenFrom) l5 c5 k5
  have b5 := F5.binds (ps := ["square", "east", "north"]) fun _ _ _ _ _ _ us hl => match us, hl with | [_, _, _], _ => rfl
  have F6 := fun_mk (st := sCounted) l6 c6 k6
  have b6 := F6.binds (ps := ["numbers"]) fun _ _ _ _ _ _ us hl => match us, hl with | [_], _ => rfl
  have F7 := fun_mk (st := sLed) l7 c7 k7
  have b7 := F7.binds (ps := ["steps", "square", "ways"]) fun _ _ _ _ _ _ us hl => match us, hl with | [_, _, _], _ => rfl
  have F8 := fun_mk (st := sRound) l8 c8 k8
  have b8 := F8.binds (ps := ["square", "steps", "ways"]) fun _ _ _ _ _ _ us hl => match us, hl with | [_, _, _], _ => rfl
  have F9 := fun_mk (st := sSizes) l9 c9 k9
  have b9 := F9.binds (ps := ["steps", "ways"]) fun _ _ _ _ _ _ us hl => match us, hl with | [_, _], _ => rfl
  have F10 := fun_mk (st := sTells) l10 c10 k10
  have b10 := F10.binds (ps := ["ones", "size"]) fun _ _ _ _ _ _ us hl => match us, hl with | [_, _], _ => rfl
  have F11 := fun_mk (st := sNames) l11 c11 k11
  have b11 := F11.binds (ps := ["east", "north"]) fun _ _ _ _ _ _ us hl => match us, hl with | [_, _], _ => rfl
  have F12 := fun_mk (st := sLeast) l12 c12 k12
  have b12 := F12.binds (ps := ["east", "north"]) fun _ _ _ _ _ _ us hl => match us, hl with | [_, _], _ => rfl
  have F13 := fun_mk (st := sFault) l13 c13 k13
  have b13 := F13.binds (ps := ["east", "north", "size"]) fun _ _ _ _ _ _ us hl => match us, hl with | [_, _, _], _ => rfl
  have F14 := fun_mk (st := sWith) l14 c14 k14
  have b14 := F14.binds (ps := ["squares", "ways"]) fun _ _ _ _ _ _ us hl => match us, hl with | [_, _], _ => rfl
  have F15 := fun_mk (st := sFewest) l15 c15 k15
  have b15 := F15.binds (ps := ["start", "goal", "ways"]) fun _ _ _ _ _ _ us hl => match us, hl with | [_, _, _], _ => rfl
  have F16 := fun_mk (st := sInit) l16 c16 k16
  have b16 := F16.binds (ps := ["self"]) fun _ _ _ _ _ _ us hl => match us, hl with | [_], _ => rfl
  have F17 := fun_mk (st := sLay) l17 c17 k17
  have b17 := F17.binds (ps := ["self", "east", "north"]) fun _ _ _ _ _ _ us hl => match us, hl with | [_, _, _], _ => rfl
  have F18 := fun_mk (st := sBegin) l18 c18 k18
  have b18 := F18.binds (ps := ["self", "size"]) fun _ _ _ _ _ _ us hl => match us, hl with | [_, _], _ => rfl
  have F19 := fun_mk (st := sGlue) l19 c19 k19
  have b19 := F19.binds (ps := ["self", "east", "north"]) fun _ _ _ _ _ _ us hl => match us, hl with | [_, _, _], _ => rfl
  have F20 := fun_mk (st := sGo) l20 c20 k20
  have b20 := F20.binds (ps := ["self", "square", "step"]) fun _ _ _ _ _ _ us hl => match us, hl with | [_, _, _], _ => rfl
  have F21 := fun_mk (st := sWalkM) l21 c21 k21
  have b21 := F21.binds (ps := ["self", "square", "steps"]) fun _ _ _ _ _ _ us hl => match us, hl with | [_, _, _], _ => rfl
  have F22 := fun_mk (st := sCornersM) l22 c22 k22
  have b22 := F22.binds (ps := ["self"]) fun _ _ _ _ _ _ us hl => match us, hl with | [_], _ => rfl
  have F23 := fun_mk (st := sCornerM) l23 c23 k23
  have b23 := F23.binds (ps := ["self", "square"]) fun _ _ _ _ _ _ us hl => match us, hl with | [_, _], _ => rfl
  have F24 := fun_mk (st := sHolesM) l24 c24 k24
  have b24 := F24.binds (ps := ["self"]) fun _ _ _ _ _ _ us hl => match us, hl with | [_], _ => rfl
  have F25 := fun_mk (st := sNameM) l25 c25 k25
  have b25 := F25.binds (ps := ["self"]) fun _ _ _ _ _ _ us hl => match us, hl with | [_], _ => rfl
  have F26 := fun_mk (st := sSameM) l26 c26 k26
  have b26 := F26.binds (ps := ["self", "east", "north"]) fun _ _ _ _ _ _ us hl => match us, hl with | [_, _, _], _ => rfl
  have F27 := fun_mk (st := sSelvesM) l27 c27 k27
  have b27 := F27.binds (ps := ["self"]) fun _ _ _ _ _ _ us hl => match us, hl with | [_], _ => rfl
  have F28 := fun_mk (st := sRenameM) l28 c28 k28
  have b28 := F28.binds (ps := ["self", "order"]) fun _ _ _ _ _ _ us hl => match us, hl with | [_, _], _ => rfl
  have F29 := fun_mk (st := sRowsM) l29 c29 k29
  have b29 := F29.binds (ps := ["self"]) fun _ _ _ _ _ _ us hl => match us, hl with | [_], _ => rfl
  have F30 := fun_mk (st := sColsM) l30 c30 k30
  have b30 := F30.binds (ps := ["self"]) fun _ _ _ _ _ _ us hl => match us, hl with | [_], _ => rfl
  have F31 := fun_mk (st := sNearM) l31 c31 k31
  have b31 := F31.binds (ps := ["self", "start", "goal"]) fun _ _ _ _ _ _ us hl => match us, hl with | [_, _, _], _ => rfl
  have F32 := fun_mk (st := sStateM) l32 c32 k32
  have b32 := F32.binds (ps := ["self"]) fun _ _ _ _ _ _ us hl => match us, hl with | [_], _ => rfl
  have F33 := fun_mk (st := rInit) l33 c33 k33
  have b33 := F33.binds (ps := ["self", "calls"]) fun _ _ _ _ _ _ us hl => match us, hl with | [_, _], _ => rfl
  have F34 := fun_mk (st := rMore) l34 c34 k34
  have b34 := F34.binds (ps := ["self"]) fun _ _ _ _ _ _ us hl => match us, hl with | [_], _ => rfl
  have F35 := fun_mk (st := rTake) l35 c35 k35
  have b35 := F35.binds (ps := ["self", "many"]) fun _ _ _ _ _ _ us hl => match us, hl with | [_, _], _ => rfl
  have F36 := fun_mk (st := rOne) l36 c36 k36
  have b36 := F36.binds (ps := ["self"]) fun _ _ _ _ _ _ us hl => match us, hl with | [_], _ => rfl
  have F37 := fun_mk (st := rRows) l37 c37 k37
  have b37 := F37.binds (ps := ["self", "many"]) fun _ _ _ _ _ _ us hl => match us, hl with | [_, _], _ => rfl
  have F38 := fun_mk (st := sAnswer) l38 c38 k38
  have b38 := F38.binds (ps := ["surface", "call", "numbers", "rows"]) fun _ _ _ _ _ _ us hl => match us, hl with | [_, _, _, _], _ => rfl
  have F39 := fun_mk (st := sAnswers) l39 c39 k39
  have b39 := F39.binds (ps := ["calls"]) fun _ _ _ _ _ _ us hl => match us, hl with | [_], _ => rfl
  have TS : TxtS K C := ⟨⟨pgC, hdC, poC, saC⟩, nC0, nC1⟩
  have TR : TxtR K CR := ⟨⟨pgCR, hdCR, poCR, saCR⟩, nCR0, nCR1⟩
  have B : Bn mg := ⟨PySem.W.mg_none_of X G z_len, PySem.W.mg_none_of X G z_enumerate, PySem.W.mg_none_of X G z_range, PySem.W.mg_none_of X G z_list, PySem.W.mg_none_of X G z_sorted, PySem.W.mg_none_of X G z_min, PySem.W.mg_none_of X G z_max⟩
  have N : Cn K mg := ⟨⟨aO, PySem.W.mg_of X G vO, tup_at lO (line_le (by show 4 ≤ _; decide)) (.cons ⟨_, rfl⟩ (.cons ⟨_, rfl⟩ (.cons ⟨_, rfl⟩ (.cons ⟨_, rfl⟩ .nil))))⟩, ⟨aR, PySem.W.mg_of X G vR, tup_at lR (line_le (by show 1 ≤ _; decide)) (.cons ⟨_, rfl⟩ .nil)⟩, ⟨aL, PySem.W.mg_of X G vL, tup_at lL (line_le (by show 1 ≤ _; decide)) (.cons ⟨_, rfl⟩ .nil)⟩, ⟨_, PySem.W.mg_of X G v_EAST⟩, ⟨_, PySem.W.mg_of X G v_NORTH⟩, ⟨_, PySem.W.mg_of X G v_NO_SQUARE⟩, ⟨_, PySem.W.mg_of X G v_NOT_BEGUN⟩, ⟨_, PySem.W.mg_of X G v_NOT_RIGHT⟩, ⟨_, PySem.W.mg_of X G v_NOT_TOGETHER⟩, ⟨_, PySem.W.mg_of X G v_MOST_SQUARES⟩, ⟨_, PySem.W.mg_of X G v_MOST_STEPS⟩, ⟨_, PySem.W.mg_of X G v_LAST_STEP⟩, ⟨_, PySem.W.mg_of X G v_BEGIN⟩, ⟨_, PySem.W.mg_of X G v_GLUE⟩, ⟨_, PySem.W.mg_of X G v_GO⟩, ⟨_, PySem.W.mg_of X G v_WALK⟩, ⟨_, PySem.W.mg_of X G v_CORNERS⟩, ⟨_, PySem.W.mg_of X G v_CORNER⟩, ⟨_, PySem.W.mg_of X G v_HOLES⟩, ⟨_, PySem.W.mg_of X G v_NAME⟩, ⟨_, PySem.W.mg_of X G v_SAME⟩, ⟨_, PySem.W.mg_of X G v_SELVES⟩, ⟨_, PySem.W.mg_of X G v_RENAME⟩, ⟨_, PySem.W.mg_of X G v_ROWS⟩, ⟨_, PySem.W.mg_of X G v_COLUMNS⟩, ⟨_, PySem.W.mg_of X G v_NEAR⟩⟩
  have SH : Sh K mg := by
    refine ⟨aS, [s0, s1, s2, s3, s4, s5, s6, s7, s8, s9, s10, s11, s12, s13, s14], PySem.W.mg_of X G vS, tup_at lS (line_le (by show 15 ≤ _; decide)) (.cons rfl (.cons rfl (.cons rfl (.cons rfl (.cons rfl (.cons rfl (.cons rfl (.cons rfl (.cons rfl (.cons rfl (.cons rfl (.cons rfl (.cons rfl (.cons rfl (.cons rfl (.nil)))))))))))))))), fun c n k hc => ?_⟩
    have hc15 : c < 15 := (List.getElem?_eq_some_iff.mp hc).1
    match c, hc15, hc with
    | 0, _, hc => cases hc; exact ⟨s0, rfl, pair_at lS0⟩
    | 1, _, hc => cases hc; exact ⟨s1, rfl, pair_at lS1⟩
    | 2, _, hc => cases hc; exact ⟨s2, rfl, pair_at lS2⟩
    | 3, _, hc => cases hc; exact ⟨s3, rfl, pair_at lS3⟩
    | 4, _, hc => cases hc; exact ⟨s4, rfl, pair_at lS4⟩
    | 5, _, hc => cases hc; exact ⟨s5, rfl, pair_at lS5⟩
    | 6, _, hc => cases hc; exact ⟨s6, rfl, pair_at lS6⟩
    | 7, _, hc => cases hc; exact ⟨s7, rfl, pair_at lS7⟩
    | 8, _, hc => cases hc; exact ⟨s8, rfl, pair_at lS8⟩
    | 9, _, hc => cases hc; exact ⟨s9, rfl, pair_at lS9⟩
    | 10, _, hc => cases hc; exact ⟨s10, rfl, pair_at lS10⟩
    | 11, _, hc => cases hc; exact ⟨s11, rfl, pair_at lS11⟩
    | 12, _, hc => cases hc; exact ⟨s12, rfl, pair_at lS12⟩
    | 13, _, hc => cases hc; exact ⟨s13, rfl, pair_at lS13⟩
    | 14, _, hc => cases hc; exact ⟨s14, rfl, pair_at lS14⟩
  refine ⟨PySem.W.fnOf "answers" "answers" (defArgs sAnswers) (defBody sAnswers) (defScope sAnswers) .none kV39 dc39 pm39 an39 cd39 ct39, fun s us hu => match us, hu with | [_], _ => .of_eq rfl, fun base _ _ => ?_⟩
  have D_turned_back : Dn P w K mg base 1 "turned_back" ["ones"] (spTurned K) := ⟨f1, _, ok_turned F1 B, PySem.W.mg_of X G a1, k1, b1⟩
  have D_order_from : Dn P w K mg base 1 "order_from" ["square", "east", "north"] (spOrder K) := ⟨f2, _, ok_order F2 B, PySem.W.mg_of X G a2, k2, b2⟩
  have D_hang_together : Dn P w K mg base 2 "hang_together" ["east", "north"] (spHang K) := ⟨f3, _, ok_hang F3 B D_order_from, PySem.W.mg_of X G a3, k3, b3⟩
  have D_renamed : Dn P w K mg base 2 "renamed" ["ones", "order"] (spRen K) := ⟨f4, _, ok_ren F4 D_turned_back, PySem.W.mg_of X G a4, k4, b4⟩
  have D_renamed_from : Dn P w K mg base 3 "renamed_from" ["square", "east", "north"] (spRenFrom K) := ⟨f5, _, ok_renFrom F5 D_order_from D_renamed, PySem.W.mg_of X G a5, k5, b5⟩
  have D_counted : Dn P w K mg base 1 "counted" ["numbers"] spCounted := ⟨f6, _, ok_counted F6 B, PySem.W.mg_of X G a6, k6, b6⟩
  have D_led_by : Dn P w K mg base 1 "led_by" ["steps", "square", "ways"] (spLed K) := ⟨f7, _, ok_led F7, PySem.W.mg_of X G a7, k7, b7⟩
  have D_squares_round : Dn P w K mg base 2 "squares_round" ["square", "steps", "ways"] (spRound K) := ⟨f8, _, ok_round F8 D_led_by, PySem.W.mg_of X G a8, k8, b8⟩
  have D_round_sizes : Dn P w K mg base 3 "round_sizes" ["steps", "ways"] (spSizes K) := ⟨f9, _, ok_sizes F9 B N D_squares_round, PySem.W.mg_of X G a9, k9, b9⟩
  have D_tells_all_once : Dn P w K mg base 1 "tells_all_once" ["ones", "size"] (spTells K) := ⟨f10, _, ok_tells F10 B, PySem.W.mg_of X G a10, k10, b10⟩
  have D_names_by_orders : Dn P w K mg base 4 "names_by_orders" ["east", "north"] (spNames K) := ⟨f11, _, ok_names F11 B D_renamed_from, PySem.W.mg_of X G a11, k11, b11⟩
  have D_least_name : Dn P w K mg base 5 "least_name" ["east", "north"] (spLeast K) := ⟨f12, _, ok_least F12 B D_names_by_orders, PySem.W.mg_of X G a12, k12, b12⟩
  have D_gluing_fault : Dn P w K mg base 3 "gluing_fault" ["east", "north", "size"] (spFault K) := ⟨f13, _, ok_fault F13 N D_tells_all_once D_hang_together, PySem.W.mg_of X G a13, k13, b13⟩
  have D_with_neighbours : Dn P w K mg base 1 "with_neighbours" ["squares", "ways"] (spWith K) := ⟨f14, _, ok_with F14 B, PySem.W.mg_of X G a14, k14, b14⟩
  have D_fewest_steps : Dn P w K mg base 2 "fewest_steps" ["start", "goal", "ways"] (spFew K) := ⟨f15, _, ok_few F15 D_with_neighbours, PySem.W.mg_of X G a15, k15, b15⟩
  have M_lay : Mt P w K mg base C 2 "lay" ["self", "east", "north"] (spLay C K) := ⟨⟨f17, _, ok_lay F17 B TS D_turned_back, ⟨a17, i17, k17⟩, b17⟩, TS.cl⟩
  have M_begin : Mt P w K mg base C 3 "begin" ["self", "size"] (spBegin C K) := ⟨⟨f18, _, ok_begin F18 B TS N M_lay, ⟨a18, i18, k18⟩, b18⟩, TS.cl⟩
  have M_glue : Mt P w K mg base C 4 "glue" ["self", "east", "north"] (spGlue C K) := ⟨⟨f19, _, ok_glue F19 B TS N M_lay D_gluing_fault D_round_sizes, ⟨a19, i19, k19⟩, b19⟩, TS.cl⟩
  have M_go : Mt P w K mg base C 2 "go" ["self", "square", "step"] (spGo C K) := ⟨⟨f20, _, ok_go F20 TS N D_led_by, ⟨a20, i20, k20⟩, b20⟩, TS.cl⟩
  have M_walk : Mt P w K mg base C 2 "walk" ["self", "square", "steps"] (spWalk C K) := ⟨⟨f21, _, ok_walk F21 B TS N D_led_by, ⟨a21, i21, k21⟩, b21⟩, TS.cl⟩
  have M_corners : Mt P w K mg base C 4 "corners" ["self"] (spCorners C K) := ⟨⟨f22, _, ok_corners F22 TS N D_round_sizes D_counted, ⟨a22, i22, k22⟩, b22⟩, TS.cl⟩
  have M_corner : Mt P w K mg base C 3 "corner" ["self", "square"] (spCorner C K) := ⟨⟨f23, _, ok_corner F23 TS N D_squares_round D_counted, ⟨a23, i23, k23⟩, b23⟩, TS.cl⟩
  have M_holes : Mt P w K mg base C 4 "holes" ["self"] (spHoles C K) := ⟨⟨f24, _, ok_holes F24 B TS N D_round_sizes, ⟨a24, i24, k24⟩, b24⟩, TS.cl⟩
  have M_name : Mt P w K mg base C 6 "name" ["self"] (spName C K) := ⟨⟨f25, _, ok_name F25 TS N D_least_name D_counted, ⟨a25, i25, k25⟩, b25⟩, TS.cl⟩
  have M_same : Mt P w K mg base C 6 "same" ["self", "east", "north"] (spSame C K) := ⟨⟨f26, _, ok_same F26 TS N D_gluing_fault D_least_name, ⟨a26, i26, k26⟩, b26⟩, TS.cl⟩
  have M_selves : Mt P w K mg base C 5 "selves" ["self"] (spSelves C K) := ⟨⟨f27, _, ok_selves F27 TS N D_names_by_orders, ⟨a27, i27, k27⟩, b27⟩, TS.cl⟩
  have M_rename : Mt P w K mg base C 3 "rename" ["self", "order"] (spRename C K) := ⟨⟨f28, _, ok_rename F28 TS N M_lay D_tells_all_once D_renamed, ⟨a28, i28, k28⟩, b28⟩, TS.cl⟩
  have M_rows : Mt P w K mg base C 4 "rows" ["self"] (spRowsM C K) := ⟨⟨f29, _, ok_rowsM F29 TS N D_round_sizes D_counted, ⟨a29, i29, k29⟩, b29⟩, TS.cl⟩
  have M_columns : Mt P w K mg base C 4 "columns" ["self"] (spCols C K) := ⟨⟨f30, _, ok_cols F30 TS N D_round_sizes D_counted, ⟨a30, i30, k30⟩, b30⟩, TS.cl⟩
  have M_near : Mt P w K mg base C 3 "near" ["self", "start", "goal"] (spNear C K) := ⟨⟨f31, _, ok_near F31 TS N D_fewest_steps, ⟨a31, i31, k31⟩, b31⟩, TS.cl⟩
  have M_state : Mt P w K mg base C 1 "state" ["self"] (spState C K) := ⟨⟨f32, _, ok_state F32 TS N, ⟨a32, i32, k32⟩, b32⟩, TS.cl⟩
  have M_has_more : Mt P w K mg base CR 1 "has_more" ["self"] (spMore CR K) := ⟨⟨f34, _, ok_more F34 B TR, ⟨a34, i34, k34⟩, b34⟩, TR.cl⟩
  have M_take : Mt P w K mg base CR 1 "take" ["self", "many"] (spTake CR K) := ⟨⟨f35, _, ok_take F35 TR, ⟨a35, i35, k35⟩, b35⟩, TR.cl⟩
  have M_take_one : Mt P w K mg base CR 2 "take_one" ["self"] (spOne CR K) := ⟨⟨f36, _, ok_one F36 M_take, ⟨a36, i36, k36⟩, b36⟩, TR.cl⟩
  have M_take_rows : Mt P w K mg base CR 3 "take_rows" ["self", "many"] (spRows CR K) := ⟨⟨f37, _, ok_rows F37 B M_take M_take_one, ⟨a37, i37, k37⟩, b37⟩, TR.cl⟩
  have D_answer : Dn P w K mg base 7 "answer" ["surface", "call", "numbers", "rows"] (spAnswer C K) := ⟨f38, _, ok_answer F38 TS N M_begin M_glue M_go M_walk M_corners M_corner M_holes M_name M_same M_selves M_rename M_rows M_columns M_near M_state, PySem.W.mg_of X G a38, k38, b38⟩
  exact ok_answers F39 SH (PySem.W.mg_of X G aC) (PySem.W.mg_of X G aCR) ⟨mkC, a16, i16, kcC⟩ ⟨mkCR, a33, i33, kcCR⟩ (ok_init F16 TS) b16 (ok_rinit F33 TR) b33 M_has_more M_take_one M_take M_take_rows D_counted D_answer
end Gs
open PySem PySem.W PyProof.Rows
set_option maxRecDepth 100000 in
set_option maxHeartbeats 16000000 in
theorem PySem.Challenge.cw_gluedsquares_s01_answers_holds : PySem.Challenge.rw_gluedsquares_s01_answers.Holds := by
  w_on; k_headS; (case hw => exact ⟨[.list []], by decide +kernel, by decide +kernel⟩)
  k_fillS
  refine L2.walk_specK (r := PySem.Challenge.rw_gluedsquares_s01_answers) (k := 9) (CX := L2.CX0) (ps := ["calls"]) (sp := Gs.spAnswers) (by decide +kernel) rfl rfl ⟨rfl, by decide, by decide⟩ (fun w h Y => PySem.W.kIn_of Y) ?F ?S (fun _ _ _ _ z => z)
  case F =>
    intro w mg fa h Y KX G hmg
    refine' Gs.all_mk KX G hmg ?aC ?pgC ?hdC ?poC ?saC ?mkC ?kcC ?nC0 ?nC1 ?aCR ?pgCR ?hdCR ?poCR ?saCR ?mkCR ?kcCR ?nCR0 ?nCR1 ?z_len ?z_enumerate ?z_range ?z_list ?z_sorted ?z_min ?z_max ?v_EAST ?v_NORTH ?v_NO_SQUARE ?v_NOT_BEGUN ?v_NOT_RIGHT ?v_NOT_TOGETHER ?v_MOST_SQUARES ?v_MOST_STEPS ?v_LAST_STEP ?v_BEGIN ?v_GLUE ?v_GO ?v_WALK ?v_CORNERS ?v_CORNER ?v_HOLES ?v_NAME ?v_SAME ?v_SELVES ?v_RENAME ?v_ROWS ?v_COLUMNS ?v_NEAR ?vO ?lO ?vR ?lR ?vL ?lL ?vS ?lS ?lS0 ?lS1 ?lS2 ?lS3 ?lS4 ?lS5 ?lS6 ?lS7 ?lS8 ?lS9 ?lS10 ?lS11 ?lS12 ?lS13 ?lS14 ?a1 ?l1 ?c1 ?k1 ?a2 ?l2 ?c2 ?k2 ?a3 ?l3 ?c3 ?k3 ?a4 ?l4 ?c4 ?k4 ?a5 ?l5 ?c5 ?k5 ?a6 ?l6 ?c6 ?k6 ?a7 ?l7 ?c7 ?k7 ?a8 ?l8 ?c8 ?k8 ?a9 ?l9 ?c9 ?k9 ?a10 ?l10 ?c10 ?k10 ?a11 ?l11 ?c11 ?k11 ?a12 ?l12 ?c12 ?k12 ?a13 ?l13 ?c13 ?k13 ?a14 ?l14 ?c14 ?k14 ?a15 ?l15 ?c15 ?k15 ?a16 ?i16 ?l16 ?c16 ?k16 ?a17 ?i17 ?l17 ?c17 ?k17 ?a18 ?i18 ?l18 ?c18 ?k18 ?a19 ?i19 ?l19 ?c19 ?k19 ?a20 ?i20 ?l20 ?c20 ?k20 ?a21 ?i21 ?l21 ?c21 ?k21 ?a22 ?i22 ?l22 ?c22 ?k22 ?a23 ?i23 ?l23 ?c23 ?k23 ?a24 ?i24 ?l24 ?c24 ?k24 ?a25 ?i25 ?l25 ?c25 ?k25 ?a26 ?i26 ?l26 ?c26 ?k26 ?a27 ?i27 ?l27 ?c27 ?k27 ?a28 ?i28 ?l28 ?c28 ?k28 ?a29 ?i29 ?l29 ?c29 ?k29 ?a30 ?i30 ?l30 ?c30 ?k30 ?a31 ?i31 ?l31 ?c31 ?k31 ?a32 ?i32 ?l32 ?c32 ?k32 ?a33 ?i33 ?l33 ?c33 ?k33 ?a34 ?i34 ?l34 ?c34 ?k34 ?a35 ?i35 ?l35 ?c35 ?k35 ?a36 ?i36 ?l36 ?c36 ?k36 ?a37 ?i37 ?l37 ?c37 ?k37 ?a38 ?l38 ?c38 ?k38 ?a39 ?l39 ?c39 ?k39
    (case aC => k_is)
    (case pgC => k_is)
    (case hdC => k_is)
    (case poC => k_is)
    (case saC => k_is)
    (case mkC => k_is)
    (case kcC => k_is)
    (case nC0 => k_is)
    (case nC1 => k_is)
    (case aCR => k_is)
    (case pgCR => k_is)
    (case hdCR => k_is)
    (case poCR => k_is)
    (case saCR => k_is)
    (case mkCR => k_is)
    (case kcCR => k_is)
    (case nCR0 => k_is)
    (case nCR1 => k_is)
    (case z_len => k_is)
    (case z_enumerate => k_is)
    (case z_range => k_is)
    (case z_list => k_is)
    (case z_sorted => k_is)
    (case z_min => k_is)
    (case z_max => k_is)
    (case v_EAST => k_is)
    (case v_NORTH => k_is)
    (case v_NO_SQUARE => k_is)
    (case v_NOT_BEGUN => k_is)
    (case v_NOT_RIGHT => k_is)
    (case v_NOT_TOGETHER => k_is)
    (case v_MOST_SQUARES => k_is)
    (case v_MOST_STEPS => k_is)
    (case v_LAST_STEP => k_is)
    (case v_BEGIN => k_is)
    (case v_GLUE => k_is)
    (case v_GO => k_is)
    (case v_WALK => k_is)
    (case v_CORNERS => k_is)
    (case v_CORNER => k_is)
    (case v_HOLES => k_is)
    (case v_NAME => k_is)
    (case v_SAME => k_is)
    (case v_SELVES => k_is)
    (case v_RENAME => k_is)
    (case v_ROWS => k_is)
    (case v_COLUMNS => k_is)
    (case v_NEAR => k_is)
    (case vO => k_is)
    (case lO => k_is)
    (case vR => k_is)
    (case lR => k_is)
    (case vL => k_is)
    (case lL => k_is)
    (case vS => k_is)
    (case lS => k_is)
    (case lS0 => k_is)
    (case lS1 => k_is)
    (case lS2 => k_is)
    (case lS3 => k_is)
    (case lS4 => k_is)
    (case lS5 => k_is)
    (case lS6 => k_is)
    (case lS7 => k_is)
    (case lS8 => k_is)
    (case lS9 => k_is)
    (case lS10 => k_is)
    (case lS11 => k_is)
    (case lS12 => k_is)
    (case lS13 => k_is)
    (case lS14 => k_is)
    (case a1 => k_is)
    (case l1 => k_is)
    (case c1 => k_is)
    (case k1 => k_is)
    (case a2 => k_is)
    (case l2 => k_is)
    (case c2 => k_is)
    (case k2 => k_is)
    (case a3 => k_is)
    (case l3 => k_is)
    (case c3 => k_is)
    (case k3 => k_is)
    (case a4 => k_is)
    (case l4 => k_is)
    (case c4 => k_is)
    (case k4 => k_is)
    (case a5 => k_is)
    (case l5 => k_is)
    (case c5 => k_is)
    (case k5 => k_is)
    (case a6 => k_is)
    (case l6 => k_is)
    (case c6 => k_is)
    (case k6 => k_is)
    (case a7 => k_is)
    (case l7 => k_is)
    (case c7 => k_is)
    (case k7 => k_is)
    (case a8 => k_is)
    (case l8 => k_is)
    (case c8 => k_is)
    (case k8 => k_is)
    (case a9 => k_is)
    (case l9 => k_is)
    (case c9 => k_is)
    (case k9 => k_is)
    (case a10 => k_is)
    (case l10 => k_is)
    (case c10 => k_is)
    (case k10 => k_is)
    (case a11 => k_is)
    (case l11 => k_is)
    (case c11 => k_is)
    (case k11 => k_is)
    (case a12 => k_is)
    (case l12 => k_is)
    (case c12 => k_is)
    (case k12 => k_is)
    (case a13 => k_is)
    (case l13 => k_is)
    (case c13 => k_is)
    (case k13 => k_is)
    (case a14 => k_is)
    (case l14 => k_is)
    (case c14 => k_is)
    (case k14 => k_is)
    (case a15 => k_is)
    (case l15 => k_is)
    (case c15 => k_is)
    (case k15 => k_is)
    (case a16 => k_is)
    (case i16 => k_is)
    (case l16 => k_is)
    (case c16 => k_is)
    (case k16 => k_is)
    (case a17 => k_is)
    (case i17 => k_is)
    (case l17 => k_is)
    (case c17 => k_is)
    (case k17 => k_is)
    (case a18 => k_is)
    (case i18 => k_is)
    (case l18 => k_is)
    (case c18 => k_is)
    (case k18 => k_is)
    (case a19 => k_is)
    (case i19 => k_is)
    (case l19 => k_is)
    (case c19 => k_is)
    (case k19 => k_is)
    (case a20 => k_is)
    (case i20 => k_is)
    (case l20 => k_is)
    (case c20 => k_is)
    (case k20 => k_is)
    (case a21 => k_is)
    (case i21 => k_is)
    (case l21 => k_is)
    (case c21 => k_is)
    (case k21 => k_is)
    (case a22 => k_is)
    (case i22 => k_is)
    (case l22 => k_is)
    (case c22 => k_is)
    (case k22 => k_is)
    (case a23 => k_is)
    (case i23 => k_is)
    (case l23 => k_is)
    (case c23 => k_is)
    (case k23 => k_is)
    (case a24 => k_is)
    (case i24 => k_is)
    (case l24 => k_is)
    (case c24 => k_is)
    (case k24 => k_is)
    (case a25 => k_is)
    (case i25 => k_is)
    (case l25 => k_is)
    (case c25 => k_is)
    (case k25 => k_is)
    (case a26 => k_is)
    (case i26 => k_is)
    (case l26 => k_is)
    (case c26 => k_is)
    (case k26 => k_is)
    (case a27 => k_is)
    (case i27 => k_is)
    (case l27 => k_is)
    (case c27 => k_is)
    (case k27 => k_is)
    (case a28 => k_is)
    (case i28 => k_is)
    (case l28 => k_is)
    (case c28 => k_is)
    (case k28 => k_is)
    (case a29 => k_is)
    (case i29 => k_is)
    (case l29 => k_is)
    (case c29 => k_is)
    (case k29 => k_is)
    (case a30 => k_is)
    (case i30 => k_is)
    (case l30 => k_is)
    (case c30 => k_is)
    (case k30 => k_is)
    (case a31 => k_is)
    (case i31 => k_is)
    (case l31 => k_is)
    (case c31 => k_is)
    (case k31 => k_is)
    (case a32 => k_is)
    (case i32 => k_is)
    (case l32 => k_is)
    (case c32 => k_is)
    (case k32 => k_is)
    (case a33 => k_is)
    (case i33 => k_is)
    (case l33 => k_is)
    (case c33 => k_is)
    (case k33 => k_is)
    (case a34 => k_is)
    (case i34 => k_is)
    (case l34 => k_is)
    (case c34 => k_is)
    (case k34 => k_is)
    (case a35 => k_is)
    (case i35 => k_is)
    (case l35 => k_is)
    (case c35 => k_is)
    (case k35 => k_is)
    (case a36 => k_is)
    (case i36 => k_is)
    (case l36 => k_is)
    (case c36 => k_is)
    (case k36 => k_is)
    (case a37 => k_is)
    (case i37 => k_is)
    (case l37 => k_is)
    (case c37 => k_is)
    (case k37 => k_is)
    (case a38 => k_is)
    (case l38 => k_is)
    (case c38 => k_is)
    (case k38 => k_is)
    (case a39 => k_is)
    (case l39 => k_is)
    (case c39 => k_is)
    (case k39 => k_is)
  case S =>
    intro K H xs a hO hwi hask hx
    cases hx with
    | cons h1 h2 =>
      cases h2
      cases h1 with
      | lst hs ha =>
        have e := L2.ints_dw a.1 _ ha
        subst e
        have q : ((Codec.inLen 0 20520 a.1 && a.1.all (Codec.inInt 0 4294967295)) && true) = true := hwi
        rw [Bool.and_eq_true, Bool.and_eq_true] at q
        refine ⟨_, a.1, rfl, hs, fun x hx => ?_, hask, fun H' p hp => .lst (L2.SqL.of hp) (L2.dw_ints _)⟩
        have q2 := List.all_eq_true.mp q.1.2 x hx
        exact (Codec.inInt_iff.mp q2).1
#print axioms PySem.Challenge.cw_gluedsquares_s01_answers_holds
