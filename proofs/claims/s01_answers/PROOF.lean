import PyProof.Rows.All
import Wide.All
import OpenK.AllK
import Wide.FinOn
import Open.SpecLaws
import KE.OsGo
import HandS.ForSpec
import HandS.Comp
import PyProof.DefCall
import PyProof.Rows.CallKwBuiltin
import KE.KMinBuiltin
import HandS.Iter
import HandS.Walk
import PySem.Challenge.RW_disputed_s01_answers
set_option Elab.async false
set_option maxRecDepth 100000
set_option maxHeartbeats 4000000
set_option linter.all false
namespace Dm
open Kp365
open Kp340 (Fr fr)
open Kp346 (ltF maxF)
/-! ### The desk's own order: a node's children stand ahead of it -/
def Down (d : Desk) : Prop := ∀ i, ∀ k ∈ (nodeAt d i).kids, k < i
theorem all_same {α : Type} {p q : α → Bool} : ∀ {l : List α}, (∀ x ∈ l, p x = q x) → l.all p = l.all q
  | [], _ => rfl
  | a :: l, h => by
    rw [List.all_cons, List.all_cons, h a (List.mem_cons_self ..), all_same fun x hx => h x (List.mem_cons_of_mem _ hx)]
theorem any_same {α : Type} {p q : α → Bool} : ∀ {l : List α}, (∀ x ∈ l, p x = q x) → l.any p = l.any q
  | [], _ => rfl
  | a :: l, h => by
    rw [List.any_cons, List.any_cons, h a (List.mem_cons_self ..), any_same fun x hx => h x (List.mem_cons_of_mem _ hx)]
theorem flat_same {α β : Type} {p q : α → List β} : ∀ {l : List α}, (∀ x ∈ l, p x = q x) → l.flatMap p = l.flatMap q
  | [], _ => rfl
  | a :: l, h => by
    rw [List.flatMap_cons, List.flatMap_cons, h a (List.mem_cons_self ..), flat_same fun x hx => h x (List.mem_cons_of_mem _ hx)]
/-- a function by fuel, whose value at i hangs on its values at smaller numbers alone -/
theorem fuel_free {α : Type} (g : Nat → Nat → α) (P : Nat → Nat → Prop) (hP : ∀ i k, P i k → k < i)
    (hs : ∀ f f' i, (∀ k, P i k → g f k = g f' k) → g (f + 1) i = g (f' + 1) i) : ∀ i f f', i < f → i < f' → g f i = g f' i := by
  intro i
  induction i using Nat.strongRecOn with
  | ind i ih =>
    intro f f' hf hf'
    match f, f', hf, hf' with
    | f + 1, f' + 1, hf, hf' =>
      refine hs f f' i fun k hk => ih k (hP i k hk) f f' ?_ ?_
      · have := hP i k hk
        omega
      · have := hP i k hk
        omega
theorem true_fuel {d : Desk} (h : Down d) : ∀ i f f', i < f → i < f' → goTrue d f i = goTrue d f' i :=
  fuel_free (goTrue d) (fun i k => k ∈ (nodeAt d i).kids) h fun f f' i hk => by
    show (if (nodeAt d i).kind = 0 then _ else if (nodeAt d i).kind = 1 then (nodeAt d i).kids.all (goTrue d f) else (nodeAt d i).kids.any (goTrue d f)) = (if (nodeAt d i).kind = 0 then _ else if (nodeAt d i).kind = 1 then (nodeAt d i).kids.all (goTrue d f') else (nodeAt d i).kids.any (goTrue d f'))
    rw [all_same hk, any_same hk]
theorem isTrue_eq {d : Desk} (h : Down d) {i : Nat} (hi : i ≤ 20) : isTrue d i = if (nodeAt d i).kind = 0 then (nodeAt d i).so == 1 else if (nodeAt d i).kind = 1 then (nodeAt d i).kids.all (isTrue d) else (nodeAt d i).kids.any (isTrue d) := by
  have hk : ∀ k ∈ (nodeAt d i).kids, goTrue d 20 k = isTrue d k := fun k hk => true_fuel h k _ _ (by have := h i k hk; omega) (by have := h i k hk; show k < 21; omega)
  rw [← all_same hk, ← any_same hk]
  rfl
/-! ### How often it's held, in hundredths -/
def hund (d : Desk) : Nat → Nat → Nat
  | 0, _ => 0
  | f + 1, i => if (nodeAt d i).kind = 0 then (if (nodeAt d i).so = 1 then 100 - (nodeAt d i).wrong else (nodeAt d i).wrong) else
    if (nodeAt d i).kind = 1 then ((nodeAt d i).kids.map (hund d f)).foldl min 100 else ((nodeAt d i).kids.map (hund d f)).foldl max 0
def held100 (d : Desk) (i : Nat) : Nat := hund d (NODES + 1) i
def right100 (d : Desk) (i : Nat) : Nat := if isTrue d i then held100 d i else 100 - held100 d i
def fr100 (n : Nat) : Fr := fr (n : Nat) 100
theorem one100 : fr100 100 = ((1, 1) : Fr) := by decide +kernel
theorem zero100 : fr100 0 = ((0, 1) : Fr) := by decide +kernel
theorem lt_all : ∀ a < 101, ∀ b < 101, ltF (fr100 a) (fr100 b) = decide (a < b) := by decide +kernel
theorem sub_all : ∀ a < 101, Kp346.sub (1, 1) (fr100 a) = fr100 (100 - a) := by decide +kernel
theorem lt100 {a b : Nat} (ha : a ≤ 100) (hb : b ≤ 100) : ltF (fr100 a) (fr100 b) = decide (a < b) := lt_all a (by omega) b (by omega)
theorem sub100 {a : Nat} (ha : a ≤ 100) : Kp346.sub (1, 1) (fr100 a) = fr100 (100 - a) := sub_all a (by omega)
theorem min100 : ∀ (l : List Nat) (a : Nat), a ≤ 100 → (∀ x ∈ l, x ≤ 100) → (l.map fr100).foldl (fun (a b : Fr) => if ltF b a then b else a) (fr100 a) = fr100 (l.foldl min a)
  | [], _, _, _ => rfl
  | x :: l, a, ha, hl => by
    have hx := hl x (List.mem_cons_self ..)
    rw [List.map_cons, List.foldl_cons, List.foldl_cons, lt100 hx ha]
    have e : (if decide (x < a) = true then fr100 x else fr100 a) = fr100 (min a x) := by
      by_cases c : x < a
      · rw [if_pos (decide_eq_true c), Nat.min_eq_right (by omega)]
      · rw [if_neg (by simpa using c), Nat.min_eq_left (by omega)]
    rw [e]
    exact min100 l (min a x) (by omega) fun y hy => hl y (List.mem_cons_of_mem _ hy)
theorem max100 : ∀ (l : List Nat) (a : Nat), a ≤ 100 → (∀ x ∈ l, x ≤ 100) → (l.map fr100).foldl maxF (fr100 a) = fr100 (l.foldl max a)
  | [], _, _, _ => rfl
  | x :: l, a, ha, hl => by
    have hx := hl x (List.mem_cons_self ..)
    rw [List.map_cons, List.foldl_cons, List.foldl_cons]
    have e : maxF (fr100 a) (fr100 x) = fr100 (max a x) := by
      unfold maxF
      rw [lt100 ha hx]
      by_cases c : a < x
      · rw [if_pos (decide_eq_true c), Nat.max_eq_right (by omega)]
      · rw [if_neg (by simpa using c), Nat.max_eq_left (by omega)]
    rw [e]
    exact max100 l (max a x) (by omega) fun y hy => hl y (List.mem_cons_of_mem _ hy)
theorem foldMin_le : ∀ (l : List Nat) (a : Nat), a ≤ 100 → l.foldl min a ≤ 100
  | [], _, h => h
  | x :: l, a, h => foldMin_le l (min a x) (by omega)
theorem foldMax_le : ∀ (l : List Nat) (a : Nat), a ≤ 100 → (∀ x ∈ l, x ≤ 100) → l.foldl max a ≤ 100
  | [], _, h, _ => h
  | x :: l, a, h, hl => foldMax_le l (max a x) (by have := hl x (List.mem_cons_self ..); omega) fun y hy => hl y (List.mem_cons_of_mem _ hy)
def Mild (d : Desk) : Prop := ∀ i, (nodeAt d i).wrong ≤ 100
theorem hund_le {d : Desk} (h : Mild d) : ∀ f i, hund d f i ≤ 100
  | 0, _ => Nat.zero_le _
  | f + 1, i => by
    have hw := h i
    show (if (nodeAt d i).kind = 0 then (if (nodeAt d i).so = 1 then 100 - (nodeAt d i).wrong else (nodeAt d i).wrong) else _) ≤ 100
    split
    · split <;> omega
    · split
      · exact foldMin_le _ _ (Nat.le_refl _)
      · refine foldMax_le _ _ (Nat.zero_le _) fun x hx => ?_
        obtain ⟨k, _, rfl⟩ := List.mem_map.mp hx
        exact hund_le h f k
theorem goHeld_eq {d : Desk} (h : Mild d) : ∀ f i, goHeld d f i = fr100 (hund d f i)
  | 0, _ => by
    show ((0, 1) : Fr) = fr100 0
    decide +kernel
  | f + 1, i => by
    have hw := h i
    have em : (nodeAt d i).kids.map (goHeld d f) = ((nodeAt d i).kids.map (hund d f)).map fr100 := by
      rw [List.map_map]
      exact List.map_congr_left fun k _ => goHeld_eq h f k
    have hl : ∀ x ∈ (nodeAt d i).kids.map (hund d f), x ≤ 100 := fun x hx => by
      obtain ⟨k, _, rfl⟩ := List.mem_map.mp hx
      exact hund_le h f k
    show (if (nodeAt d i).kind = 0 then (if (nodeAt d i).so = 1 then fr ((100 - (nodeAt d i).wrong : Nat) : Int) 100 else fr ((nodeAt d i).wrong : Nat) 100) else
      if (nodeAt d i).kind = 1 then ((nodeAt d i).kids.map (goHeld d f)).foldl (fun (a b : Fr) => if ltF b a then b else a) (1, 1) else ((nodeAt d i).kids.map (goHeld d f)).foldl maxF (0, 1)) = fr100 (if (nodeAt d i).kind = 0 then (if (nodeAt d i).so = 1 then 100 - (nodeAt d i).wrong else (nodeAt d i).wrong) else
    if (nodeAt d i).kind = 1 then ((nodeAt d i).kids.map (hund d f)).foldl min 100 else ((nodeAt d i).kids.map (hund d f)).foldl max 0)
    by_cases k0 : (nodeAt d i).kind = 0
    · rw [if_pos k0, if_pos k0]
      by_cases s1 : (nodeAt d i).so = 1
      · rw [if_pos s1, if_pos s1]
        rfl
      · rw [if_neg s1, if_neg s1]
        rfl
    · rw [if_neg k0, if_neg k0, em]
      by_cases k1 : (nodeAt d i).kind = 1
      · rw [if_pos k1, if_pos k1, ← min100 _ 100 (Nat.le_refl _) hl, one100]
      · rw [if_neg k1, if_neg k1, ← max100 _ 0 (Nat.zero_le _) hl, zero100]
theorem held_eq {d : Desk} (h : Mild d) (i : Nat) : Kp365.held d i = fr100 (held100 d i) := goHeld_eq h _ i
theorem held100_le {d : Desk} (h : Mild d) (i : Nat) : held100 d i ≤ 100 := hund_le h _ i
theorem right_eq {d : Desk} (h : Mild d) (i : Nat) : Kp365.right d i = fr100 (right100 d i) := by
  unfold Kp365.right right100
  rw [held_eq h]
  split
  · rfl
  · exact sub100 (held100_le h i)
theorem right100_le {d : Desk} (h : Mild d) (i : Nat) : right100 d i ≤ 100 := by
  unfold right100
  have := held100_le h i
  split <;> omega
theorem hund_fuel {d : Desk} (h : Down d) : ∀ i f f', i < f → i < f' → hund d f i = hund d f' i :=
  fuel_free (hund d) (fun i k => k ∈ (nodeAt d i).kids) h fun f f' i hk => by
    have e : (nodeAt d i).kids.map (hund d f) = (nodeAt d i).kids.map (hund d f') := List.map_congr_left hk
    unfold hund
    rw [e]
theorem held100_at {d : Desk} (h : Down d) {i : Nat} (hi : i ≤ 20) : held100 d i = if (nodeAt d i).kind = 0 then (if (nodeAt d i).so = 1 then 100 - (nodeAt d i).wrong else (nodeAt d i).wrong) else
    if (nodeAt d i).kind = 1 then ((nodeAt d i).kids.map (held100 d)).foldl min 100 else ((nodeAt d i).kids.map (held100 d)).foldl max 0 := by
  have e : (nodeAt d i).kids.map (hund d 20) = (nodeAt d i).kids.map (held100 d) := List.map_congr_left fun k hk => hund_fuel h k _ _ (by have := h i k hk; omega) (by have := h i k hk; show k < 21; omega)
  rw [← e]
  rfl
end Dm

namespace Dm
open Kp365
open Kp340 (Fr fr)
open Kp346 (ltF maxF)
/-! ### What always holds of the desk -/
structure NodeOk (i : Nat) (n : Node) : Prop where
  kind : n.kind = 0 ∨ n.kind = 1 ∨ n.kind = 2
  leaf : n.kind = 0 → n.kids = [] ∧ n.so ≤ 1
  wrong : n.wrong ≤ 100
  joint : n.kind ≠ 0 → 1 ≤ n.kids.length
  few : n.kids.length ≤ 4
  kids : ∀ k ∈ n.kids, k < i
def allKids (d : Desk) : List Nat := d.nodes.flatMap (·.kids)
structure WF (d : Desk) : Prop where
  len : d.nodes.length ≤ 20
  node : ∀ (i : Nat) (n : Node), d.nodes[i]? = some n → NodeOk i n
  flat : (allKids d).Nodup
theorem nodeAt_of {d : Desk} {i : Nat} {n : Node} (h : d.nodes[i]? = some n) : nodeAt d i = n := by
  unfold nodeAt
  rw [List.getD_eq_getElem?_getD, h]
  rfl
theorem nodeAt_out {d : Desk} {i : Nat} (h : d.nodes[i]? = none) : nodeAt d i = ⟨0, 0, 0, []⟩ := by
  unfold nodeAt
  rw [List.getD_eq_getElem?_getD, h]
  rfl
theorem WF.at_ {d : Desk} (w : WF d) (i : Nat) : NodeOk i (nodeAt d i) := by
  cases e : d.nodes[i]? with
  | none =>
    rw [nodeAt_out e]
    exact ⟨.inl rfl, fun _ => ⟨rfl, Nat.zero_le _⟩, Nat.zero_le _, fun h => absurd rfl h, Nat.zero_le _, fun k hk => by cases hk⟩
  | some n =>
    rw [nodeAt_of e]
    exact w.node i n e
theorem WF.down {d : Desk} (w : WF d) : Down d := fun i k hk => (w.at_ i).kids k hk
theorem WF.mild {d : Desk} (w : WF d) : Mild d := fun i => (w.at_ i).wrong
theorem wf_empty : WF ⟨[]⟩ := ⟨Nat.zero_le _, fun i n h => by simp at h, List.nodup_nil⟩
theorem wf_push {d : Desk} (w : WF d) (hl : d.nodes.length < 20) {n : Node} (hn : NodeOk d.nodes.length n) (hf : n.kids.Nodup) (hx : ∀ k ∈ n.kids, k ∉ allKids d) : WF ⟨d.nodes ++ [n]⟩ := by
  refine ⟨by rw [List.length_append]; exact hl, fun i m h => ?_, ?_⟩
  · rw [List.getElem?_append] at h
    split at h
    · exact w.node i m h
    · have hi : i = d.nodes.length := by
        have := (List.getElem?_eq_some_iff.mp h).1
        simp at this
        omega
      subst hi
      simp at h
      subst h
      exact hn
  · show ((d.nodes ++ [n]).flatMap (·.kids)).Nodup
    rw [List.flatMap_append]
    refine List.nodup_append.mpr ⟨w.flat, by simpa using hf, fun a ha b hb e => ?_⟩
    subst e
    have hb' : a ∈ n.kids := by simpa using hb
    exact hx a hb' ha
theorem wf_pop {d : Desk} (w : WF d) : WF ⟨d.nodes.dropLast⟩ := by
  refine ⟨by have := w.len; rw [List.length_dropLast]; omega, fun i m h => ?_, ?_⟩
  · refine w.node i m ?_
    rw [List.getElem?_dropLast] at h
    split at h
    · exact h
    · cases h
  · show (d.nodes.dropLast.flatMap (·.kids)).Nodup
    by_cases he : d.nodes = []
    · rw [he]
      exact List.nodup_nil
    · have e := List.dropLast_concat_getLast he
      have f := w.flat
      unfold allKids at f
      rw [← e, List.flatMap_append] at f
      exact (List.nodup_append.mp f).1
theorem flat_set : ∀ (l : List Node) (i : Nat) (n m : Node), l[i]? = some n → m.kids = n.kids → (l.set i m).flatMap (·.kids) = l.flatMap (·.kids)
  | [], _, _, _, h, _ => by simp at h
  | a :: l, 0, n, m, h, e => by
    have ea : a = n := Option.some.inj h
    subst ea
    show m.kids ++ _ = a.kids ++ _
    rw [e]
  | a :: l, i + 1, n, m, h, e => by
    show a.kids ++ (l.set i m).flatMap (·.kids) = a.kids ++ l.flatMap (·.kids)
    rw [flat_set l i n m h e]
theorem wf_set {d : Desk} (w : WF d) {i : Nat} {n m : Node} (h : d.nodes[i]? = some n) (hm : NodeOk i m) (e : m.kids = n.kids) : WF ⟨d.nodes.set i m⟩ := by
  refine ⟨by rw [List.length_set]; exact w.len, fun j x hx => ?_, ?_⟩
  · rw [List.getElem?_set] at hx
    split at hx
    · rename_i ij
      subst ij
      split at hx
      · have : m = x := Option.some.inj hx
        subst this
        exact hm
      · cases hx
    · exact w.node j x hx
  · show ((d.nodes.set i m).flatMap (·.kids)).Nodup
    rw [flat_set _ _ _ _ h e]
    exact w.flat
theorem isNode_iff {d : Desk} {i : Nat} : isNode d i = true ↔ i < d.nodes.length := by
  unfold isNode
  exact decide_eq_true_iff
theorem getNode {d : Desk} {i : Nat} (h : i < d.nodes.length) : d.nodes[i]? = some (nodeAt d i) := by
  have e : d.nodes[i]? = some d.nodes[i] := List.getElem?_eq_getElem h
  rw [e, nodeAt_of e]
theorem isLeaf_iff {d : Desk} {i : Nat} : isLeaf d i = true ↔ (nodeAt d i).kind = 0 := by
  unfold isLeaf
  exact beq_iff_eq
theorem wf_so {d : Desk} (w : WF d) {i : Nat} (h : i < d.nodes.length) (hl : (nodeAt d i).kind = 0) : WF (withSo d i) := by
  have o := w.at_ i
  exact wf_set w (getNode h) ⟨.inl hl, fun _ => ⟨(o.leaf hl).1, by show 1 - (nodeAt d i).so ≤ 1; omega⟩, o.wrong, fun c => absurd hl c, o.few, o.kids⟩ rfl
theorem wf_wrong {d : Desk} (w : WF d) {i v : Nat} (h : i < d.nodes.length) (hv : v ≤ 100) : WF (withWrong d i v) := by
  have o := w.at_ i
  exact wf_set w (getNode h) ⟨o.kind, o.leaf, hv, o.joint, o.few, o.kids⟩ rfl
/-! ### Children that may be taken -/
theorem dups_le : ∀ (n : Nat) (l : List Nat), l.length ≤ n → l.eraseDups.length ≤ l.length
  | 0, l, h => by
    have : l = [] := List.length_eq_zero_iff.mp (by omega)
    subst this
    exact Nat.le_refl _
  | n + 1, [], _ => Nat.le_refl _
  | n + 1, a :: l, h => by
    rw [List.eraseDups_cons, List.length_cons, List.length_cons]
    have h1 := List.length_filter_le (fun b => !b == a) l
    have h2 := dups_le n (l.filter fun b => !b == a) (by have : l.length ≤ n := Nat.le_of_succ_le_succ h; omega)
    omega
theorem dups_iff : ∀ (n : Nat) (l : List Nat), l.length ≤ n → (l.eraseDups.length = l.length ↔ l.Nodup)
  | 0, l, h => by
    have : l = [] := List.length_eq_zero_iff.mp (by omega)
    subst this
    exact ⟨fun _ => List.nodup_nil, fun _ => rfl⟩
  | n + 1, [], _ => ⟨fun _ => List.nodup_nil, fun _ => rfl⟩
  | n + 1, a :: l, h => by
    have hl : l.length ≤ n := Nat.le_of_succ_le_succ h
    rw [List.eraseDups_cons, List.length_cons, List.length_cons, List.nodup_cons]
    have h1 := List.length_filter_le (fun b => !b == a) l
    have h2 := dups_le n (l.filter fun b => !b == a) (by omega)
    constructor
    · intro e
      have e1 : (l.filter fun b => !b == a).length = l.length := by omega
      have e2 : (l.filter fun b => !b == a) = l := List.filter_eq_self.mpr (List.length_filter_eq_length_iff.mp e1)
      have e3 : a ∉ l := fun m => by
        have := List.length_filter_eq_length_iff.mp e1 a m
        simp at this
      refine ⟨e3, (dups_iff n l hl).mp ?_⟩
      rw [e2] at e
      omega
    · rintro ⟨e3, nd⟩
      have e2 : (l.filter fun b => !b == a) = l := List.filter_eq_self.mpr fun b hb => by
        have : b ≠ a := fun q => e3 (q ▸ hb)
        simpa using this
      rw [e2, (dups_iff n l hl).mpr nd]
theorem free_iff {d : Desk} {j : Nat} : free d j = true ↔ j < d.nodes.length ∧ j ∉ allKids d := by
  unfold free allKids
  rw [Bool.and_eq_true, isNode_iff, Bool.not_eq_true', ← Bool.not_eq_true, List.any_eq_true, List.mem_flatMap]
  refine and_congr_right fun _ => not_congr (exists_congr fun n => and_congr_right fun _ => ?_)
  exact List.contains_iff_mem
theorem okKids_iff {d : Desk} {l : List Nat} : okKids d l = true ↔ (1 ≤ l.length ∧ l.length ≤ 4) ∧ l.Nodup ∧ ∀ k ∈ l, k < d.nodes.length ∧ k ∉ allKids d := by
  unfold okKids
  rw [Bool.and_eq_true, Bool.and_eq_true, Bool.and_eq_true, decide_eq_true_iff, decide_eq_true_iff, beq_iff_eq, dups_iff _ l (Nat.le_refl _), List.all_eq_true, and_assoc]
  exact and_congr_right fun _ => and_congr_right fun _ => forall_congr' fun k => imp_congr_right fun _ => free_iff
/-- the program's walk over the row: each child is there and not taken, the row's own count as taken -/
def chk (n : Nat) : List Nat → List Nat → Bool
  | _, [] => true
  | taken, c :: r => if n ≤ c ∨ c ∈ taken then false else chk n (taken ++ [c]) r
theorem chk_iff {n : Nat} : ∀ {r taken : List Nat}, chk n taken r = true ↔ r.Nodup ∧ ∀ k ∈ r, k < n ∧ k ∉ taken
  | [], taken => ⟨fun _ => ⟨List.nodup_nil, fun k hk => by cases hk⟩, fun _ => rfl⟩
  | c :: r, taken => by
    show (if n ≤ c ∨ c ∈ taken then false else chk n (taken ++ [c]) r) = true ↔ _
    by_cases h : n ≤ c ∨ c ∈ taken
    · rw [if_pos h]
      refine ⟨fun e => (Bool.noConfusion e), fun ⟨_, a⟩ => ?_⟩
      have := a c (List.mem_cons_self ..)
      rcases h with h | h
      · omega
      · exact absurd h this.2
    · rw [if_neg h, chk_iff (r := r), List.nodup_cons]
      have h1 : ¬ n ≤ c := fun q => h (.inl q)
      have h2 : c ∉ taken := fun q => h (.inr q)
      constructor
      · rintro ⟨nd, a⟩
        refine ⟨⟨fun m => (a c m).2 (by simp), nd⟩, fun k hk => ?_⟩
        rcases List.mem_cons.mp hk with rfl | hk
        · exact ⟨by omega, h2⟩
        · exact ⟨(a k hk).1, fun m => (a k hk).2 (List.mem_append_left _ m)⟩
      · rintro ⟨⟨nc, nd⟩, a⟩
        refine ⟨nd, fun k hk => ⟨(a k (List.mem_cons_of_mem _ hk)).1, fun m => ?_⟩⟩
        rcases List.mem_append.mp m with m | m
        · exact (a k (List.mem_cons_of_mem _ hk)).2 m
        · have : k = c := by simpa using m
          subst this
          exact nc hk
theorem okKids_chk {d : Desk} {l : List Nat} : okKids d l = true ↔ (1 ≤ l.length ∧ l.length ≤ 4) ∧ chk d.nodes.length (allKids d) l = true := by
  rw [okKids_iff, chk_iff]
theorem wf_joint {d : Desk} (w : WF d) (hl : d.nodes.length < 20) {l : List Nat} (h : okKids d l = true) {k : Nat} (hk : k = 1 ∨ k = 2) : WF ⟨d.nodes ++ [⟨k, 0, 0, l⟩]⟩ := by
  obtain ⟨⟨h1, h2⟩, nd, a⟩ := okKids_iff.mp h
  exact wf_push w hl ⟨.inr hk, fun c => by (have : k = 0 := c); omega, Nat.zero_le _, fun _ => h1, h2, fun j hj => (a j hj).1⟩ nd fun j hj => (a j hj).2
theorem wf_leaf {d : Desk} (w : WF d) (hl : d.nodes.length < 20) {s v : Nat} (hs : s ≤ 1) (hv : v ≤ 100) : WF ⟨d.nodes ++ [⟨0, s, v, []⟩]⟩ :=
  wf_push w hl ⟨.inl rfl, fun _ => ⟨rfl, hs⟩, hv, fun c => absurd rfl c, Nat.zero_le _, fun j hj => by cases hj⟩ List.nodup_nil fun j hj => by cases hj
end Dm

namespace Dm
open Kp365
/-! ### A line's calls, one behind another -/
theorem natural_iff {z : Int} : Kp365Neutral.natural z = true ↔ ∃ n : Nat, z = (n : Int) ∧ n < 4294967296 := by
  unfold Kp365Neutral.natural
  rw [Bool.and_eq_true, decide_eq_true_iff, decide_eq_true_iff]
  constructor
  · rintro ⟨h0, h1⟩
    exact ⟨z.toNat, by omega, by omega⟩
  · rintro ⟨n, rfl, h⟩
    exact ⟨by omega, by omega⟩
theorem naturals_iff : ∀ {l : List Int}, l.all Kp365Neutral.natural = true → ∃ m : List Nat, l = m.map (fun (x : Nat) => (x : Int)) ∧ ∀ x ∈ m, x < 4294967296
  | [], _ => ⟨[], rfl, fun x hx => by cases hx⟩
  | a :: l, h => by
    rw [List.all_cons, Bool.and_eq_true] at h
    obtain ⟨n, rfl, hn⟩ := natural_iff.mp h.1
    obtain ⟨m, rfl, hm⟩ := naturals_iff h.2
    refine ⟨n :: m, rfl, fun x hx => ?_⟩
    rcases List.mem_cons.mp hx with rfl | hx
    · exact hn
    · exact hm x hx
def up (l : List Nat) : List Int := l.map fun (x : Nat) => (x : Int)
theorem toNat_up (l : List Nat) : (up l).map Int.toNat = l := by
  unfold up
  rw [List.map_map]
  exact (List.map_congr_left fun x _ => rfl).trans (List.map_id l)
/-- a call's place and numbers, and which call that is -/
inductive Shaped : Int → List Int → Kp365.Call → Prop
  | begin_ : Shaped 0 [] .begin_
  | leaf (a b : Nat) : Shaped 1 [(a : Int), (b : Int)] (.leaf a b)
  | all_ (l : List Nat) : l.length ≤ 6 → Shaped 2 (up l) (.all_ l)
  | some_ (l : List Nat) : l.length ≤ 6 → Shaped 3 (up l) (.some_ l)
  | pop : Shaped 4 [] .pop
  | nodeIs (a : Nat) : Shaped 5 [(a : Int)] (.nodeIs a)
  | flip (a : Nat) : Shaped 6 [(a : Int)] (.flip a)
  | wrong (a b : Nat) : Shaped 7 [(a : Int), (b : Int)] (.wrong a b)
  | true_ (a : Nat) : Shaped 8 [(a : Int)] (.true_ a)
  | held (a : Nat) : Shaped 9 [(a : Int)] (.held a)
  | right (a : Nat) : Shaped 10 [(a : Int)] (.right a)
  | pick (a : Nat) : Shaped 11 [(a : Int)] (.pick a)
  | way (a : Nat) : Shaped 12 [(a : Int)] (.way a)
  | bySay (a : Nat) (l : List Nat) : l.length ≤ 22 → Shaped 13 ((a : Int) :: up l) (.bySay a l)
  | byDoubt (a : Nat) (l : List Nat) : l.length ≤ 22 → Shaped 14 ((a : Int) :: up l) (.byDoubt a l)
  | proof (a : Nat) : Shaped 15 [(a : Int)] (.proof a)
  | leaves (a : Nat) : Shaped 16 [(a : Int)] (.leaves a)
  | matter (a : Nat) : Shaped 17 [(a : Int)] (.matter a)
  | ifWrong (a b c : Nat) : Shaped 18 [(a : Int), (b : Int), (c : Int)] (.ifWrong a b c)
  | ifFlip (a b : Nat) : Shaped 19 [(a : Int), (b : Int)] (.ifFlip a b)
  | best (a : Nat) : Shaped 20 [(a : Int)] (.best a)
  | depth (a : Nat) : Shaped 21 [(a : Int)] (.depth a)
def stepL (st : State) (c : Kp365.Call) : State × List Int := ((Kp365.step st c).1, (Kp365.step st c).2.num :: (Kp365.step st c).2.nums)
theorem step_of {st : State} {p : List (List Int)} {c : Kp365.Call} (h : Kp365Neutral.callOf p = some c) : Kp365Neutral.step st p = stepL st c := by
  unfold Kp365Neutral.step
  rw [h]
  rfl
theorem shaped_of {c : List (List Int)} (h : Kp365Neutral.asked1 c = true) : ∃ p nums x, c = [p :: nums] ∧ Shaped p nums x ∧ Kp365Neutral.callOf c = some x := by
  unfold Kp365Neutral.asked1 at h
  split at h
  · exact ⟨0, [], _, rfl, .begin_, rfl⟩
  · rename_i a b
    rw [Bool.and_eq_true] at h
    obtain ⟨n, rfl, _⟩ := natural_iff.mp h.1
    obtain ⟨m, rfl, _⟩ := natural_iff.mp h.2
    exact ⟨1, _, _, rfl, .leaf n m, rfl⟩
  · rename_i l
    rw [Bool.and_eq_true, decide_eq_true_iff] at h
    obtain ⟨m, rfl, _⟩ := naturals_iff h.1
    refine ⟨2, _, _, rfl, .all_ m (by simpa using h.2), ?_⟩
    show some (Kp365.Call.all_ ((up m).map Int.toNat)) = _
    rw [toNat_up]
  · rename_i l
    rw [Bool.and_eq_true, decide_eq_true_iff] at h
    obtain ⟨m, rfl, _⟩ := naturals_iff h.1
    refine ⟨3, _, _, rfl, .some_ m (by simpa using h.2), ?_⟩
    show some (Kp365.Call.some_ ((up m).map Int.toNat)) = _
    rw [toNat_up]
  · exact ⟨4, [], _, rfl, .pop, rfl⟩
  · obtain ⟨n, rfl, _⟩ := natural_iff.mp h
    exact ⟨5, _, _, rfl, .nodeIs n, rfl⟩
  · obtain ⟨n, rfl, _⟩ := natural_iff.mp h
    exact ⟨6, _, _, rfl, .flip n, rfl⟩
  · rw [Bool.and_eq_true] at h
    obtain ⟨n, rfl, _⟩ := natural_iff.mp h.1
    obtain ⟨m, rfl, _⟩ := natural_iff.mp h.2
    exact ⟨7, _, _, rfl, .wrong n m, rfl⟩
  · obtain ⟨n, rfl, _⟩ := natural_iff.mp h
    exact ⟨8, _, _, rfl, .true_ n, rfl⟩
  · obtain ⟨n, rfl, _⟩ := natural_iff.mp h
    exact ⟨9, _, _, rfl, .held n, rfl⟩
  · obtain ⟨n, rfl, _⟩ := natural_iff.mp h
    exact ⟨10, _, _, rfl, .right n, rfl⟩
  · obtain ⟨n, rfl, _⟩ := natural_iff.mp h
    exact ⟨11, _, _, rfl, .pick n, rfl⟩
  · obtain ⟨n, rfl, _⟩ := natural_iff.mp h
    exact ⟨12, _, _, rfl, .way n, rfl⟩
  · rw [Bool.and_eq_true, Bool.and_eq_true, decide_eq_true_iff] at h
    obtain ⟨n, rfl, _⟩ := natural_iff.mp h.1
    obtain ⟨m, rfl, _⟩ := naturals_iff h.2.1
    refine ⟨13, _, _, rfl, .bySay n m (by simpa using h.2.2), ?_⟩
    show some (Kp365.Call.bySay n ((up m).map Int.toNat)) = _
    rw [toNat_up]
  · rw [Bool.and_eq_true, Bool.and_eq_true, decide_eq_true_iff] at h
    obtain ⟨n, rfl, _⟩ := natural_iff.mp h.1
    obtain ⟨m, rfl, _⟩ := naturals_iff h.2.1
    refine ⟨14, _, _, rfl, .byDoubt n m (by simpa using h.2.2), ?_⟩
    show some (Kp365.Call.byDoubt n ((up m).map Int.toNat)) = _
    rw [toNat_up]
  · obtain ⟨n, rfl, _⟩ := natural_iff.mp h
    exact ⟨15, _, _, rfl, .proof n, rfl⟩
  · obtain ⟨n, rfl, _⟩ := natural_iff.mp h
    exact ⟨16, _, _, rfl, .leaves n, rfl⟩
  · obtain ⟨n, rfl, _⟩ := natural_iff.mp h
    exact ⟨17, _, _, rfl, .matter n, rfl⟩
  · rw [Bool.and_eq_true, Bool.and_eq_true] at h
    obtain ⟨n, rfl, _⟩ := natural_iff.mp h.1
    obtain ⟨m, rfl, _⟩ := natural_iff.mp h.2.1
    obtain ⟨k, rfl, _⟩ := natural_iff.mp h.2.2
    exact ⟨18, _, _, rfl, .ifWrong n m k, rfl⟩
  · rw [Bool.and_eq_true] at h
    obtain ⟨n, rfl, _⟩ := natural_iff.mp h.1
    obtain ⟨m, rfl, _⟩ := natural_iff.mp h.2
    exact ⟨19, _, _, rfl, .ifFlip n m, rfl⟩
  · obtain ⟨n, rfl, _⟩ := natural_iff.mp h
    exact ⟨20, _, _, rfl, .best n, rfl⟩
  · obtain ⟨n, rfl, _⟩ := natural_iff.mp h
    exact ⟨21, _, _, rfl, .depth n, rfl⟩
  · cases h
theorem call_cut {l : List Int} {p : Int} {nums t : List Int} (h : PyWide.call l = some ([p :: nums], t)) : l = p :: (nums.length : Int) :: (nums ++ 0 :: t) := by
  match l, h with
  | [], h => cases h
  | q :: r, h =>
    unfold PyWide.call at h
    split at h
    · cases h
    · rename_i q' r' e
      cases e
      match r, h with
      | [], h => cases h
      | n :: r, h =>
        by_cases c : 0 ≤ n ∧ n.toNat ≤ r.length
        · have e : PyFlat.row (n :: r) = some (r.take n.toNat, r.drop n.toNat) := if_pos c
          rw [e] at h
          match ed : r.drop n.toNat, h with
          | [], h => cases h
          | k :: t', h =>
            by_cases hk : 0 ≤ k
            · have h' : (match PyFlat.rows k.toNat t' with
                | none => none
                | some (xs, u) => some ((q :: r.take n.toNat) :: xs, u)) = some ([p :: nums], t) := (if_pos hk).symm.trans h
              cases er : k.toNat with
              | zero =>
                rw [er] at h'
                have h2 : ((q :: r.take n.toNat) :: [], t') = ([p :: nums], t) := Option.some.inj h'
                have e1 := (Prod.mk.inj h2).1
                have e2 := (Prod.mk.inj h2).2
                have e3 := (List.cons.inj (List.cons.inj e1).1)
                have k0 : k = 0 := by omega
                have len : (nums.length : Int) = n := by
                  rw [← e3.2, List.length_take]
                  omega
                rw [← e3.1, len, ← e3.2, ← e2, ← k0, ← ed, List.take_append_drop]
              | succ j =>
                rw [er] at h'
                exfalso
                unfold PyFlat.rows at h'
                split at h'
                · cases h'
                · rename_i e0
                  split at e0
                  · cases e0
                  · split at e0
                    · cases e0
                    · cases e0
                      cases h'
            · have : (none : Option (List (List Int) × List Int)) = some ([p :: nums], t) := (if_neg hk).symm.trans h
              cases this
        · have e : PyFlat.row (n :: r) = none := if_neg c
          rw [e] at h
          cases h
end Dm

namespace Dm
open Kp365
/-- between two turns of the walk over a line -/
structure Walked (ns : List Int) (i : Nat) (st : State) (told : List Int) : Prop where
  le : i ≤ ns.length
  rest : ∃ f cs, PyWide.calls f (ns.drop i) = some cs ∧ (∀ c ∈ cs, Kp365Neutral.asked1 c = true) ∧ told ++ PyFlat.told (PyFlat.played Kp365Neutral.step st cs) = PyKp365.answers ns
theorem walked_start {ns : List Int} (h : PyKp365.answers_asked ns = true) : Walked ns 0 none [] := by
  refine ⟨Nat.zero_le _, ?_⟩
  unfold PyKp365.answers_asked at h
  split at h
  · cases h
  · rename_i cs e
    rw [Bool.and_eq_true, Bool.and_eq_true] at h
    have ha := h.1.2
    unfold Kp365Neutral.asked at ha
    rw [Bool.and_eq_true, Bool.and_eq_true, List.all_eq_true] at ha
    refine ⟨ns.length, cs, e, ha.2.2, ?_⟩
    unfold PyKp365.answers
    rw [e]
    rfl
theorem asked_short {ns : List Int} (h : PyKp365.answers_asked ns = true) : (PyKp365.answers ns).length ≤ 10000000 := by
  unfold PyKp365.answers_asked at h
  split at h
  · cases h
  · rw [Bool.and_eq_true] at h
    exact decide_eq_true_iff.mp h.2
theorem Walked.len {ns : List Int} {i : Nat} {st : State} {told : List Int} (w : Walked ns i st told) : told.length ≤ (PyKp365.answers ns).length := by
  obtain ⟨f, cs, _, _, e⟩ := w.rest
  rw [← e, List.length_append]
  exact Nat.le_add_right _ _
theorem Walked.done {ns : List Int} {st : State} {told : List Int} (w : Walked ns ns.length st told) : told = PyKp365.answers ns := by
  obtain ⟨f, cs, h, _, e⟩ := w.rest
  rw [List.drop_length] at h
  have : cs = [] := by
    cases f <;> exact (Option.some.inj h).symm
  subst this
  rw [← e]
  exact (List.append_nil _).symm
theorem Walked.turn {ns : List Int} {i : Nat} {st : State} {told : List Int} (w : Walked ns i st told) (hi : i < ns.length) : ∃ p nums c, ns[i]? = some p ∧ ns[i + 1]? = some (nums.length : Int) ∧ (ns.drop (i + 2)).take nums.length = nums ∧ i + 2 + nums.length < ns.length ∧
    Shaped p nums c ∧ Walked ns (i + 3 + nums.length) (stepL st c).1 (told ++ (((stepL st c).2.length : Int) :: (stepL st c).2)) := by
  obtain ⟨f, cs, h, ha, e⟩ := w.rest
  have hd : ns.drop i ≠ [] := fun q => by
    have := congrArg List.length q
    rw [List.length_drop] at this
    simp at this
    omega
  match f, ed : ns.drop i, h with
  | _, [], _ => exact absurd ed hd
  | 0, _ :: _, h => cases h
  | f + 1, p :: r, h =>
    unfold PyWide.calls at h
    split at h
    · cases h
    · rename_i c0 t ec
      split at h
      · cases h
      · rename_i cs' ecs
        have ecs0 : c0 :: cs' = cs := Option.some.inj h
        subst ecs0
        obtain ⟨q, nums, x, rfl, sh, co⟩ := shaped_of (ha c0 (List.mem_cons_self ..))
        have cut := call_cut ec
        rw [cut] at ed
        have at0 : ∀ j, ns[i + j]? = (q :: (nums.length : Int) :: (nums ++ 0 :: t))[j]? := fun j => by
          rw [← ed, List.getElem?_drop]
        have lens : ns.length = i + (nums.length + t.length + 3) := by
          have := congrArg List.length ed
          rw [List.length_drop] at this
          simp at this
          omega
        have d2 : ns.drop (i + 2) = nums ++ 0 :: t := by
          rw [← List.drop_drop, ed]
          rfl
        have d3 : ns.drop (i + 3 + nums.length) = t := by
          rw [show i + 3 + nums.length = i + 2 + (nums.length + 1) by omega, ← List.drop_drop, d2, ← List.drop_drop, List.drop_left]
          rfl
        refine ⟨q, nums, x, at0 0, at0 1, ?_, by omega, sh, by omega, f, cs', ?_, fun c hc => ha c (List.mem_cons_of_mem _ hc), ?_⟩
        · rw [d2, List.take_left]
        · rw [d3]
          exact ecs
        · rw [← e]
          have es : Kp365Neutral.step st [q :: nums] = stepL st x := step_of co
          show _ = told ++ (PyFlat.told ((Kp365Neutral.step st [q :: nums]).2 :: PyFlat.played Kp365Neutral.step (Kp365Neutral.step st [q :: nums]).1 cs'))
          rw [es, List.append_assoc]
          rfl
end Dm

namespace Dm
open Kp365
/-! ### Bits, least and greatest -/
def bitN (d : Desk) (i : Nat) : Nat := if isTrue d i then 1 else 0
theorem min_bits {p : Nat → Bool} : ∀ (l : List Nat) (b : Bool), (l.map fun k => if p k then 1 else 0).foldl min (if b then 1 else 0) = if b && l.all p then 1 else 0
  | [], b => by simp
  | x :: l, b => by
    have e : min (if b = true then 1 else 0) (if p x = true then 1 else 0) = if (b && p x) = true then 1 else 0 := by cases b <;> cases p x <;> rfl
    rw [List.map_cons, List.foldl_cons, e, min_bits l (b && p x), List.all_cons, Bool.and_assoc]
theorem max_bits {p : Nat → Bool} : ∀ (l : List Nat) (b : Bool), (l.map fun k => if p k then 1 else 0).foldl max (if b then 1 else 0) = if b || l.any p then 1 else 0
  | [], b => by simp
  | x :: l, b => by
    have e : max (if b = true then 1 else 0) (if p x = true then 1 else 0) = if (b || p x) = true then 1 else 0 := by cases b <;> cases p x <;> rfl
    rw [List.map_cons, List.foldl_cons, e, max_bits l (b || p x), List.any_cons, Bool.or_assoc]
theorem min_all {p : Nat → Bool} {l : List Nat} (h : 1 ≤ l.length) : (l.map fun k => if p k then 1 else 0).foldl min 100 = if l.all p then 1 else 0 := by
  match l, h with
  | x :: l, _ =>
    have e : min 100 (if p x = true then 1 else 0) = if p x = true then 1 else 0 := by cases p x <;> rfl
    rw [List.map_cons, List.foldl_cons, e, min_bits l (p x), List.all_cons]
theorem max_any {p : Nat → Bool} {l : List Nat} : (l.map fun k => if p k then 1 else 0).foldl max 0 = if l.any p then 1 else 0 := by
  have := max_bits (p := p) l false
  simpa using this
theorem foldMin_least : ∀ (l : List Nat) (a : Nat), l.foldl min a ≤ a ∧ (∀ x ∈ l, l.foldl min a ≤ x) ∧ (l.foldl min a = a ∨ l.foldl min a ∈ l)
  | [], a => ⟨Nat.le_refl _, (fun x hx => nomatch hx), .inl rfl⟩
  | y :: l, a => by
    obtain ⟨h1, h2, h3⟩ := foldMin_least l (min a y)
    rw [List.foldl_cons]
    refine ⟨by omega, fun x hx => ?_, ?_⟩
    · rcases List.mem_cons.mp hx with rfl | hx
      · omega
      · exact h2 x hx
    · rcases h3 with h3 | h3
      · by_cases c : a ≤ y
        · exact .inl (by rw [h3]; omega)
        · exact .inr (List.mem_cons.mpr (.inl (by rw [h3]; omega)))
      · exact .inr (List.mem_cons_of_mem _ h3)
theorem foldMax_most : ∀ (l : List Nat) (a : Nat), a ≤ l.foldl max a ∧ (∀ x ∈ l, x ≤ l.foldl max a) ∧ (l.foldl max a = a ∨ l.foldl max a ∈ l)
  | [], a => ⟨Nat.le_refl _, (fun x hx => nomatch hx), .inl rfl⟩
  | y :: l, a => by
    obtain ⟨h1, h2, h3⟩ := foldMax_most l (max a y)
    rw [List.foldl_cons]
    refine ⟨by omega, fun x hx => ?_, ?_⟩
    · rcases List.mem_cons.mp hx with rfl | hx
      · omega
      · exact h2 x hx
    · rcases h3 with h3 | h3
      · by_cases c : y ≤ a
        · exact .inl (by rw [h3]; omega)
        · exact .inr (List.mem_cons.mpr (.inl (by rw [h3]; omega)))
      · exact .inr (List.mem_cons_of_mem _ h3)
/-- what min hands back is the fold -/
theorem min_is {l : List Nat} {m : Nat} (hl : ∀ x ∈ l, x ≤ 100) (hm : m ∈ l) (le : ∀ x ∈ l, m ≤ x) : l.foldl min 100 = m := by
  obtain ⟨h1, h2, h3⟩ := foldMin_least l 100
  have a := h2 m hm
  rcases h3 with h3 | h3
  · have := hl m hm
    omega
  · have := le _ h3
    omega
theorem max_is {l : List Nat} {m : Nat} (hm : m ∈ l) (le : ∀ x ∈ l, x ≤ m) : l.foldl max 0 = m := by
  obtain ⟨h1, h2, h3⟩ := foldMax_most l 0
  have a := h2 m hm
  rcases h3 with h3 | h3
  · omega
  · have := le _ h3
    omega
theorem bitN_le (d : Desk) (i : Nat) : bitN d i ≤ 1 := by
  unfold bitN
  split <;> omega
theorem bitN_leaf {d : Desk} (w : WF d) {i : Nat} (hi : i ≤ 20) (k : (nodeAt d i).kind = 0) : bitN d i = (nodeAt d i).so := by
  have o := (w.at_ i).leaf k
  unfold bitN
  rw [isTrue_eq w.down hi, if_pos k]
  by_cases s : (nodeAt d i).so = 1
  · rw [s]
    rfl
  · have : (nodeAt d i).so = 0 := by omega
    rw [this]
    rfl
theorem bitN_joint {d : Desk} (w : WF d) {i : Nat} (hi : i ≤ 20) (k : ¬ (nodeAt d i).kind = 0) : bitN d i = if (nodeAt d i).kind = 1 then ((nodeAt d i).kids.map (bitN d)).foldl min 100 else ((nodeAt d i).kids.map (bitN d)).foldl max 0 := by
  have e1 := min_all (p := isTrue d) ((w.at_ i).joint k)
  have e2 := max_any (p := isTrue d) (l := (nodeAt d i).kids)
  unfold bitN
  rw [isTrue_eq w.down hi, if_neg k]
  split
  · exact e1.symm
  · exact e2.symm
theorem held_leaf {d : Desk} (w : WF d) {i : Nat} (hi : i ≤ 20) (k : (nodeAt d i).kind = 0) : held100 d i = if (nodeAt d i).so = 1 then 100 - (nodeAt d i).wrong else (nodeAt d i).wrong := by
  rw [held100_at w.down hi, if_pos k]
theorem held_joint {d : Desk} (w : WF d) {i : Nat} (hi : i ≤ 20) (k : ¬ (nodeAt d i).kind = 0) : held100 d i = if (nodeAt d i).kind = 1 then ((nodeAt d i).kids.map (held100 d)).foldl min 100 else ((nodeAt d i).kids.map (held100 d)).foldl max 0 := by
  rw [held100_at w.down hi, if_neg k]
/-- the first i values, and those of the children among them -/
theorem kids_vals {d : Desk} (w : WF d) (f : Nat → Nat) (i : Nat) : ((nodeAt d i).kids.map fun k => ((List.range i).map f).getD k 0) = (nodeAt d i).kids.map f := by
  refine List.map_congr_left fun k hk => ?_
  have lt := (w.at_ i).kids k hk
  rw [List.getD_eq_getElem?_getD, List.getElem?_map, List.getElem?_range lt]
  rfl
theorem fr100_eq (h : Nat) : fr100 h = (((h / Nat.gcd h 100 : Nat) : Int), ((100 / Nat.gcd h 100 : Nat) : Int)) := by
  have g : ¬ Nat.gcd h 100 = 0 := fun e => by
    have := Nat.gcd_pos_of_pos_right h (show 0 < 100 by decide)
    omega
  show (if (100 : Int) < 0 then (-(h : Int) / (if Nat.gcd h 100 = 0 then (1 : Int) else (Nat.gcd h 100 : Int)), -(100 : Int) / (if Nat.gcd h 100 = 0 then (1 : Int) else (Nat.gcd h 100 : Int))) else ((h : Int) / (if Nat.gcd h 100 = 0 then (1 : Int) else (Nat.gcd h 100 : Int)), (100 : Int) / (if Nat.gcd h 100 = 0 then (1 : Int) else (Nat.gcd h 100 : Int)))) = _
  rw [if_neg (by decide), if_neg g]
  rfl
theorem gcd_turn (x y : Nat) : Nat.gcd y (x % y) = Nat.gcd x y := by
  rw [Nat.gcd_comm y (x % y), ← Nat.gcd_rec, Nat.gcd_comm]
end Dm

namespace Dm
open Kp365
open Kp340 (Fr fr)
open Kp346 (ltF maxF)
/-! ### Leaves, depth, the way -/
theorem under_fuel {d : Desk} (h : Down d) : ∀ i f f', i < f → i < f' → goUnder d f i = goUnder d f' i :=
  fuel_free (goUnder d) (fun i k => k ∈ (nodeAt d i).kids) h fun f f' i hk => by
    show (if (nodeAt d i).kind = 0 then [i] else (nodeAt d i).kids.flatMap (goUnder d f)) = (if (nodeAt d i).kind = 0 then [i] else (nodeAt d i).kids.flatMap (goUnder d f'))
    rw [flat_same hk]
theorem leaves_eq {d : Desk} (h : Down d) {i : Nat} (hi : i ≤ 20) : leaves d i = if (nodeAt d i).kind = 0 then [i] else (nodeAt d i).kids.flatMap (leaves d) := by
  have hk : ∀ k ∈ (nodeAt d i).kids, goUnder d 20 k = leaves d k := fun k hk => under_fuel h k _ _ (by have := h i k hk; omega) (by have := h i k hk; show k < 21; omega)
  rw [← flat_same hk]
  rfl
def depthD (d : Desk) (i : Nat) : Nat := Kp365.depth d (NODES + 1) i
theorem depth_fuel {d : Desk} (h : Down d) : ∀ i f f', i < f → i < f' → Kp365.depth d f i = Kp365.depth d f' i :=
  fuel_free (Kp365.depth d) (fun i k => k ∈ (nodeAt d i).kids) h fun f f' i hk => by
    have e : (nodeAt d i).kids.map (Kp365.depth d f) = (nodeAt d i).kids.map (Kp365.depth d f') := List.map_congr_left hk
    show (if (nodeAt d i).kind = 0 then 0 else 1 + ((nodeAt d i).kids.map (Kp365.depth d f)).foldl max 0) = (if (nodeAt d i).kind = 0 then 0 else 1 + ((nodeAt d i).kids.map (Kp365.depth d f')).foldl max 0)
    rw [e]
theorem depthD_eq {d : Desk} (h : Down d) {i : Nat} (hi : i ≤ 20) : depthD d i = if (nodeAt d i).kind = 0 then 0 else 1 + ((nodeAt d i).kids.map (depthD d)).foldl max 0 := by
  have e : (nodeAt d i).kids.map (Kp365.depth d 20) = (nodeAt d i).kids.map (depthD d) := List.map_congr_left fun k hk => depth_fuel h k _ _ (by have := h i k hk; omega) (by have := h i k hk; show k < 21; omega)
  rw [← e]
  rfl
/-- the first of the best: by a fold, by a search -/
theorem first_best (f : Nat → Nat) (lt : Nat → Nat → Bool) (tot : ∀ a b, lt a b = false → lt b a = false → a = b) (tr : ∀ a b c, lt a b = false → lt b c = false → lt a c = false) (irr : ∀ a, lt a a = false) (asy : ∀ a b, lt a b = true → lt b a = false) :
    ∀ (l : List Nat) (k : Nat), ∃ r, l.foldl (fun (b : Option Nat) (c : Nat) => match b with
      | none => some c
      | some k => if lt (f c) (f k) then some c else b) (some k) = some r ∧ r ∈ k :: l ∧ (∀ x ∈ k :: l, lt (f x) (f r) = false) ∧ (k :: l).find? (fun c => f c == f r) = some r
  | [], k => ⟨k, rfl, List.mem_cons_self .., fun x hx => by
      have : x = k := by simpa using hx
      rw [this]
      exact irr _, by simp⟩
  | c :: l, k => by
    by_cases h : lt (f c) (f k) = true
    · obtain ⟨r, e, m, all, fd⟩ := first_best f lt tot tr irr asy l c
      refine ⟨r, ?_, List.mem_cons_of_mem _ m, fun x hx => ?_, ?_⟩
      · rw [List.foldl_cons]
        show List.foldl _ (if lt (f c) (f k) = true then some c else some k) l = some r
        rw [if_pos h]
        exact e
      · rcases List.mem_cons.mp hx with rfl | hx
        · have h1 := all c (List.mem_cons_self ..)
          exact tr _ _ _ (asy _ _ h) h1
        · exact all x hx
      · have ne : (f k == f r) = false := by
          have h1 := all c (List.mem_cons_self ..)
          cases q : (f k == f r) with
          | false => rfl
          | true =>
            rw [← eq_of_beq q, h] at h1
            cases h1
        rw [List.find?_cons, ne]
        exact fd
    · have h' : lt (f c) (f k) = false := by simpa using h
      obtain ⟨r, e, m, all, fd⟩ := first_best f lt tot tr irr asy l k
      refine ⟨r, ?_, ?_, fun x hx => ?_, ?_⟩
      · rw [List.foldl_cons]
        show List.foldl _ (if lt (f c) (f k) = true then some c else some k) l = some r
        rw [if_neg h]
        exact e
      · rcases List.mem_cons.mp m with rfl | m
        · exact List.mem_cons_self ..
        · exact List.mem_cons_of_mem _ (List.mem_cons_of_mem _ m)
      · rcases List.mem_cons.mp hx with rfl | hx
        · exact all x (List.mem_cons_self ..)
        · rcases List.mem_cons.mp hx with rfl | hx
          · exact tr _ _ _ h' (all k (List.mem_cons_self ..))
          · exact all x (List.mem_cons_of_mem _ hx)
      · rw [List.find?_cons] at fd ⊢
        cases q : (f k == f r) with
        | true =>
          rw [q] at fd
          exact fd
        | false =>
          rw [q] at fd
          have ne : (f c == f r) = false := by
            cases q2 : (f c == f r) with
            | false => rfl
            | true =>
              have e2 := eq_of_beq q2
              have h1 := all k (List.mem_cons_self ..)
              rw [e2] at h'
              have := tot _ _ h1 h'
              rw [this] at q
              simp at q
          show List.find? _ (c :: l) = some r
          rw [List.find?_cons, ne]
          exact fd
theorem pick_leaf {d : Desk} {i : Nat} (k : (nodeAt d i).kind = 0) : Kp365.pick d i = none := by
  unfold Kp365.pick
  exact if_pos k
/-- picked is the first child that is held just as often as the node -/
theorem pick_joint {d : Desk} (w : WF d) {i : Nat} (hi : i ≤ 20) (k : ¬ (nodeAt d i).kind = 0) : ∃ r, Kp365.pick d i = some r ∧ r ∈ (nodeAt d i).kids ∧ (nodeAt d i).kids.find? (fun c => held100 d c == held100 d i) = some r := by
  have ml := w.mild
  have hj := (w.at_ i).joint k
  have hh := held_joint w hi k
  have e0 : Kp365.pick d i = (nodeAt d i).kids.foldl (fun (b : Option Nat) (c : Nat) => match b with
    | none => some c
    | some k => if (nodeAt d i).kind = 1 then (if ltF (held d c) (held d k) then some c else b) else (if ltF (held d k) (held d c) then some c else b)) none := by
    unfold Kp365.pick
    exact if_neg k
  have lts : ∀ a b, ltF (held d a) (held d b) = decide (held100 d a < held100 d b) := fun a b => by
    rw [held_eq ml, held_eq ml, lt100 (held100_le ml a) (held100_le ml b)]
  match ek : (nodeAt d i).kids, hj with
  | x :: l, _ =>
    rw [ek] at e0 hh
    by_cases k1 : (nodeAt d i).kind = 1
    · have ef : (fun (b : Option Nat) (c : Nat) => match b with
        | none => some c
        | some k => if (nodeAt d i).kind = 1 then (if ltF (held d c) (held d k) then some c else b) else (if ltF (held d k) (held d c) then some c else b)) = (fun (b : Option Nat) (c : Nat) => match b with
        | none => some c
        | some k => if (fun a b => decide (a < b)) (held100 d c) (held100 d k) then some c else b) := by
        funext b c
        cases b with
        | none => rfl
        | some z =>
          show (if (nodeAt d i).kind = 1 then (if ltF (held d c) (held d z) then some c else some z) else _) = if decide (held100 d c < held100 d z) = true then some c else some z
          rw [if_pos k1, lts]
      obtain ⟨r, e, m, all, fd⟩ := first_best (held100 d) (fun a b => decide (a < b)) (fun a b h1 h2 => by have := of_decide_eq_false h1; have := of_decide_eq_false h2; omega) (fun a b c h1 h2 => by have := of_decide_eq_false h1; have := of_decide_eq_false h2; exact decide_eq_false (by omega)) (fun a => decide_eq_false (by omega)) (fun a b h => by have := of_decide_eq_true h; exact decide_eq_false (by omega)) l x
      rw [ef] at e0
      have er : held100 d r = held100 d i := by
        rw [hh, if_pos k1]
        refine (min_is (fun y hy => ?_) (List.mem_map.mpr ⟨r, m, rfl⟩) fun y hy => ?_).symm
        · obtain ⟨c, _, rfl⟩ := List.mem_map.mp hy
          exact held100_le ml c
        · obtain ⟨c, hc, rfl⟩ := List.mem_map.mp hy
          have := of_decide_eq_false (all c hc)
          omega
      rw [← er]
      exact ⟨r, e0.trans e, m, fd⟩
    · have ef : (fun (b : Option Nat) (c : Nat) => match b with
        | none => some c
        | some k => if (nodeAt d i).kind = 1 then (if ltF (held d c) (held d k) then some c else b) else (if ltF (held d k) (held d c) then some c else b)) = (fun (b : Option Nat) (c : Nat) => match b with
        | none => some c
        | some k => if (fun a b => decide (b < a)) (held100 d c) (held100 d k) then some c else b) := by
        funext b c
        cases b with
        | none => rfl
        | some z =>
          show (if (nodeAt d i).kind = 1 then _ else (if ltF (held d z) (held d c) then some c else some z)) = if decide (held100 d z < held100 d c) = true then some c else some z
          rw [if_neg k1, lts]
      obtain ⟨r, e, m, all, fd⟩ := first_best (held100 d) (fun a b => decide (b < a)) (fun a b h1 h2 => by have := of_decide_eq_false h1; have := of_decide_eq_false h2; omega) (fun a b c h1 h2 => by have := of_decide_eq_false h1; have := of_decide_eq_false h2; exact decide_eq_false (by omega)) (fun a => decide_eq_false (by omega)) (fun a b h => by have := of_decide_eq_true h; exact decide_eq_false (by omega)) l x
      rw [ef] at e0
      have er : held100 d r = held100 d i := by
        rw [hh, if_neg k1]
        refine (max_is (List.mem_map.mpr ⟨r, m, rfl⟩) fun y hy => ?_).symm
        obtain ⟨c, hc, rfl⟩ := List.mem_map.mp hy
        have := of_decide_eq_false (all c hc)
        omega
      rw [← er]
      exact ⟨r, e0.trans e, m, fd⟩
def wayD (d : Desk) (i : Nat) : List Nat := way d (NODES + 1) i
theorem way_fuel {d : Desk} (h : Down d) (hp : ∀ i k, Kp365.pick d i = some k → k ∈ (nodeAt d i).kids) : ∀ i f f', i < f → i < f' → way d f i = way d f' i :=
  fuel_free (way d) (fun i k => Kp365.pick d i = some k) (fun i k e => h i k (hp i k e)) fun f f' i hk => by
    show (match Kp365.pick d i with
      | none => [i]
      | some k => i :: way d f k) = (match Kp365.pick d i with
      | none => [i]
      | some k => i :: way d f' k)
    cases e : Kp365.pick d i with
    | none => rfl
    | some k =>
      show i :: way d f k = i :: way d f' k
      rw [hk k e]
theorem pick_mem {d : Desk} (w : WF d) {i k : Nat} (e : Kp365.pick d i = some k) : k ∈ (nodeAt d i).kids := by
  by_cases hk : (nodeAt d i).kind = 0
  · rw [pick_leaf hk] at e
    cases e
  · by_cases hi : i ≤ 20
    · obtain ⟨r, e', m, _⟩ := pick_joint w hi hk
      rw [e'] at e
      cases e
      exact m
    · have : d.nodes[i]? = none := List.getElem?_eq_none (by have := w.len; omega)
      rw [nodeAt_out this] at hk
      exact absurd rfl hk
theorem wayD_leaf {d : Desk} {i : Nat} (k : (nodeAt d i).kind = 0) : wayD d i = [i] := by
  show (match Kp365.pick d i with
      | none => [i]
      | some k => i :: way d 20 k) = [i]
  rw [pick_leaf k]
theorem wayD_joint {d : Desk} (w : WF d) {i k : Nat} (hi : i ≤ 20) (e : Kp365.pick d i = some k) : wayD d i = i :: wayD d k := by
  show (match Kp365.pick d i with
      | none => [i]
      | some k => i :: way d 20 k) = i :: way d 21 k
  rw [e]
  have lt := w.down i k (pick_mem w e)
  exact congrArg _ (way_fuel w.down (fun i k e => pick_mem w e) k 20 21 (by omega) (by omega))
/-! ### By told picks, in hundredths -/
def byN (d : Desk) (kind : Nat) (ps : List Nat) : Nat → Nat → Nat
  | 0, _ => 0
  | f + 1, i => if (nodeAt d i).kind = 0 then held100 d i else
    if (nodeAt d i).kind = kind then ((nodeAt d i).kids.map (byN d kind ps f)).getD (ps.getD i 0) (((nodeAt d i).kids.map (byN d kind ps f)).headD 0) else
    if (nodeAt d i).kind = 1 then ((nodeAt d i).kids.map (byN d kind ps f)).foldl min 100 else ((nodeAt d i).kids.map (byN d kind ps f)).foldl max 0
def by100 (d : Desk) (kind : Nat) (ps : List Nat) (i : Nat) : Nat := byN d kind ps (NODES + 1) i
theorem getD_map {α β : Type} (f : α → β) (l : List α) (j : Nat) (x : α) : (l.map f).getD j (f x) = f (l.getD j x) := by
  rw [List.getD_eq_getElem?_getD, List.getD_eq_getElem?_getD, List.getElem?_map]
  cases l[j]? <;> rfl
theorem headD_map {α β : Type} (f : α → β) (l : List α) (x : α) : (l.map f).headD (f x) = f (l.headD x) := by
  cases l <;> rfl
theorem byN_le {d : Desk} (h : Mild d) {kind : Nat} {ps : List Nat} : ∀ f i, byN d kind ps f i ≤ 100
  | 0, _ => Nat.zero_le _
  | f + 1, i => by
    have hl : ∀ x ∈ (nodeAt d i).kids.map (byN d kind ps f), x ≤ 100 := fun x hx => by
      obtain ⟨k, _, rfl⟩ := List.mem_map.mp hx
      exact byN_le h f k
    show (if (nodeAt d i).kind = 0 then held100 d i else _) ≤ 100
    split
    · exact held100_le h i
    · split
      · rw [List.getD_eq_getElem?_getD]
        cases e : ((nodeAt d i).kids.map (byN d kind ps f))[ps.getD i 0]? with
        | some x => exact hl x (List.mem_of_getElem? e)
        | none =>
          show ((nodeAt d i).kids.map (byN d kind ps f)).headD 0 ≤ 100
          cases e2 : (nodeAt d i).kids.map (byN d kind ps f) with
          | nil => exact Nat.zero_le _
          | cons x l => exact hl x (by rw [e2]; exact List.mem_cons_self ..)
      · split
        · exact foldMin_le _ _ (Nat.le_refl _)
        · exact foldMax_le _ _ (Nat.zero_le _) hl
theorem goBy_eq {d : Desk} (h : Mild d) {kind : Nat} {ps : List Nat} : ∀ f i, goBy d kind ps f i = fr100 (byN d kind ps f i)
  | 0, _ => zero100.symm
  | f + 1, i => by
    have em : (nodeAt d i).kids.map (goBy d kind ps f) = ((nodeAt d i).kids.map (byN d kind ps f)).map fr100 := by
      rw [List.map_map]
      exact List.map_congr_left fun k _ => goBy_eq h f k
    have hl : ∀ x ∈ (nodeAt d i).kids.map (byN d kind ps f), x ≤ 100 := fun x hx => by
      obtain ⟨k, _, rfl⟩ := List.mem_map.mp hx
      exact byN_le h f k
    show (if (nodeAt d i).kind = 0 then held d i else
      if (nodeAt d i).kind = kind then ((nodeAt d i).kids.map (goBy d kind ps f)).getD (ps.getD i 0) (((nodeAt d i).kids.map (goBy d kind ps f)).headD (0, 1)) else
      if (nodeAt d i).kind = 1 then ((nodeAt d i).kids.map (goBy d kind ps f)).foldl (fun (a b : Fr) => if ltF b a then b else a) (1, 1) else ((nodeAt d i).kids.map (goBy d kind ps f)).foldl maxF (0, 1)) = fr100 (byN d kind ps (f + 1) i)
    rw [em]
    unfold byN
    by_cases k0 : (nodeAt d i).kind = 0
    · rw [if_pos k0, if_pos k0]
      exact held_eq h i
    · rw [if_neg k0, if_neg k0]
      by_cases kk : (nodeAt d i).kind = kind
      · rw [if_pos kk, if_pos kk, ← zero100, headD_map, getD_map]
      · rw [if_neg kk, if_neg kk]
        by_cases k1 : (nodeAt d i).kind = 1
        · rw [if_pos k1, if_pos k1, ← min100 _ 100 (Nat.le_refl _) hl, one100]
        · rw [if_neg k1, if_neg k1, ← max100 _ 0 (Nat.zero_le _) hl, zero100]
theorem by_eq {d : Desk} (h : Mild d) (kind : Nat) (ps : List Nat) (i : Nat) : by_ d kind ps i = fr100 (by100 d kind ps i) := goBy_eq h _ i
theorem by100_le {d : Desk} (h : Mild d) (kind : Nat) (ps : List Nat) (i : Nat) : by100 d kind ps i ≤ 100 := byN_le h _ i
theorem by_fuel {d : Desk} (h : Down d) {kind : Nat} {ps : List Nat} : ∀ i f f', i < f → i < f' → byN d kind ps f i = byN d kind ps f' i :=
  fuel_free (byN d kind ps) (fun i k => k ∈ (nodeAt d i).kids) h fun f f' i hk => by
    have e : (nodeAt d i).kids.map (byN d kind ps f) = (nodeAt d i).kids.map (byN d kind ps f') := List.map_congr_left hk
    unfold byN
    rw [e]
theorem by100_at {d : Desk} (h : Down d) {kind : Nat} {ps : List Nat} {i : Nat} (hi : i ≤ 20) : by100 d kind ps i = if (nodeAt d i).kind = 0 then held100 d i else
    if (nodeAt d i).kind = kind then ((nodeAt d i).kids.map (by100 d kind ps)).getD (ps.getD i 0) (((nodeAt d i).kids.map (by100 d kind ps)).headD 0) else
    if (nodeAt d i).kind = 1 then ((nodeAt d i).kids.map (by100 d kind ps)).foldl min 100 else ((nodeAt d i).kids.map (by100 d kind ps)).foldl max 0 := by
  have e : (nodeAt d i).kids.map (byN d kind ps 20) = (nodeAt d i).kids.map (by100 d kind ps) := List.map_congr_left fun k hk => by_fuel h k _ _ (by have := h i k hk; omega) (by have := h i k hk; show k < 21; omega)
  rw [← e]
  rfl
end Dm

namespace Dm
open Kp365
/-! ### Proofs -/
abbrev PL := Option (List Nat)
def allC (ps : List PL) (a : PL) : PL := ps.foldl (fun (a : PL) (b : PL) => a.bind fun x => b.map fun y => x ++ y) a
def stepO (a b : PL) : PL := match a, b with
  | none, y => y
  | x, none => x
  | some x, some y => if y.length < x.length then some y else some x
def oneC (ps : List PL) (a : PL) : PL := ps.foldl stepO a
theorem proof_step (d : Desk) (want : Bool) (f i : Nat) : goProof d want (f + 1) i = if (nodeAt d i).kind = 0 then (if ((nodeAt d i).so == 1) == want then some [i] else none) else
    if ((nodeAt d i).kind = 1) = (want = true) then allC ((nodeAt d i).kids.map (goProof d want f)) (some []) else oneC ((nodeAt d i).kids.map (goProof d want f)) none := rfl
theorem proof_fuel {d : Desk} (h : Down d) {want : Bool} : ∀ i f f', i < f → i < f' → goProof d want f i = goProof d want f' i :=
  fuel_free (goProof d want) (fun i k => k ∈ (nodeAt d i).kids) h fun f f' i hk => by
    have e : (nodeAt d i).kids.map (goProof d want f) = (nodeAt d i).kids.map (goProof d want f') := List.map_congr_left hk
    rw [proof_step, proof_step, e]
def prove (d : Desk) (want : Bool) (i : Nat) : PL := goProof d want (NODES + 1) i
theorem prove_at {d : Desk} (h : Down d) {want : Bool} {i : Nat} (hi : i ≤ 20) : prove d want i = if (nodeAt d i).kind = 0 then (if ((nodeAt d i).so == 1) == want then some [i] else none) else
    if ((nodeAt d i).kind = 1) = (want = true) then allC ((nodeAt d i).kids.map (prove d want)) (some []) else oneC ((nodeAt d i).kids.map (prove d want)) none := by
  have e : (nodeAt d i).kids.map (goProof d want 20) = (nodeAt d i).kids.map (prove d want) := List.map_congr_left fun k hk => proof_fuel h k _ _ (by have := h i k hk; omega) (by have := h i k hk; show k < 21; omega)
  rw [← e]
  rfl
theorem allC_none : ∀ (ps : List PL), allC ps none = none
  | [] => rfl
  | _ :: ps => allC_none ps
theorem allC_some {g : Nat → PL} {h : Nat → List Nat} : ∀ (l : List Nat) (acc : List Nat), (∀ k ∈ l, g k = some (h k)) → allC (l.map g) (some acc) = some (acc ++ l.flatMap h)
  | [], acc, _ => by
    show some acc = some (acc ++ [])
    rw [List.append_nil]
  | k :: l, acc, hk => by
    rw [List.map_cons, hk k (List.mem_cons_self ..), List.flatMap_cons, ← List.append_assoc]
    exact allC_some l (acc ++ h k) fun x hx => hk x (List.mem_cons_of_mem _ hx)
theorem allC_no {g : Nat → PL} : ∀ (l : List Nat) (acc : PL), (∃ k ∈ l, g k = none) → allC (l.map g) acc = none
  | [], _, ⟨_, h, _⟩ => by cases h
  | k :: l, acc, ⟨x, hx, e⟩ => by
    rw [List.map_cons]
    show allC (l.map g) (acc.bind fun x => (g k).map fun y => x ++ y) = none
    rcases List.mem_cons.mp hx with rfl | hx
    · rw [e]
      have : (acc.bind fun z => (none : PL).map fun y => z ++ y) = none := by cases acc <;> rfl
      rw [this]
      exact allC_none _
    · exact allC_no l _ ⟨x, hx, e⟩
/-- one child more: the fewer leaves, of like ones the first -/
def fewer (a : PL) (p : List Nat) : PL := match a with
  | none => some p
  | some x => if p.length < x.length then some p else some x
theorem oneC_eq {g : Nat → PL} {t : Nat → Bool} {h : Nat → List Nat} : ∀ (l : List Nat) (a : PL), (∀ k ∈ l, g k = if t k then some (h k) else none) → oneC (l.map g) a = l.foldl (fun a k => if t k then fewer a (h k) else a) a
  | [], _, _ => rfl
  | k :: l, a, hk => by
    rw [List.map_cons, List.foldl_cons, hk k (List.mem_cons_self ..)]
    have e : stepO a (if t k = true then some (h k) else none) = if t k = true then fewer a (h k) else a := by
      cases t k <;> cases a <;> rfl
    show oneC (l.map g) (stepO a (if t k = true then some (h k) else none)) = _
    rw [e]
    exact oneC_eq l _ fun x hx => hk x (List.mem_cons_of_mem _ hx)
theorem few_some {t : Nat → Bool} {h : Nat → List Nat} : ∀ (l : List Nat) (x : List Nat), (l.foldl (fun a k => if t k then fewer a (h k) else a) (some x)).isSome = true
  | [], _ => rfl
  | k :: l, x => by
    rw [List.foldl_cons]
    by_cases c : t k = true
    · rw [if_pos c]
      show (l.foldl _ (if (h k).length < x.length then some (h k) else some x)).isSome = true
      split
      · exact few_some l _
      · exact few_some l _
    · rw [if_neg c]
      exact few_some l _
theorem few_any {t : Nat → Bool} {h : Nat → List Nat} : ∀ (l : List Nat), (l.foldl (fun a k => if t k then fewer a (h k) else a) none).isSome = l.any t
  | [] => rfl
  | k :: l => by
    rw [List.foldl_cons, List.any_cons]
    by_cases c : t k = true
    · rw [if_pos c, c, Bool.true_or]
      exact few_some l _
    · have c' : t k = false := by simpa using c
      rw [if_neg c, few_any l, c', Bool.false_or]
theorem isTrue_joint {d : Desk} (w : WF d) {i : Nat} (hi : i ≤ 20) (k : ¬ (nodeAt d i).kind = 0) : isTrue d i = if (nodeAt d i).kind = 1 then (nodeAt d i).kids.all (isTrue d) else (nodeAt d i).kids.any (isTrue d) := by
  rw [isTrue_eq w.down hi, if_neg k]
theorem prove_eq {d : Desk} (w : WF d) (want : Bool) : ∀ i, i ≤ 20 → (prove d want i).isSome = (isTrue d i == want) := by
  intro i
  induction i using Nat.strongRecOn with
  | ind i ih =>
    intro hi
    rw [prove_at w.down hi]
    by_cases k0 : (nodeAt d i).kind = 0
    · rw [if_pos k0, isTrue_eq w.down hi, if_pos k0]
      cases e : ((nodeAt d i).so == 1) == want <;> rfl
    · rw [if_neg k0]
      have hk : ∀ k ∈ (nodeAt d i).kids, prove d want k = if isTrue d k == want then some ((prove d want k).getD []) else none := fun k hk => by
        have lt := w.down i k hk
        have s := ih k lt (by omega)
        cases e : prove d want k with
        | none =>
          rw [e] at s
          rw [← s]
          rfl
        | some x =>
          rw [e] at s
          rw [← s]
          rfl
      have tj := isTrue_joint w hi k0
      by_cases k1 : (nodeAt d i).kind = 1
      · rw [if_pos k1] at tj
        cases want with
        | true =>
          rw [if_pos (by simp [k1])]
          cases e : isTrue d i with
          | true =>
            rw [e] at tj
            have all := List.all_eq_true.mp tj.symm
            rw [allC_some (h := fun k => (prove d true k).getD []) _ [] fun k hk' => by
              have := hk k hk'
              rw [all k hk'] at this
              exact this]
            rfl
          | false =>
            rw [e] at tj
            obtain ⟨k, hk', z⟩ := List.all_eq_false.mp tj.symm
            rw [allC_no _ _ ⟨k, hk', by
              have := hk k hk'
              rw [show isTrue d k = false by simpa using z] at this
              exact this⟩]
            rfl
        | false =>
          rw [if_neg (by simp [k1]), oneC_eq (t := fun k => isTrue d k == false) (h := fun k => (prove d false k).getD []) _ _ hk, few_any, tj]
          induction (nodeAt d i).kids with
          | nil => rfl
          | cons x l ihl => 
            rw [List.any_cons, List.all_cons, ihl]
            cases isTrue d x <;> rfl
      · rw [if_neg k1] at tj
        cases want with
        | true =>
          rw [if_neg (by simp [k1]), oneC_eq (t := fun k => isTrue d k == true) (h := fun k => (prove d true k).getD []) _ _ hk, few_any, tj]
          induction (nodeAt d i).kids with
          | nil => rfl
          | cons x l ihl =>
            rw [List.any_cons, List.any_cons, ihl]
            cases isTrue d x <;> cases l.any (isTrue d) <;> rfl
        | false =>
          rw [if_pos (by simp [k1])]
          cases e : isTrue d i with
          | false =>
            rw [e] at tj
            have none_ := List.any_eq_false.mp tj.symm
            rw [allC_some (h := fun k => (prove d false k).getD []) _ [] fun k hk' => by
              have := hk k hk'
              rw [show isTrue d k = false by simpa using none_ k hk'] at this
              exact this]
            rfl
          | true =>
            rw [e] at tj
            obtain ⟨k, hk', z⟩ := List.any_eq_true.mp tj.symm
            rw [allC_no _ _ ⟨k, hk', by
              have := hk k hk'
              rw [z] at this
              exact this⟩]
            rfl
theorem prove_is {d : Desk} (w : WF d) {want : Bool} {i : Nat} (hi : i ≤ 20) : prove d want i = if isTrue d i == want then some (proof d i) else none := by
  have s := prove_eq w want i hi
  cases e : prove d want i with
  | none =>
    rw [e] at s
    rw [← s]
    rfl
  | some x =>
    rw [e] at s
    rw [← s]
    have ew : isTrue d i = want := eq_of_beq (by rw [← s]; rfl)
    show some x = some ((prove d (isTrue d i) i).getD [])
    rw [ew, e]
    rfl
theorem proof_leaf {d : Desk} (w : WF d) {i : Nat} (hi : i ≤ 20) (k : (nodeAt d i).kind = 0) : proof d i = [i] := by
  have e := prove_is w (want := isTrue d i) hi
  rw [prove_at w.down hi, if_pos k, isTrue_eq w.down hi, if_pos k] at e
  have b : ∀ x : Bool, (x == x) = true := fun x => by cases x <;> rfl
  rw [b, if_pos rfl, if_pos rfl] at e
  exact (Option.some.inj e).symm
theorem proof_all {d : Desk} (w : WF d) {i : Nat} (hi : i ≤ 20) (k : ¬ (nodeAt d i).kind = 0) (h : (nodeAt d i).kind = 1 ↔ isTrue d i = true) : proof d i = (nodeAt d i).kids.flatMap (proof d) ∧ ∀ c ∈ (nodeAt d i).kids, isTrue d c = isTrue d i := by
  have tj := isTrue_joint w hi k
  have same : ∀ c ∈ (nodeAt d i).kids, isTrue d c = isTrue d i := fun c hc => by
    by_cases k1 : (nodeAt d i).kind = 1
    · rw [if_pos k1, h.mp k1] at tj
      rw [h.mp k1]
      exact List.all_eq_true.mp tj.symm c hc
    · have f : isTrue d i = false := by
        cases q : isTrue d i with
        | false => rfl
        | true => exact absurd (h.mpr q) k1
      rw [if_neg k1, f] at tj
      rw [f]
      simpa using List.any_eq_false.mp tj.symm c hc
  refine ⟨?_, same⟩
  have e := prove_is w (want := isTrue d i) hi
  have b : ∀ x : Bool, (x == x) = true := fun x => by cases x <;> rfl
  rw [prove_at w.down hi, if_neg k, if_pos (propext h), allC_some (h := proof d) _ [] fun c hc => by
    rw [prove_is w (by have := w.down i c hc; omega), same c hc, b]
    rfl, b] at e
  exact (Option.some.inj e).symm
theorem proof_one {d : Desk} (w : WF d) {i : Nat} (hi : i ≤ 20) (k : ¬ (nodeAt d i).kind = 0) (h : ¬ ((nodeAt d i).kind = 1 ↔ isTrue d i = true)) : (nodeAt d i).kids.foldl (fun a c => if isTrue d c == isTrue d i then fewer a (proof d c) else a) none = some (proof d i) := by
  have e := prove_is w (want := isTrue d i) hi
  have b : ∀ x : Bool, (x == x) = true := fun x => by cases x <;> rfl
  rw [prove_at w.down hi, if_neg k, if_neg (fun q => h (iff_of_eq q)), oneC_eq (t := fun c => isTrue d c == isTrue d i) (h := proof d) _ _ fun c hc => prove_is w (by have := w.down i c hc; omega), b] at e
  exact e
end Dm

namespace Dm
open Kp365
/-! ### No leaf is below two children: so a node has few leaves -/
inductive Up (d : Desk) : Nat → Nat → Prop
  | refl (j : Nat) : Up d j j
  | step {j k i : Nat} : Up d j k → k ∈ (nodeAt d i).kids → Up d j i
theorem Up.le {d : Desk} (h : Down d) {j k : Nat} (u : Up d j k) : j ≤ k := by
  induction u with
  | refl => exact Nat.le_refl _
  | step _ m ih =>
    have := h _ _ m
    omega
theorem Up.head {d : Desk} {m k : Nat} (u : Up d m k) : m = k ∨ ∃ p, m ∈ (nodeAt d p).kids ∧ Up d p k := by
  induction u with
  | refl => exact .inl rfl
  | @step q i _ hq ih =>
    rcases ih with rfl | ⟨p, h1, h2⟩
    · exact .inr ⟨i, hq, .refl i⟩
    · exact .inr ⟨p, h1, .step h2 hq⟩
theorem one_parent {d : Desk} (w : WF d) {k i i' : Nat} (h : k ∈ (nodeAt d i).kids) (h' : k ∈ (nodeAt d i').kids) : i = i' := by
  have inr : ∀ {i}, k ∈ (nodeAt d i).kids → i < d.nodes.length := fun {i} h => by
    cases e : d.nodes[i]? with
    | none =>
      rw [nodeAt_out e] at h
      cases h
    | some n => exact (List.getElem?_eq_some_iff.mp e).1
  have f := w.flat
  unfold allKids List.Nodup at f
  rw [List.pairwise_flatMap] at f
  have g := List.pairwise_iff_getElem.mp f.2
  have hi := inr h
  have hi' := inr h'
  have e : d.nodes[i] = nodeAt d i := by
    have := getNode hi
    rw [List.getElem?_eq_getElem hi] at this
    exact Option.some.inj this
  have e' : d.nodes[i'] = nodeAt d i' := by
    have := getNode hi'
    rw [List.getElem?_eq_getElem hi'] at this
    exact Option.some.inj this
  rcases Nat.lt_trichotomy i i' with c | c | c
  · exact absurd rfl (g i i' hi hi' c k (by rw [e]; exact h) k (by rw [e']; exact h'))
  · exact c
  · exact absurd rfl (g i' i hi' hi c k (by rw [e']; exact h') k (by rw [e]; exact h))
theorem kids_nodup {d : Desk} (w : WF d) (i : Nat) : (nodeAt d i).kids.Nodup := by
  cases e : d.nodes[i]? with
  | none =>
    rw [nodeAt_out e]
    exact List.nodup_nil
  | some n =>
    have f := w.flat
    unfold allKids List.Nodup at f
    rw [List.pairwise_flatMap] at f
    rw [nodeAt_of e]
    exact f.1 n (List.mem_of_getElem? e)
theorem Up.lin {d : Desk} (w : WF d) {j k k' : Nat} (u : Up d j k) (u' : Up d j k') : Up d k k' ∨ Up d k' k := by
  induction u with
  | refl => exact .inl u'
  | @step m i _ hm ih =>
    rcases ih with h | h
    · rcases h.head with rfl | ⟨p, h1, h2⟩
      · exact .inr (.step (.refl m) hm)
      · rw [one_parent w h1 hm] at h2
        exact .inl h2
    · exact .inr (.step h hm)
theorem leaf_up {d : Desk} (w : WF d) {j : Nat} : ∀ i, i ≤ 20 → j ∈ leaves d i → Up d j i := by
  intro i
  induction i using Nat.strongRecOn with
  | ind i ih =>
    intro hi h
    rw [leaves_eq w.down hi] at h
    split at h
    · have : j = i := by simpa using h
      rw [this]
      exact .refl i
    · obtain ⟨k, hk, hj⟩ := List.mem_flatMap.mp h
      have lt := w.down i k hk
      exact .step (ih k lt (by omega) hj) hk
theorem leaves_nodup {d : Desk} (w : WF d) : ∀ i, i ≤ 20 → (leaves d i).Nodup := by
  intro i
  induction i using Nat.strongRecOn with
  | ind i ih =>
    intro hi
    rw [leaves_eq w.down hi]
    split
    · simp
    · unfold List.Nodup
      rw [List.pairwise_flatMap]
      refine ⟨fun k hk => ih k (w.down i k hk) (by have := w.down i k hk; omega), ?_⟩
      refine List.Pairwise.imp_of_mem ?_ (kids_nodup w i)
      intro a b ha hb ne x hx y hy e
      subst e
      have la := w.down i a ha
      have lb := w.down i b hb
      have far : ∀ {a b : Nat}, a ∈ (nodeAt d i).kids → b < i → a ≠ b → Up d a b → False := fun {a b} ha lb ne u => by
        rcases u.head with q | ⟨p, h1, h2⟩
        · exact ne q
        · rw [one_parent w h1 ha] at h2
          have := h2.le w.down
          omega
      rcases (leaf_up w a (by omega) hx).lin w (leaf_up w b (by omega) hy) with u | u
      · exact far ha lb ne u
      · exact far hb la (fun q => ne q.symm) u
theorem short_of : ∀ (n : Nat) (l : List Nat), l.Nodup → (∀ x ∈ l, x < n) → l.length ≤ n
  | 0, l, _, h => by
    cases l with
    | nil => exact Nat.le_refl _
    | cons x l => exact absurd (h x (List.mem_cons_self ..)) (Nat.not_lt_zero _)
  | n + 1, l, nd, h => by
    have e := short_of n (l.erase n) (nd.erase n) fun x hx => by
      have h1 := h x (List.mem_of_mem_erase hx)
      have h2 : x ≠ n := fun q => by
        rw [q] at hx
        exact (List.Nodup.mem_erase_iff nd).mp hx |>.1 rfl
      omega
    have := List.length_erase (a := n) (l := l)
    split at this <;> omega
theorem leaves_le {d : Desk} (w : WF d) {i j : Nat} (hi : i ≤ 20) (h : j ∈ leaves d i) : j ≤ i := (leaf_up w i hi h).le w.down
theorem leaves_len {d : Desk} (w : WF d) {i : Nat} (hi : i ≤ 20) : (leaves d i).length ≤ i + 1 :=
  short_of (i + 1) _ (leaves_nodup w i hi) fun x hx => by
    have := leaves_le w hi hx
    omega
theorem leaves_leaf {d : Desk} (w : WF d) {j : Nat} : ∀ i, i ≤ 20 → j ∈ leaves d i → (nodeAt d j).kind = 0 := by
  intro i
  induction i using Nat.strongRecOn with
  | ind i ih =>
    intro hi h
    rw [leaves_eq w.down hi] at h
    split at h
    · rename_i k
      have : j = i := by simpa using h
      rw [this]
      exact k
    · obtain ⟨k, hk, hj⟩ := List.mem_flatMap.mp h
      have lt := w.down i k hk
      exact ih k lt (by omega) hj
theorem flat_le {f g : Nat → List Nat} : ∀ {l : List Nat}, (∀ k ∈ l, (f k).length ≤ (g k).length) → (l.flatMap f).length ≤ (l.flatMap g).length
  | [], _ => Nat.le_refl _
  | a :: l, h => by
    rw [List.flatMap_cons, List.flatMap_cons, List.length_append, List.length_append]
    have h1 := h a (List.mem_cons_self ..)
    have h2 := flat_le (l := l) fun k hk => h k (List.mem_cons_of_mem _ hk)
    omega
theorem flat_one {g : Nat → List Nat} : ∀ {l : List Nat} {c : Nat}, c ∈ l → (g c).length ≤ (l.flatMap g).length
  | a :: l, c, h => by
    rw [List.flatMap_cons, List.length_append]
    rcases List.mem_cons.mp h with rfl | h
    · omega
    · have := flat_one (g := g) h
      omega
theorem few_mem {t : Nat → Bool} {h : Nat → List Nat} : ∀ (l : List Nat) (a : PL) (p : List Nat), l.foldl (fun a k => if t k then fewer a (h k) else a) a = some p → a = some p ∨ ∃ c ∈ l, t c = true ∧ p = h c
  | [], a, p, e => .inl e
  | k :: l, a, p, e => by
    rw [List.foldl_cons] at e
    rcases few_mem l _ p e with q | ⟨c, hc, tc, q⟩
    · by_cases c : t k = true
      · rw [if_pos c] at q
        unfold fewer at q
        cases a with
        | none =>
          have q : h k = p := Option.some.inj q
          exact .inr ⟨k, List.mem_cons_self .., c, q.symm⟩
        | some x =>
          have q : (if (h k).length < x.length then some (h k) else some x) = some p := q
          split at q
          · exact .inr ⟨k, List.mem_cons_self .., c, (Option.some.inj q).symm⟩
          · exact .inl q
      · rw [if_neg c] at q
        exact .inl q
    · exact .inr ⟨c, List.mem_cons_of_mem _ hc, tc, q⟩
theorem proof_len {d : Desk} (w : WF d) : ∀ i, i ≤ 20 → (proof d i).length ≤ (leaves d i).length := by
  intro i
  induction i using Nat.strongRecOn with
  | ind i ih =>
    intro hi
    rw [leaves_eq w.down hi]
    by_cases k : (nodeAt d i).kind = 0
    · rw [if_pos k, proof_leaf w hi k]
      exact Nat.le_refl _
    · rw [if_neg k]
      have hk : ∀ c ∈ (nodeAt d i).kids, (proof d c).length ≤ (leaves d c).length := fun c hc => ih c (w.down i c hc) (by have := w.down i c hc; omega)
      by_cases h : (nodeAt d i).kind = 1 ↔ isTrue d i = true
      · rw [(proof_all w hi k h).1]
        exact flat_le hk
      · rcases few_mem _ _ _ (proof_one w hi k h) with q | ⟨c, hc, _, q⟩
        · cases q
        · rw [q]
          exact Nat.le_trans (hk c hc) (flat_one hc)
theorem way_len {d : Desk} (w : WF d) : ∀ i, i ≤ 20 → (wayD d i).length ≤ i + 1 := by
  intro i
  induction i using Nat.strongRecOn with
  | ind i ih =>
    intro hi
    cases e : Kp365.pick d i with
    | none =>
      have : wayD d i = [i] := by
        show (match Kp365.pick d i with
          | none => [i]
          | some k => i :: way d 20 k) = [i]
        rw [e]
      rw [this]
      exact Nat.le_add_left 1 i
    | some k =>
      rw [wayD_joint w hi e, List.length_cons]
      have lt := w.down i k (pick_mem w e)
      have := ih k lt (by omega)
      omega
/-! ### Were a leaf otherwise -/
theorem nodeAt_set {d : Desk} {i : Nat} {m : Node} (h : i < d.nodes.length) (j : Nat) : nodeAt (⟨d.nodes.set i m⟩ : Desk) j = if j = i then m else nodeAt d j := by
  unfold nodeAt
  rw [List.getD_eq_getElem?_getD, List.getD_eq_getElem?_getD, List.getElem?_set]
  by_cases e : i = j
  · subst e
    rw [if_pos rfl, if_pos rfl, if_pos h]
    rfl
  · rw [if_neg e, if_neg (fun q => e q.symm)]
theorem nodeAt_so {d : Desk} {i : Nat} (h : i < d.nodes.length) (j : Nat) : nodeAt (withSo d i) j = if j = i then { nodeAt d i with so := 1 - (nodeAt d i).so } else nodeAt d j := nodeAt_set h j
theorem nodeAt_wrong {d : Desk} {i v : Nat} (h : i < d.nodes.length) (j : Nat) : nodeAt (withWrong d i v) j = if j = i then { nodeAt d i with wrong := v } else nodeAt d j := nodeAt_set h j
/-- what is true hangs on kinds, children and what the leaves are -/
theorem true_same {d e : Desk} (wd : WF d) (we : WF e) (h : ∀ j, (nodeAt e j).kind = (nodeAt d j).kind ∧ (nodeAt e j).kids = (nodeAt d j).kids ∧ (nodeAt e j).so = (nodeAt d j).so) : ∀ i, i ≤ 20 → isTrue e i = isTrue d i := by
  intro i
  induction i using Nat.strongRecOn with
  | ind i ih =>
    intro hi
    obtain ⟨h1, h2, h3⟩ := h i
    have hk : ∀ k ∈ (nodeAt d i).kids, isTrue e k = isTrue d k := fun k hk => ih k (wd.down i k hk) (by have := wd.down i k hk; omega)
    rw [isTrue_eq we.down hi, isTrue_eq wd.down hi, h1, h2, h3, all_same hk, any_same hk]
theorem true_wrong {d : Desk} (w : WF d) {j v : Nat} (hj : j < d.nodes.length) (hv : v ≤ 100) {i : Nat} (hi : i ≤ 20) : isTrue (withWrong d j v) i = isTrue d i :=
  true_same w (wf_wrong w hj hv) (fun k => by
    rw [nodeAt_wrong hj]
    split
    · rename_i e
      rw [e]
      exact ⟨rfl, rfl, rfl⟩
    · exact ⟨rfl, rfl, rfl⟩) i hi
/-! ### The best leaf, in hundredths -/
def best100 (d : Desk) (i : Nat) : Nat × Nat := (leaves d i).foldl (fun (b : Nat × Nat) (j : Nat) => if b.2 < right100 (withWrong d j 0) i then (j, right100 (withWrong d j 0) i) else b) (99, right100 d i)
theorem best_fold {d : Desk} (w : WF d) {i : Nat} : ∀ (l : List Nat) (b : Nat × Nat), b.2 ≤ 100 → (∀ j ∈ l, j < d.nodes.length) → l.foldl (fun (b : Nat × Kp340.Fr) (j : Nat) => let r := Kp365.right (withWrong d j 0) i
      if Kp346.ltF b.2 r then (j, r) else b) (b.1, fr100 b.2) = ((l.foldl (fun (b : Nat × Nat) (j : Nat) => if b.2 < right100 (withWrong d j 0) i then (j, right100 (withWrong d j 0) i) else b) b).1, fr100 (l.foldl (fun (b : Nat × Nat) (j : Nat) => if b.2 < right100 (withWrong d j 0) i then (j, right100 (withWrong d j 0) i) else b) b).2) ∧
      (l.foldl (fun (b : Nat × Nat) (j : Nat) => if b.2 < right100 (withWrong d j 0) i then (j, right100 (withWrong d j 0) i) else b) b).2 ≤ 100
  | [], b, h, _ => ⟨rfl, h⟩
  | j :: l, b, h, hl => by
    have wj := wf_wrong w (hl j (List.mem_cons_self ..)) (Nat.zero_le 100)
    have le := right100_le wj.mild i
    rw [List.foldl_cons, List.foldl_cons]
    have e : (let r := Kp365.right (withWrong d j 0) i
      if Kp346.ltF (b.1, fr100 b.2).2 r then (j, r) else (b.1, fr100 b.2)) = ((if b.2 < right100 (withWrong d j 0) i then (j, right100 (withWrong d j 0) i) else b).1, fr100 (if b.2 < right100 (withWrong d j 0) i then (j, right100 (withWrong d j 0) i) else b).2) := by
      show (if Kp346.ltF (fr100 b.2) (Kp365.right (withWrong d j 0) i) then (j, Kp365.right (withWrong d j 0) i) else (b.1, fr100 b.2)) = _
      rw [right_eq wj.mild, lt100 h le]
      by_cases c : b.2 < right100 (withWrong d j 0) i
      · rw [if_pos (decide_eq_true c), if_pos c]
      · rw [if_neg (by simpa using c), if_neg c]
    rw [e]
    refine best_fold w l _ ?_ fun k hk => hl k (List.mem_cons_of_mem _ hk)
    split
    · exact le
    · exact h
end Dm

namespace Dm
open Kp365
/-! ### Places -/
theorem find_at {p : Nat → Bool} : ∀ {l : List Nat} {r : Nat}, l.find? p = some r → ∃ j, l[j]? = some r ∧ p r = true ∧ ∀ (m c : Nat), m < j → l[m]? = some c → p c = false
  | [], r, h => by cases h
  | a :: l, r, h => by
    rw [List.find?_cons] at h
    cases e : p a with
    | true =>
      rw [e] at h
      have z : a = r := Option.some.inj h
      subst z
      exact ⟨0, rfl, e, fun m c hm _ => absurd hm (Nat.not_lt_zero _)⟩
    | false =>
      rw [e] at h
      obtain ⟨j, h1, h2, h3⟩ := find_at (l := l) h
      refine ⟨j + 1, h1, h2, fun m c hm hc => ?_⟩
      match m, hm, hc with
      | 0, _, hc =>
        have z : a = c := Option.some.inj hc
        subst z
        exact e
      | m + 1, hm, hc => exact h3 m c (Nat.lt_of_succ_lt_succ hm) hc
/-- what is first the best by a fold, and by a search -/
theorem best_none {W : Nat → Nat} : ∀ (l : List Nat) (b : Nat × Nat), (∀ x ∈ l, W x ≤ b.2) → l.foldl (fun (b : Nat × Nat) (j : Nat) => if b.2 < W j then (j, W j) else b) b = b
  | [], _, _ => rfl
  | x :: l, b, h => by
    rw [List.foldl_cons, if_neg (by have := h x (List.mem_cons_self ..); omega)]
    exact best_none l b fun y hy => h y (List.mem_cons_of_mem _ hy)
theorem best_some {W : Nat → Nat} {M : Nat} : ∀ (l : List Nat) (b : Nat × Nat), (∃ x ∈ l, W x = M) → (∀ x ∈ l, W x ≤ M) → b.2 < M → ∃ r, l.foldl (fun (b : Nat × Nat) (j : Nat) => if b.2 < W j then (j, W j) else b) b = (r, M) ∧ r ∈ l ∧ l.find? (fun c => W c == M) = some r
  | [], _, ⟨x, hx, _⟩, _, _ => by cases hx
  | k :: l, b, ⟨x, hx, ex⟩, hM, hb => by
    have kM := hM k (List.mem_cons_self ..)
    have lM : ∀ y ∈ l, W y ≤ M := fun y hy => hM y (List.mem_cons_of_mem _ hy)
    rw [List.foldl_cons, List.find?_cons]
    by_cases e : W k = M
    · rw [if_pos (by omega), e, best_none l (k, M) lM, show (M == M) = true by simp]
      exact ⟨k, rfl, List.mem_cons_self .., rfl⟩
    · have ne : (W k == M) = false := by
        cases q : (W k == M) with
        | false => rfl
        | true => exact absurd (eq_of_beq q) e
      rw [ne]
      have hx' : ∃ x ∈ l, W x = M := by
        rcases List.mem_cons.mp hx with rfl | hx
        · exact absurd ex e
        · exact ⟨x, hx, ex⟩
      obtain ⟨r, h1, h2, h3⟩ := best_some l (if b.2 < W k then (k, W k) else b) hx' lM (by split <;> (try omega))
      exact ⟨r, h1, List.mem_cons_of_mem _ h2, h3⟩
theorem best100_none {d : Desk} {i : Nat} (h : ∀ j ∈ leaves d i, right100 (withWrong d j 0) i ≤ right100 d i) : (best100 d i).1 = 99 := by
  unfold best100
  rw [best_none (W := fun j => right100 (withWrong d j 0) i) _ _ h]
theorem best100_some {d : Desk} (w : WF d) {i M : Nat} (hi : i ≤ 20) (hx : ∃ x ∈ leaves d i, right100 (withWrong d x 0) i = M) (hM : ∀ x ∈ leaves d i, right100 (withWrong d x 0) i ≤ M) (hb : right100 d i < M) : ∃ r, best100 d i = (r, M) ∧ ¬ r = 99 ∧ (leaves d i).find? (fun c => right100 (withWrong d c 0) i == M) = some r := by
  obtain ⟨r, h1, h2, h3⟩ := best_some (W := fun j => right100 (withWrong d j 0) i) (leaves d i) (99, right100 d i) hx hM hb
  have := leaves_le w hi h2
  exact ⟨r, h1, by omega, h3⟩
/-! ### Of several rows the shortest, of like ones the first -/
theorem few_filter {t : Nat → Bool} {h : Nat → List Nat} : ∀ (l : List Nat) (a : PL), l.foldl (fun a k => if t k then fewer a (h k) else a) a = ((l.filter t).map h).foldl fewer a
  | [], _ => rfl
  | k :: l, a => by
    rw [List.foldl_cons]
    cases e : t k with
    | true =>
      rw [List.filter_cons_of_pos e, List.map_cons, List.foldl_cons]
      exact few_filter l _
    | false =>
      rw [List.filter_cons_of_neg (by rw [e]; exact Bool.noConfusion)]
      exact few_filter l a
theorem first_min : ∀ (rs : List (List Nat)) (x : List Nat), ∃ i y, (x :: rs)[i]? = some y ∧ rs.foldl fewer (some x) = some y ∧ ∀ (j : Nat) (r : List Nat), (x :: rs)[j]? = some r → y.length ≤ r.length ∧ (j < i → y.length < r.length)
  | [], x => ⟨0, x, rfl, rfl, fun j r hj => by
    match j, hj with
    | 0, hj =>
      have z : x = r := Option.some.inj hj
      subst z
      exact ⟨Nat.le_refl _, fun h => absurd h (Nat.not_lt_zero _)⟩
    | j + 1, hj => simp at hj⟩
  | a :: rs, x => by
    by_cases c : a.length < x.length
    · obtain ⟨i, y, h1, h2, h3⟩ := first_min rs a
      refine ⟨i + 1, y, h1, ?_, fun j r hj => ?_⟩
      · rw [List.foldl_cons]
        show rs.foldl fewer (if a.length < x.length then some a else some x) = _
        rw [if_pos c]
        exact h2
      · match j, hj with
        | 0, hj =>
          have z : x = r := Option.some.inj hj
          subst z
          have := (h3 0 a rfl).1
          exact ⟨by omega, fun _ => by omega⟩
        | j + 1, hj =>
          have := h3 j r hj
          exact ⟨this.1, fun h => this.2 (Nat.lt_of_succ_lt_succ h)⟩
    · obtain ⟨i, y, h1, h2, h3⟩ := first_min rs x
      have hx := (h3 0 x rfl).1
      have e2 : (a :: rs).foldl fewer (some x) = some y := by
        rw [List.foldl_cons]
        show rs.foldl fewer (if a.length < x.length then some a else some x) = _
        rw [if_neg c]
        exact h2
      cases i with
      | zero =>
        refine ⟨0, y, h1, e2, fun j r hj => ?_⟩
        match j, hj with
        | 0, hj => exact ⟨(h3 0 r hj).1, fun h => absurd h (Nat.not_lt_zero _)⟩
        | 1, hj =>
          have z : a = r := Option.some.inj hj
          subst z
          exact ⟨by omega, fun h => absurd h (Nat.not_lt_zero _)⟩
        | j + 2, hj => exact ⟨(h3 (j + 1) r hj).1, fun h => absurd h (Nat.not_lt_zero _)⟩
      | succ i =>
        have lt := (h3 0 x rfl).2 (Nat.succ_pos _)
        refine ⟨i + 2, y, h1, e2, fun j r hj => ?_⟩
        match j, hj with
        | 0, hj =>
          have z : x = r := Option.some.inj hj
          subst z
          exact ⟨by omega, fun _ => lt⟩
        | 1, hj =>
          have z : a = r := Option.some.inj hj
          subst z
          exact ⟨by omega, fun _ => by omega⟩
        | j + 2, hj =>
          have := h3 (j + 1) r hj
          exact ⟨this.1, fun h => this.2 (by omega)⟩
theorem min_rows {rs : List (List Nat)} {i : Nat} {r : List Nat} (hi : rs[i]? = some r) (h : ∀ (j : Nat) (r' : List Nat), rs[j]? = some r' → r.length ≤ r'.length ∧ (j < i → r.length < r'.length)) : rs.foldl fewer none = some r := by
  match rs, hi, h with
  | [], hi, _ => simp at hi
  | x :: rs, hi, h =>
    obtain ⟨i', y, h1, h2, h3⟩ := first_min rs x
    have a1 := h i' y h1
    have a2 := h3 i r hi
    have e : i = i' := by
      rcases Nat.lt_trichotomy i i' with c | c | c
      · have := a2.2 c
        omega
      · exact c
      · have := a1.2 c
        omega
    subst e
    rw [hi] at h1
    rw [Option.some.inj h1]
    exact h2
/-- the proof of a node that one child's proof is enough for -/
theorem proof_min {d : Desk} (w : WF d) {i : Nat} (hi : i ≤ 20) (k : ¬ (nodeAt d i).kind = 0) (h : ¬ ((nodeAt d i).kind = 1 ↔ isTrue d i = true)) {j : Nat} {r : List Nat}
    (hj : (((nodeAt d i).kids.filter fun c => isTrue d c == isTrue d i).map (proof d))[j]? = some r) (hm : ∀ (j' : Nat) (r' : List Nat), (((nodeAt d i).kids.filter fun c => isTrue d c == isTrue d i).map (proof d))[j']? = some r' → r.length ≤ r'.length ∧ (j' < j → r.length < r'.length)) : proof d i = r := by
  have e := proof_one w hi k h
  rw [few_filter (t := fun c => isTrue d c == isTrue d i) (h := proof d), min_rows hj hm] at e
  exact (Option.some.inj e).symm
theorem alike_some {d : Desk} (w : WF d) {i : Nat} (hi : i ≤ 20) (k : ¬ (nodeAt d i).kind = 0) (h : ¬ ((nodeAt d i).kind = 1 ↔ isTrue d i = true)) : 0 < ((nodeAt d i).kids.filter fun c => isTrue d c == isTrue d i).length := by
  have e := proof_one w hi k h
  rw [few_filter (t := fun c => isTrue d c == isTrue d i) (h := proof d)] at e
  cases q : (nodeAt d i).kids.filter fun c => isTrue d c == isTrue d i with
  | nil =>
    rw [q] at e
    cases e
  | cons a l => exact Nat.succ_pos _
/-! ### The way, by its steps -/
theorem wayD_cons {d : Desk} (i : Nat) : wayD d i = i :: (wayD d i).tail := by
  show (match Kp365.pick d i with
      | none => [i]
      | some k => i :: way d 20 k) = i :: (match Kp365.pick d i with
      | none => [i]
      | some k => i :: way d 20 k).tail
  cases Kp365.pick d i <;> rfl
theorem kids_rows {d : Desk} (w : WF d) (f : Nat → List Nat) (i : Nat) : ((nodeAt d i).kids.flatMap fun k => ((List.range i).map f).getD k []) = (nodeAt d i).kids.flatMap f := by
  refine flat_same fun k hk => ?_
  have lt := (w.at_ i).kids k hk
  rw [List.getD_eq_getElem?_getD, List.getElem?_map, List.getElem?_range lt]
  rfl
theorem flat_take {f : Nat → List Nat} (l : List Nat) (i : Nat) : ((l.take i).flatMap f).length ≤ (l.flatMap f).length := by
  have e : (l.flatMap f) = (l.take i).flatMap f ++ (l.drop i).flatMap f := by rw [← List.flatMap_append, List.take_append_drop]
  rw [e, List.length_append]
  exact Nat.le_add_right _ _
theorem bitN_eq {d e : Desk} {i j : Nat} : bitN d i = bitN e j ↔ isTrue d i = isTrue e j := by
  unfold bitN
  cases isTrue d i <;> cases isTrue e j <;> simp
theorem depth_le {d : Desk} (w : WF d) : ∀ i, i ≤ 20 → depthD d i ≤ i := by
  intro i
  induction i using Nat.strongRecOn with
  | ind i ih =>
    intro hi
    rw [depthD_eq w.down hi]
    by_cases k : (nodeAt d i).kind = 0
    · rw [if_pos k]
      exact Nat.zero_le _
    · rw [if_neg k]
      obtain ⟨_, _, h3⟩ := foldMax_most ((nodeAt d i).kids.map (depthD d)) 0
      have jn := (w.at_ i).joint k
      rcases h3 with h3 | h3
      · rw [h3]
        match e : (nodeAt d i).kids, jn with
        | x :: l, _ =>
          have := w.down i x (by rw [e]; exact List.mem_cons_self ..)
          omega
      · obtain ⟨c, hc, e⟩ := List.mem_map.mp h3
        have lt := w.down i c hc
        have := ih c lt (by omega)
        omega
end Dm

/-! min(rows, key=len): a rule of the prover's own over the library's kmb_min -/
namespace Ml
open PySem PySem.Spec PyProof.Rows L2
theorem ns_one {h : Heap} {a : Addr} {m m' : Str → Option Value} (x : h.Ns a m) (y : h.Ns a m') : m = m' := by
  obtain ⟨o, es, ep, e, d, _, f⟩ := x
  obtain ⟨o', es', ep', e', d', _, f'⟩ := y
  have z : o = o' := Option.some.inj (e.symm.trans e')
  subst z
  have z := d.symm.trans d'
  injection z with z1 z2
  subst z1
  funext n
  exact (f n).symm.trans (f' n)
/-- all that stands in a heap, but what stands at L -/
def others (h : Heap) (L : Addr) : List (Addr × Obj) := (List.range h.objs.size).filterMap fun b => if b = L then none else (h.get? b).map fun o => (b, o)
theorem others_in {h : Heap} {L b : Addr} {o : Obj} (e : h.get? b = some o) (n : b ≠ L) : (b, o) ∈ others h L :=
  List.mem_filterMap.mpr ⟨b, List.mem_range.mpr (Heap.lt_size e), by rw [if_neg n, e]; rfl⟩
theorem others_of {h : Heap} {L : Addr} {p : Addr × Obj} (hp : p ∈ others h L) : h.get? p.1 = some p.2 ∧ p.1 ≠ L := by
  obtain ⟨b, _, e⟩ := List.mem_filterMap.mp hp
  by_cases n : b = L
  · rw [if_pos n] at e
    cases e
  · rw [if_neg n] at e
    cases e2 : h.get? b with
    | none =>
      rw [e2] at e
      cases e
    | some o =>
      rw [e2] at e
      cases e
      exact ⟨e2, n⟩
section
variable {X : Cx} {pins : List (Addr × Obj)} {σ : L2.St} {H : Hp} {s : Shared}
theorem inv_but {h' : Heap} {t' : Nat} {m : Str → Option Value} (I : Inv X pins σ H s) (N : ∀ p ∈ others s.heap X.env.locals, h'.get? p.1 = some p.2) (hm : s.heap.Ns X.env.locals m) (hm' : h'.Ns X.env.locals m) : Inv X pins σ H { s with heap := h', toks := t' } := by
  have k : ∀ b o, b ≠ X.env.locals → s.heap.get? b = some o → h'.get? b = some o := fun b o n e => N (b, o) (others_in e n)
  refine I.step (g' := s.gens) (d' := s.drawn) (ch := []) (fun _ z => nomatch z) (fun b o n _ _ e _ => k b o n e) (fun b o n _ _ e _ => ⟨o.slots, k b o n e⟩) (fun b o _ _ n => n) (fun b o _ e => ?_) (fun _ _ e => e) (fun _ _ _ e => e) (fun _ ps e => ⟨#[], by rw [Array.append_empty]; exact e⟩) (fun m' h => by rw [ns_one h hm]; exact hm') (fun a o e => ?_) I.bare
  · by_cases n : b = X.env.locals
    · obtain ⟨o', _, _, e', _⟩ := hm'
      exact ⟨o', by rw [n]; exact e'⟩
    · exact ⟨o, k b o n e⟩
  · refine (I.hok a o e).stay (fun c u hc q => k c u (fun z => ?_) q) (fun _ q => q) fun _ _ q => q
    subst z
    rcases hc with z | z
    · rw [← z, I.free] at e
      cases e
    · rw [I.free] at z
      cases z
end
/-- what min(x, key=len) asks of x: rows at ps, f i the length of the i-th -/
def minAsk (K : PySem.W.Frag) (Q : VK) (x : V) (H : Hp) : Prop := ∃ (a : Addr) (ps : List Addr) (f : Nat → Nat), x = .ref a ∧ SqL K H a (ps.map V.ref) ∧ 0 < ps.length ∧ (∀ (i : Nat) (q : Addr), ps[i]? = some q → ∃ xs, SqL K H q xs ∧ xs.length = f i) ∧
  ∀ (i : Nat) (q : Addr), ps[i]? = some q → (∀ j, j < ps.length → f i ≤ f j ∧ (j < i → f i < f j)) → Q (.ref q) H
def tMinLen (K : PySem.W.Frag) (te : TE) : TE := fun σ H Q => te σ H (minAsk K Q)
def minArgs (K : PySem.W.Frag) (Q : VK) : List V → Hp → Prop
  | [x], H => minAsk K Q x H
  | _, _ => False
section
variable {X : Cx}
theorem vals_refs : ∀ {ps : List Addr} {us : List Value}, Vals (ps.map V.ref) us → us = ps.map Value.ref
  | [], _, .nil => rfl
  | p :: ps, _, .cons r t => by
    have e : _ = Value.ref p := r
    rw [e, vals_refs t]
    rfl
theorem min_len {pins : List (Addr × Obj)} {σ : L2.St} {H : Hp} {s : Shared} {a : Addr} {ps : List Addr} {f : Nat → Nat} {Q : VK} (hc : X.calm = true) (I : Inv X pins σ H s) (hs : SqL X.K H a (ps.map V.ref)) (hne : 0 < ps.length)
    (hr : ∀ (i : Nat) (q : Addr), ps[i]? = some q → ∃ xs, SqL X.K H q xs ∧ xs.length = f i) (q : ∀ (i : Nat) (q : Addr), ps[i]? = some q → (∀ j, j < ps.length → f i ≤ f j ∧ (j < i → f i < f j)) → Q (.ref q) H) :
    wpAny (model X.prog X.w) X.A (call (.builtin "min") [.ref a] [(Str.ofString "key", .builtin "len")]) (EP X pins σ Q) X.xe s := by
  obtain ⟨its, rv, hl, hz⟩ := I.list hs
  have ei := vals_refs rv
  subst ei
  obtain ⟨m, hm, _⟩ := id I.loc
  have notL : ∀ {b : Addr} {xs : Array Value}, s.heap.IsList b xs → b ≠ X.env.locals := fun {b xs} hb z => by
    obtain ⟨o, ho, _, n, hd⟩ := hb
    obtain ⟨o', es, ep, ho', hd', _⟩ := id hm
    rw [z, ho'] at ho
    cases ho
    rw [hd'] at hd
    cases hd
  have keepL : ∀ {b : Addr} {xs : Array Value} {h : Heap} {more : List (Addr × Obj)}, s.heap.IsList b xs → News {} X.env.locals h (others s.heap X.env.locals ++ more) → h.IsList b xs := fun {b xs h more} hb N => by
    have nb := notL hb
    obtain ⟨o, ho, r⟩ := hb
    exact ⟨o, (N (b, o) (List.mem_append_left _ (others_in ho nb))).1, r⟩
  have N0 : News {} X.env.locals s.heap (others s.heap X.env.locals) := fun p hp => ⟨(others_of hp).1, (others_of hp).2, rfl⟩
  have F0 : Fr {} X.env.locals s.heap m := ⟨hm, (fun b o e => by cases e), Nat.zero_le _⟩
  have len : (ps.map Value.ref).length = ps.length := List.length_map ..
  refine kmb_min (kid := "len") (h₀ := {}) (L := X.env.locals) (m := m) (news := others s.heap X.env.locals) (vs := ps.map Value.ref) (fun i => (f i : Int)) (I.ok.hd hc) F0 N0 (fun h F N => keepL (more := []) hl.isList (by rw [List.append_nil]; exact N)) (by rw [len]; exact hne) (fun i v hv h tk own F N => ?_) (fun i v h' tk' hv hb F N => ?_)
  · obtain ⟨p, hp, rfl⟩ : ∃ p, ps[i]? = some p ∧ v = Value.ref p := by
      rw [List.getElem?_map] at hv
      cases e : ps[i]? with
      | none =>
        rw [e] at hv
        cases hv
      | some p =>
        rw [e] at hv
        exact ⟨p, rfl, (Option.some.inj hv).symm⟩
    obtain ⟨xs, hx, ex⟩ := hr i p hp
    obtain ⟨its2, rv2, hl2, hz2⟩ := I.list hx
    have hlen := rv2.length
    have hn := line63
    have e2 : (its2.toArray.size : Int) = (f i : Int) := by
      rw [List.size_toArray, ← hlen, ex]
    refine Calls.call_len_list (keepL hl2.isList N) (by rw [List.size_toArray]; omega) ?_
    rw [e2]
    exact ⟨h, _, _, rfl, rfl, F, N⟩
  · obtain ⟨p, hp, rfl⟩ : ∃ p, ps[i]? = some p ∧ v = Value.ref p := by
      rw [List.getElem?_map] at hv
      cases e : ps[i]? with
      | none =>
        rw [e] at hv
        cases hv
      | some p =>
        rw [e] at hv
        exact ⟨p, rfl, (Option.some.inj hv).symm⟩
    refine ⟨.ref p, H, inv_but I (fun p hp => (N p hp).1) hm F.ns, rfl, q i p hp fun j hj => ?_⟩
    have := hb j (by rw [len]; exact hj)
    exact ⟨by omega, fun h => by have := this.2 h; omega⟩
theorem pe_minLen {e : Expr} {te : TE} {p p2 p3 pos : Pos} (hc : X.calm = true) (hg : Gl X "min") (hm : X.mg "min" = none) (hg' : Gl X "len") (hm' : X.mg "len" = none) (ha : PA X [e] (tCons te tNil))
    (he : backTo pos (starEach [e] X.env) = (false, eval e X.env) :: backTo pos (starEach [] X.env) := by rfl) (hpl : (backTo pos (starEach [e] X.env)).any (·.1) = false := by rfl) :
    PE X (.Call (.Name "min" p) [e] [⟨some "key", .Name "len" p2, p3⟩] pos) (tMinLen X.K te) := by
  refine ⟨fun pins s σ H Q I h => ?_⟩
  refine wpAny_Call_Name_kw (ld_blt I hg hm (by decide +kernel : bootBuiltins "min" = some (.builtin "min")) ?_)
  refine PyProof.Rows.callWith_kw (kws := [⟨some "key", .Name "len" p2, p3⟩]) (thn (ha.run pos pins s σ H (minArgs X.K Q) I h) fun us s1 ⟨vs, H1, I1, r1, q1⟩ => ?_) he hpl rfl rfl
  match vs, r1, q1 with
  | [], _, q1 => exact q1.elim
  | _ :: _ :: _, _, q1 => exact q1.elim
  | [x], r1, q1 =>
    obtain ⟨a, ps, f, rfl, hs, hne, hr, q⟩ := q1
    obtain rfl := Vals.ref1 r1
    show wpAny _ _ (evalAll [(do let v ← eval (.Name "len" p2) X.env; standAt pos; pure v)]) _ _ s1
    refine wpAny_evalAll_cons (wpAny_bind (ld_blt I1 hg' hm' (by decide +kernel : bootBuiltins "len" = some (.builtin "len")) (wpAny_bind (wpAny_standAt (wpAny_pure (wpAny_evalAll_nil ?_))))))
    exact min_len hc I1 hs hne hr q
end
end Ml

namespace Dp
open PySem PySem.Spec PyProof.Rows L2
open Kp365 (Desk Node nodeAt)
open Dm
/-! ### Short words -/
/-- a module's constant -/
structure Glob (mg : Str → Option Value) (x : Str) (v : V) : Prop where
  ex : ∃ u, mg x = some u ∧ RelV v u
theorem pgl {X : Cx} {x : Str} {v : V} {pos : Pos} (G : Glob X.mg x v) (hg : Gl X x := by rfl) (hd : (x == ("__debug__" : Str)) = false := by decide) : PE X (.Name x pos) (tC v) := by
  obtain ⟨u, hm, r⟩ := G.ex
  exact pe_glob hg hm r hd
/-- a def of the module, and its promise -/
structure Def (P : Program) (w : World) (K : PySem.W.Frag) (mg : Str → Option Value) (base : Heap) (x : Str) (k : Nat) (ps : List Str) (sp : Sp) : Prop where
  ex : ∃ f fd, FnOk P w K mg base CX0 k f fd ps sp ∧ mg x = some (.ref f) ∧ PySem.W.keepIn K (.ref f) = true ∧ Binds K fd ps []
theorem pe_def {X : Cx} {k : Nat} {x : Str} {ps : List Str} {sp : Sp} {p pos : Pos} {e : Expr} {es : List Expr} {t : TA} (D : Def X.prog X.w X.K X.mg X.base x k ps sp) (hr : Room k X.A) (ha : PA X (e :: es) t) (hg : Gl X x := by rfl) (hdb : (x == ("__debug__" : Str)) = false := by decide)
    (he : starEach (e :: es) X.env = (false, eval e X.env) :: starEach es X.env := by rfl) (hpl : (backTo pos (starEach es X.env)).any (·.1) = false := by rfl) : PE X (.Call (.Name x p) (e :: es) [] pos) (tCall sp [] E0 t) := by
  obtain ⟨f, fd, F, hm, hk, hb⟩ := D.ex
  exact pe_call F hr hg hm hk hb .nil pass0 ha hdb he hpl
/-- a class of the module, its __init__ and that one's promise -/
structure Klass (P : Program) (w : World) (K : PySem.W.Frag) (mg : Str → Option Value) (base : Heap) (x : Str) (C : Addr) (k : Nat) (ps : List Str) (sp : Sp) : Prop where
  ex : ∃ f fd, Mk K C f ∧ FnOk P w K mg base CX0 k f fd ps sp ∧ Binds K fd ps []
  gl : mg x = some (.ref C)
theorem pe_new {X : Cx} {k : Nat} {C : Addr} {x : Str} {ps : List Str} {sp : Sp} {p pos : Pos} {e : Expr} {es : List Expr} {t : TA} (D : Klass X.prog X.w X.K X.mg X.base x C k ps sp) (hr : Room (k + 1) X.A) (ha : PA X (e :: es) t) (hg : Gl X x := by rfl) (hdb : (x == ("__debug__" : Str)) = false := by decide)
    (he : starEach (e :: es) X.env = (false, eval e X.env) :: starEach es X.env := by rfl) (hpl : (backTo pos (starEach es X.env)).any (·.1) = false := by rfl) : PE X (.Call (.Name x p) (e :: es) [] pos) (tMake C sp [] E0 t) := by
  obtain ⟨f, fd, M, F, hb⟩ := D.ex
  exact pe_make M F hr hg D.gl hb .nil pass0 ha hdb he hpl
theorem pe_new0 {X : Cx} {k : Nat} {C : Addr} {x : Str} {ps : List Str} {sp : Sp} {p pos : Pos} (D : Klass X.prog X.w X.K X.mg X.base x C k ps sp) (hr : Room (k + 1) X.A) (hg : Gl X x := by rfl) (hdb : (x == ("__debug__" : Str)) = false := by decide) :
    PE X (.Call (.Name x p) [] [] pos) (tMake C sp [] E0 tNil) := by
  obtain ⟨f, fd, M, F, hb⟩ := D.ex
  exact pe_make0 M F hr hg D.gl hb .nil pass0 hdb
theorem if_true_of {c : Bool} {A B : Prop} (hc : c = true) (h : A) : if c = true then A else B := by
  rw [if_pos hc]
  exact h
theorem if_false_of {c : Bool} {A B : Prop} (hc : c = false) (h : B) : if c = true then A else B := by
  rw [hc, if_neg Bool.false_ne_true]
  exact h
theorem if_dec {c : Prop} [Decidable c] {A B : Prop} (h1 : c → A) (h2 : ¬ c → B) : if decide c = true then A else B := by
  by_cases h : c
  · exact if_true_of (decide_eq_true h) (h1 h)
  · exact if_false_of (decide_eq_false h) (h2 h)
theorem lk_here {k : Str} {v : V} {r : List (Str × V)} : List.lookup k ((k, v) :: r) = some v := by
  have e : (k == k) = true := beq_self_eq_true k
  simp only [List.lookup, e]
theorem lk_past {k g : Str} {v : V} {r : List (Str × V)} (h : (k == g) = false) : List.lookup k ((g, v) :: r) = List.lookup k r := by
  simp only [List.lookup, h]
theorem put_here {f : Str} {v x : V} {r : List (Str × V)} : putF f v ((f, x) :: r) = (f, v) :: r := if_pos rfl
theorem put_past {f g : Str} {v x : V} {r : List (Str × V)} (h : ¬ g = f) : putF f v ((g, x) :: r) = (g, x) :: putF f v r := if_neg h
theorem same_new {H : Hp} {p : Addr} {o : HO} (h : H p = none) : Same H (upd H p o) := fun b u e => by
  rw [upd_ne (ne_of_none e h)]
  exact e
theorem ne_of_none' {H : Hp} {a b : Addr} {o : HO} (h : H a = some o) (h' : H b = none) : b ≠ a := (ne_of_none h h').symm
theorem up_at {l : List Nat} {i : Nat} : (l.map fun (k : Nat) => V.int (k : Int))[i]? = l[i]?.map fun (k : Nat) => V.int (k : Int) := by rw [List.getElem?_map]
theorem inV_int (c : Int) : ∀ l : List Int, inV (.int c) (l.map V.int) = decide (c ∈ l)
  | [] => rfl
  | x :: l => by
    have ih := inV_int c l
    unfold inV at ih ⊢
    rw [List.map_cons, List.any_cons, ih]
    show (x == c || decide (c ∈ l)) = decide (c ∈ x :: l)
    by_cases e : x = c
    · subst e
      simp
    · have e' : ¬ c = x := fun q => e q.symm
      simp [e, e']
theorem flat_ints (l : List Int) : (l.map V.int).all flatV = true := by
  rw [List.all_map]
  exact List.all_eq_true.mpr fun _ _ => rfl
theorem mem_up {c : Nat} {l : List Nat} : (c : Int) ∈ up l ↔ c ∈ l := by
  unfold up
  rw [List.mem_map]
  constructor
  · rintro ⟨x, hx, e⟩
    have : x = c := by omega
    subst this
    exact hx
  · exact fun h => ⟨c, h, rfl⟩
theorem up_len (l : List Nat) : (up l).length = l.length := List.length_map ..
theorem up_append (l m : List Nat) : up (l ++ m) = up l ++ up m := List.map_append
theorem flat_len : ∀ {l : List Node}, (∀ n ∈ l, n.kids.length ≤ 4) → (l.flatMap (·.kids)).length ≤ 4 * l.length
  | [], _ => Nat.zero_le _
  | a :: l, h => by
    rw [List.flatMap_cons, List.length_append, List.length_cons]
    have h1 := h a (List.mem_cons_self ..)
    have h2 := flat_len (l := l) fun n hn => h n (List.mem_cons_of_mem _ hn)
    omega
theorem take_more {α : Type} : ∀ {l : List α} {i : Nat} {x : α}, l[i]? = some x → l.take (i + 1) = l.take i ++ [x]
  | [], i, x, h => by simp at h
  | a :: l, 0, x, h => by
    have e : a = x := Option.some.inj h
    subst e
    rfl
  | a :: l, i + 1, x, h => by
    have ih := take_more (l := l) (i := i) (x := x) h
    show a :: l.take (i + 1) = a :: l.take i ++ [x]
    rw [ih]
    rfl
theorem drop_at {α : Type} {l : List α} {i : Nat} {x : α} (h : l[i]? = some x) : l.drop i = x :: l.drop (i + 1) := by
  obtain ⟨hi, e⟩ := List.getElem?_eq_some_iff.mp h
  rw [List.drop_eq_getElem_cons hi, e]
/-- the number in a slot -/
def slotN (σ : L2.St) (i : Nat) : Nat := match σ[i]? with
  | some (some (.int z)) => z.toNat
  | _ => 0
theorem at_int {xs : List V} {z : Int} {j : Nat} {v : V} (e : z = (j : Int)) (h : xs[j]? = some v) : atI xs z = some v := by
  rw [e]
  exact atI_nat h
theorem ints_at {ns : List Int} {j : Nat} {z : Int} (h : ns[j]? = some z) : (ns.map V.int)[j]? = some (V.int z) := by
  rw [List.getElem?_map, h]
  rfl
theorem cut_ints {ns nums : List Int} {i : Nat} {lo hi : Int} (hlo : lo = ((i : Nat) : Int)) (hhi : hi = ((i + nums.length : Nat) : Int)) (hl : i + nums.length ≤ ns.length) (h : (ns.drop i).take nums.length = nums) : cutV (ns.map V.int) (some lo) (some hi) = nums.map V.int := by
  unfold cutV
  rw [hlo, hhi, HT.sIx_nat, HT.sIx_nat, List.length_map, Nat.min_eq_left (by omega), Nat.min_eq_left (by omega), show i + nums.length - i = nums.length by omega, ← List.map_drop, ← List.map_take, h]
/-! ### How the data lie in the heap -/
def kidsV (n : Node) : List V := n.kids.map fun (k : Nat) => V.int (k : Int)
def nF (n : Node) (c : Addr) : List (Str × V) := [("kind", .int (n.kind : Int)), ("so", .int (n.so : Int)), ("misread", .int (n.wrong : Int)), ("children", .ref c)]
theorem nF_kind (n : Node) (c : Addr) : (nF n c).lookup ("kind" : Str) = some (.int (n.kind : Int)) := lk_here
theorem nF_so (n : Node) (c : Addr) : (nF n c).lookup ("so" : Str) = some (.int (n.so : Int)) := (lk_past (by decide +kernel)).trans lk_here
theorem nF_misread (n : Node) (c : Addr) : (nF n c).lookup ("misread" : Str) = some (.int (n.wrong : Int)) := (lk_past (by decide +kernel)).trans ((lk_past (by decide +kernel)).trans lk_here)
theorem nF_children (n : Node) (c : Addr) : (nF n c).lookup ("children" : Str) = some (.ref c) := (lk_past (by decide +kernel)).trans ((lk_past (by decide +kernel)).trans ((lk_past (by decide +kernel)).trans lk_here))
theorem nF_put_so (n : Node) (c : Addr) (s : Nat) : putF "so" (.int (s : Int)) (nF n c) = nF { n with so := s } c := (put_past (by decide +kernel)).trans (congrArg _ put_here)
theorem nF_put_misread (n : Node) (c : Addr) (s : Nat) : putF "misread" (.int (s : Int)) (nF n c) = nF { n with wrong := s } c := (put_past (by decide +kernel)).trans (congrArg _ ((put_past (by decide +kernel)).trans (congrArg _ put_here)))
/-- node n stands at a -/
structure NodeAt (C : Addr) (H : Hp) (a : Addr) (n : Node) : Prop where
  ex : ∃ dx c, H a = some (.ins C dx (nF n c)) ∧ H c = some (.lst (kidsV n))
/-- the list of nodes stands at l, they at as, the lists of their children at cs -/
structure DeskAt (C : Addr) (H : Hp) (l : Addr) (as cs : List Addr) (d : Desk) : Prop where
  lst : H l = some (.lst (as.map V.ref))
  nd : as.Nodup
  len : as.length = d.nodes.length
  clen : cs.length = d.nodes.length
  at_ : ∀ (j : Nat) (a c : Addr) (n : Node), as[j]? = some a → cs[j]? = some c → d.nodes[j]? = some n → (∃ dx, H a = some (.ins C dx (nF n c))) ∧ H c = some (.lst (kidsV n))
section
variable {C : Addr} {H H' : Hp} {l : Addr} {as cs : List Addr} {d : Desk}
theorem NodeAt.same {a : Addr} {n : Node} (h : NodeAt C H a n) (s : Same H H') : NodeAt C H' a n := by
  obtain ⟨dx, c, h1, h2⟩ := h.ex
  exact ⟨dx, c, s _ _ h1, s _ _ h2⟩
theorem DeskAt.same (h : DeskAt C H l as cs d) (s : Same H H') : DeskAt C H' l as cs d :=
  ⟨s _ _ h.lst, h.nd, h.len, h.clen, fun j a c n ha hc hn => by
    obtain ⟨⟨dx, h1⟩, h2⟩ := h.at_ j a c n ha hc hn
    exact ⟨⟨dx, s _ _ h1⟩, s _ _ h2⟩⟩
theorem DeskAt.getC (h : DeskAt C H l as cs d) {i : Nat} (hi : i < d.nodes.length) : ∃ a c dx, as[i]? = some a ∧ cs[i]? = some c ∧ H a = some (.ins C dx (nF (nodeAt d i) c)) ∧ H c = some (.lst (kidsV (nodeAt d i))) := by
  have hl : i < as.length := by
    rw [h.len]
    exact hi
  have hc : i < cs.length := by
    rw [h.clen]
    exact hi
  have e : as[i]? = some as[i] := List.getElem?_eq_getElem hl
  have e2 : cs[i]? = some cs[i] := List.getElem?_eq_getElem hc
  obtain ⟨⟨dx, h1⟩, h2⟩ := h.at_ i _ _ _ e e2 (getNode hi)
  exact ⟨_, _, dx, e, e2, h1, h2⟩
theorem DeskAt.get (h : DeskAt C H l as cs d) {i : Nat} (hi : i < d.nodes.length) : ∃ a, as[i]? = some a ∧ NodeAt C H a (nodeAt d i) := by
  obtain ⟨a, c, dx, ha, _, h1, h2⟩ := h.getC hi
  exact ⟨a, ha, dx, c, h1, h2⟩
theorem DeskAt.getA (h : DeskAt C H l as cs d) {i : Nat} {a : Addr} (ha : as[i]? = some a) : i < d.nodes.length ∧ ∃ c dx, cs[i]? = some c ∧ H a = some (.ins C dx (nF (nodeAt d i) c)) ∧ H c = some (.lst (kidsV (nodeAt d i))) := by
  have lt : i < d.nodes.length := by
    rw [← h.len]
    exact (List.getElem?_eq_some_iff.mp ha).1
  obtain ⟨a', c, dx, ha', hc, h1, h2⟩ := h.getC lt
  have e : a = a' := Option.some.inj (ha.symm.trans ha')
  subst e
  exact ⟨lt, c, dx, hc, h1, h2⟩
/-- the list of nodes is none of the children's lists -/
theorem DeskAt.kid_ne (h : DeskAt C H l as cs d) {j : Nat} {a c : Addr} {n : Node} (ha : as[j]? = some a) (hc : H c = some (.lst (kidsV n))) : c ≠ l := by
  refine ne_of hc h.lst fun e => ?_
  have e := HO.lst.inj e
  cases as with
  | nil => simp at ha
  | cons x as =>
    unfold kidsV at e
    cases hk : n.kids with
    | nil =>
      rw [hk] at e
      cases e
    | cons k ks =>
      rw [hk] at e
      cases e
theorem DeskAt.ne (h : DeskAt C H l as cs d) {a C' dx : Addr} {fs : List (Str × V)} (ha : H a = some (.ins C' dx fs)) : a ≠ l := ne_of ha h.lst fun e => by cases e
theorem DeskAt.some_at (h : DeskAt C H l as cs d) {a : Addr} (ha : a ∈ as) : ∃ dx n c, H a = some (.ins C dx (nF n c)) := by
  obtain ⟨j, hj⟩ := List.mem_iff_getElem?.mp ha
  obtain ⟨lt, c, dx, _, h1, _⟩ := h.getA hj
  exact ⟨dx, _, c, h1⟩
theorem DeskAt.kid_at (h : DeskAt C H l as cs d) {c : Addr} (hc : c ∈ cs) : ∃ n, H c = some (.lst (kidsV n)) := by
  obtain ⟨j, hj⟩ := List.mem_iff_getElem?.mp hc
  have lt : j < d.nodes.length := by
    rw [← h.clen]
    exact (List.getElem?_eq_some_iff.mp hj).1
  obtain ⟨a, c', dx, _, hc', _, h2⟩ := h.getC lt
  have e : c = c' := Option.some.inj (hj.symm.trans hc')
  subst e
  exact ⟨_, h2⟩
theorem DeskAt.not_mem (h : DeskAt C H l as cs d) {a : Addr} (ha : H a = none) : a ∉ as := fun m => by
  obtain ⟨dx, n, c, e⟩ := h.some_at m
  rw [ha] at e
  cases e
theorem DeskAt.lst_not_mem (h : DeskAt C H l as cs d) {a : Addr} {o : HO} (ha : H a = some o) (ho : ∀ C dx fs, o ≠ .ins C dx fs) : a ∉ as := fun m => by
  obtain ⟨dx, n, c, e⟩ := h.some_at m
  rw [ha] at e
  exact ho _ _ _ (Option.some.inj e)
theorem DeskAt.push {a c dx : Addr} {n : Node} (h : DeskAt C H l as cs d) (ha : H a = some (.ins C dx (nF n c))) (hc : H c = some (.lst (kidsV n))) (hcl : c ≠ l) (hn : a ∉ as) : DeskAt C (upd H l (.lst (as.map V.ref ++ [V.ref a]))) l (as ++ [a]) (cs ++ [c]) ⟨d.nodes ++ [n]⟩ := by
  refine ⟨by rw [upd_same, List.map_append]; rfl, List.nodup_append.mpr ⟨h.nd, by simp, fun x hx y hy e => ?_⟩, by rw [List.length_append, List.length_append, h.len]; rfl, by rw [List.length_append, List.length_append, h.clen]; rfl, fun j b c' m hb hc' hm => ?_⟩
  · have : y = a := by simpa using hy
    subst this
    subst e
    exact hn hx
  · rw [List.getElem?_append] at hb hc'
    have hm : (d.nodes ++ [n])[j]? = some m := hm
    rw [List.getElem?_append] at hm
    rw [h.len] at hb
    rw [h.clen] at hc'
    by_cases hj : j < d.nodes.length
    · rw [if_pos hj] at hb hc' hm
      obtain ⟨⟨dx', h1⟩, h2⟩ := h.at_ j b c' m hb hc' hm
      exact ⟨⟨dx', by rw [upd_ne (h.ne h1)]; exact h1⟩, by rw [upd_ne (h.kid_ne hb h2)]; exact h2⟩
    · rw [if_neg hj] at hb hc' hm
      cases ej : j - d.nodes.length with
      | zero =>
        rw [ej] at hb hc' hm
        have e1 : a = b := Option.some.inj hb
        have e2 : n = m := Option.some.inj hm
        have e3 : c = c' := Option.some.inj hc'
        subst e1
        subst e2
        subst e3
        exact ⟨⟨dx, by rw [upd_ne (h.ne ha)]; exact ha⟩, by rw [upd_ne hcl]; exact hc⟩
      | succ k =>
        rw [ej] at hb
        simp at hb
theorem DeskAt.pop (h : DeskAt C H l as cs d) : DeskAt C (upd H l (.lst (as.map V.ref).dropLast)) l as.dropLast cs.dropLast ⟨d.nodes.dropLast⟩ := by
  refine ⟨by rw [upd_same, List.map_dropLast], h.nd.sublist (List.dropLast_sublist _), by rw [List.length_dropLast, List.length_dropLast, h.len], by rw [List.length_dropLast, List.length_dropLast, h.clen], fun j b c m hb hc hm => ?_⟩
  have hm : d.nodes.dropLast[j]? = some m := hm
  rw [List.getElem?_dropLast] at hb hc hm
  split at hb
  · split at hm
    · split at hc
      · obtain ⟨⟨dx, h1⟩, h2⟩ := h.at_ j b c m hb hc hm
        exact ⟨⟨dx, by rw [upd_ne (h.ne h1)]; exact h1⟩, by rw [upd_ne (h.kid_ne hb h2)]; exact h2⟩
      · cases hc
    · cases hm
  · cases hb
theorem DeskAt.set {a c dx : Addr} {i : Nat} {m : Node} (h : DeskAt C H l as cs d) (ha : as[i]? = some a) (hc : cs[i]? = some c) (h1 : H a = some (.ins C dx (nF (nodeAt d i) c))) (h2 : H c = some (.lst (kidsV (nodeAt d i)))) (hk : m.kids = (nodeAt d i).kids) : DeskAt C (upd H a (.ins C dx (nF m c))) l as cs ⟨d.nodes.set i m⟩ := by
  refine ⟨by rw [upd_ne (h.ne h1).symm]; exact h.lst, h.nd, by rw [List.length_set]; exact h.len, by rw [List.length_set]; exact h.clen, fun j b c' m' hb hc' hm => ?_⟩
  have hm : (d.nodes.set i m)[j]? = some m' := hm
  by_cases hij : i = j
  · subst hij
    have e : a = b := Option.some.inj (ha.symm.trans hb)
    subst e
    have e : c = c' := Option.some.inj (hc.symm.trans hc')
    subst e
    rw [List.getElem?_set_self'] at hm
    cases hd : d.nodes[i]? with
    | none =>
      rw [hd] at hm
      cases hm
    | some o =>
      rw [hd] at hm
      have e : m = m' := Option.some.inj hm
      subst e
      refine ⟨⟨dx, upd_same⟩, ?_⟩
      rw [upd_ne (ne_of h2 h1 fun e => by cases e), h2]
      unfold kidsV
      rw [hk]
  · rw [List.getElem?_set_ne hij] at hm
    obtain ⟨⟨dx', h1'⟩, h2'⟩ := h.at_ j b c' m' hb hc' hm
    have nb : b ≠ a := fun e => hij (nd_ix h.nd ha (by rw [← e]; exact hb))
    exact ⟨⟨dx', by rw [upd_ne nb]; exact h1'⟩, by rw [upd_ne (ne_of h2' h1 fun e => by cases e)]; exact h2'⟩
/-- another list changes -/
theorem DeskAt.else_ (h : DeskAt C H l as cs d) {t : Addr} {xs ys : List V} (ht : H t = some (.lst xs)) (hl : t ≠ l) (hc : t ∉ cs) : DeskAt C (upd H t (.lst ys)) l as cs d :=
  ⟨by rw [upd_ne hl.symm]; exact h.lst, h.nd, h.len, h.clen, fun j a c n ha hc' hn => by
    obtain ⟨⟨dx, h1⟩, h2⟩ := h.at_ j a c n ha hc' hn
    refine ⟨⟨dx, ?_⟩, ?_⟩
    · rw [upd_ne (ne_of h1 ht fun e => by cases e)]
      exact h1
    · rw [upd_ne (fun e => hc (by rw [← e]; exact List.mem_of_getElem? hc'))]
      exact h2⟩
/-- a turn of a loop over the nodes -/
theorem DeskAt.turn (h : DeskAt C H l as cs d) {i : Nat} {y : V} (hi : (as.map V.ref)[i]? = some y) : ∃ a, i < d.nodes.length ∧ y = V.ref a ∧ NodeAt C H a (nodeAt d i) := by
  rw [List.getElem?_map] at hi
  cases e : as[i]? with
  | none =>
    rw [e] at hi
    cases hi
  | some a =>
    rw [e] at hi
    obtain ⟨lt, c, dx, _, h1, h2⟩ := h.getA e
    exact ⟨a, lt, (Option.some.inj hi).symm, dx, c, h1, h2⟩
end
theorem range_at {n i : Nat} {f : Nat → Nat} (h : i < n) : atI ((up ((List.range n).map f)).map V.int) (i : Int) = some (V.int ((f i : Nat) : Int)) := by
  refine atI_nat ?_
  unfold up
  rw [List.getElem?_map, List.getElem?_map, List.getElem?_map, List.getElem?_range h]
  rfl
/-- what holds of the heap behind a call that changes the desk at l alone -/
def Kept (H H' : Hp) (l : Addr) (as : List Addr) : Prop := ∀ b o, H b = some o → b ≠ l → b ∉ as → H' b = some o
theorem Same.kept {H H' : Hp} {l : Addr} {as : List Addr} (s : Same H H') : Kept H H' l as := fun b o e _ _ => s b o e
/-- new lists of children are lists that are new -/
def New (H : Hp) (cs cs' : List Addr) : Prop := ∀ c ∈ cs', c ∈ cs ∨ H c = none
theorem New.refl {H : Hp} {cs : List Addr} : New H cs cs := fun _ h => .inl h
/-- a question to the desk at l: what it answers, nothing that stood is changed -/
def Asked (C : Addr) (H : Hp) (l : Addr) (d : Desk) (r : List Int) (Q : VK) : Prop := ∃ as cs, DeskAt C H l as cs d ∧ WF d ∧
  ∀ (H' : Hp) (p : Addr), Same H H' → H p = none → H' p = some (.lst (r.map V.int)) → Q (.ref p) H'
/-- a call on the desk at l: the desk then, what it answers -/
def Done (C : Addr) (H : Hp) (l : Addr) (d d' : Desk) (r : List Int) (Q : VK) : Prop := ∃ as cs, DeskAt C H l as cs d ∧ WF d ∧
  ∀ (H' : Hp) (p : Addr) (as' cs' : List Addr), Kept H H' l as → New H cs cs' → H p = none → H' p = some (.lst (r.map V.int)) → DeskAt C H' l as' cs' d' → WF d' → Q (.ref p) H'
theorem Done.ask {C : Addr} {H : Hp} {l : Addr} {d : Desk} {r : List Int} {Q : VK} (h : Done C H l d d r Q) : Asked C H l d r Q := by
  obtain ⟨as, cs, D, W, k⟩ := h
  exact ⟨as, cs, D, W, fun H' p s hp hr => k H' p as cs (Same.kept s) New.refl hp hr (D.same s) W⟩
end Dp

namespace Dp
open PySem PySem.Spec PyProof.Rows L2
open Kp365 (Desk Node nodeAt)
open Dm
theorem set_nodup : ∀ {l : List Addr} {i : Nat} {x : Addr}, l.Nodup → x ∉ l → (l.set i x).Nodup
  | [], _, _, h, _ => h
  | a :: l, 0, x, h, n => List.nodup_cons.mpr ⟨fun m => n (List.mem_cons_of_mem _ m), (List.nodup_cons.mp h).2⟩
  | a :: l, i + 1, x, h, n => by
    have h' := List.nodup_cons.mp h
    refine List.nodup_cons.mpr ⟨fun m => ?_, set_nodup h'.2 fun m => n (List.mem_cons_of_mem _ m)⟩
    rcases List.mem_or_eq_of_mem_set m with m | m
    · exact h'.1 m
    · exact n (by rw [m]; exact List.mem_cons_self ..)
/-- a copy of the list of nodes, one of them another one -/
theorem DeskAt.alter {C : Addr} {H : Hp} {l p x c dx : Addr} {as cs : List Addr} {d : Desk} {i : Nat} {m : Node} (h : DeskAt C H l as cs d) (hp : H p = some (.lst ((as.map V.ref).set i (V.ref x)))) (hx : H x = some (.ins C dx (nF m c))) (hc : H c = some (.lst (kidsV m))) (hn : x ∉ as) :
    DeskAt C H p (as.set i x) (cs.set i c) ⟨d.nodes.set i m⟩ := by
  refine ⟨by rw [hp, List.map_set], set_nodup h.nd hn, by rw [List.length_set, List.length_set]; exact h.len, by rw [List.length_set, List.length_set]; exact h.clen, fun j a c' n ha hc' hm => ?_⟩
  have hm : (d.nodes.set i m)[j]? = some n := hm
  by_cases e : i = j
  · subst e
    rw [List.getElem?_set_self'] at ha hc' hm
    cases e1 : as[i]? with
    | none =>
      rw [e1] at ha
      cases ha
    | some a0 =>
      rw [e1] at ha
      cases e2 : cs[i]? with
      | none =>
        rw [e2] at hc'
        cases hc'
      | some c0 =>
        rw [e2] at hc'
        cases e3 : d.nodes[i]? with
        | none =>
          rw [e3] at hm
          cases hm
        | some n0 =>
          rw [e3] at hm
          have z1 : x = a := Option.some.inj ha
          have z2 : c = c' := Option.some.inj hc'
          have z3 : m = n := Option.some.inj hm
          subst z1
          subst z2
          subst z3
          exact ⟨⟨dx, hx⟩, hc⟩
  · rw [List.getElem?_set_ne e] at ha hc' hm
    exact h.at_ j a c' n ha hc' hm
/-! ### Rows of numbers, each a list of its own -/
structure RowsAt (H : Hp) (ps : List Addr) (rs : List (List Nat)) : Prop where
  len : ps.length = rs.length
  at_ : ∀ (i : Nat) (q : Addr) (r : List Nat), ps[i]? = some q → rs[i]? = some r → H q = some (.lst ((up r).map V.int))
theorem RowsAt.nil {H : Hp} : RowsAt H [] [] := ⟨rfl, fun i q r h => by simp at h⟩
theorem RowsAt.same {H H' : Hp} {ps : List Addr} {rs : List (List Nat)} (h : RowsAt H ps rs) (s : Same H H') : RowsAt H' ps rs := ⟨h.len, fun i q r h1 h2 => s _ _ (h.at_ i q r h1 h2)⟩
theorem RowsAt.get {H : Hp} {ps : List Addr} {rs : List (List Nat)} (h : RowsAt H ps rs) {i : Nat} (hi : i < rs.length) : ∃ q, ps[i]? = some q ∧ H q = some (.lst ((up (rs.getD i [])).map V.int)) := by
  have lt : i < ps.length := by rw [h.len]; exact hi
  refine ⟨ps[i], List.getElem?_eq_getElem lt, ?_⟩
  rw [List.getD_eq_getElem?_getD, List.getElem?_eq_getElem hi]
  exact h.at_ i _ _ (List.getElem?_eq_getElem lt) (List.getElem?_eq_getElem hi)
theorem RowsAt.some_at {H : Hp} {ps : List Addr} {rs : List (List Nat)} (h : RowsAt H ps rs) {q : Addr} (hq : q ∈ ps) : ∃ r, H q = some (.lst ((up r).map V.int)) := by
  obtain ⟨j, hj⟩ := List.mem_iff_getElem?.mp hq
  have lt : j < rs.length := by
    rw [← h.len]
    exact (List.getElem?_eq_some_iff.mp hj).1
  exact ⟨_, h.at_ j q _ hj (List.getElem?_eq_getElem lt)⟩
theorem RowsAt.not_mem {H : Hp} {ps : List Addr} {rs : List (List Nat)} (h : RowsAt H ps rs) {t : Addr} (ht : H t = none) : t ∉ ps := fun m => by
  obtain ⟨r, e⟩ := h.some_at m
  rw [ht] at e
  cases e
theorem RowsAt.else_ {H : Hp} {ps : List Addr} {rs : List (List Nat)} (h : RowsAt H ps rs) {t : Addr} {o : HO} (ht : t ∉ ps) : RowsAt (upd H t o) ps rs :=
  ⟨h.len, fun i q r h1 h2 => by
    rw [upd_ne (fun e => ht (by rw [← e]; exact List.mem_of_getElem? h1))]
    exact h.at_ i q r h1 h2⟩
theorem RowsAt.push {H : Hp} {ps : List Addr} {rs : List (List Nat)} (h : RowsAt H ps rs) {q : Addr} {r : List Nat} (hq : H q = some (.lst ((up r).map V.int))) : RowsAt H (ps ++ [q]) (rs ++ [r]) := by
  refine ⟨by rw [List.length_append, List.length_append, h.len]; rfl, fun i a b h1 h2 => ?_⟩
  rw [List.getElem?_append] at h1 h2
  rw [h.len] at h1
  by_cases c : i < rs.length
  · rw [if_pos c] at h1 h2
    exact h.at_ i a b h1 h2
  · rw [if_neg c] at h1 h2
    cases e : i - rs.length with
    | zero =>
      rw [e] at h1 h2
      have z1 : q = a := Option.some.inj h1
      have z2 : r = b := Option.some.inj h2
      subst z1
      subst z2
      exact hq
    | succ k =>
      rw [e] at h1
      simp at h1
/-- a question to the desk at l that is answered by rows, one for each node -/
def AskedRows (C : Addr) (H : Hp) (l : Addr) (d : Desk) (rs : List (List Nat)) (Q : VK) : Prop := ∃ as cs, DeskAt C H l as cs d ∧ WF d ∧
  ∀ (H' : Hp) (p : Addr) (ps : List Addr), Same H H' → H p = none → H' p = some (.lst (ps.map V.ref)) → RowsAt H' ps rs → Q (.ref p) H'
theorem refs_at {ps : List Addr} {i : Nat} {q : Addr} (h : ps[i]? = some q) : atI (ps.map V.ref) (i : Int) = some (V.ref q) := atI_nat (by rw [List.getElem?_map, h]; rfl)
theorem rows_get {n i : Nat} {f : Nat → List Nat} (hi : i < n) : (((List.range n).map f).getD i []) = f i := by
  rw [List.getD_eq_getElem?_getD, List.getElem?_map, List.getElem?_range hi]
  rfl
/-- a turn of a walk by enumerate over the nodes -/
theorem DeskAt.turnE {C : Addr} {H H' : Hp} {l : Addr} {as cs : List Addr} {d : Desk} (h : DeskAt C H l as cs d) {i : Nat} {v : V} (y : YPair (fun i => some (V.int (i : Nat))) (fun i => (as.map V.ref)[i]?) i H v H') :
    ∃ T a, v = V.ref T ∧ H T = none ∧ H' = upd H T (.tup [V.int (i : Int), V.ref a]) ∧ i < d.nodes.length ∧ NodeAt C H a (nodeAt d i) := by
  obtain ⟨T, x, z, h1, h2, h3, h4, h5⟩ := y
  obtain ⟨a, lt, rfl, hN⟩ := h.turn h5
  have e : V.int ((i : Nat) : Int) = x := Option.some.inj h4
  subst e
  exact ⟨T, a, h1, h2, h3, lt, hN⟩
theorem up_one (n : Nat) : (up [n]).map V.int = [V.int (n : Int)] := rfl
theorem up_get {l : List Nat} {i c : Nat} (h : l[i]? = some c) : atI ((up l).map V.int) (i : Int) = some (V.int (c : Int)) := atI_nat (by unfold up; rw [List.map_map, List.getElem?_map, h]; rfl)
theorem kids_get {n : Node} {i c : Nat} (h : n.kids[i]? = some c) : atI (kidsV n) (i : Int) = some (V.int (c : Int)) := atI_nat (by unfold kidsV; rw [List.getElem?_map, h]; rfl)
theorem kidsV_at {n : Node} {i : Nat} {y : V} (hi : (kidsV n)[i]? = some y) : ∃ k, n.kids[i]? = some k ∧ y = V.int (k : Int) := by
  unfold kidsV at hi
  rw [List.getElem?_map] at hi
  cases e : n.kids[i]? with
  | none =>
    rw [e] at hi
    cases hi
  | some z =>
    rw [e] at hi
    exact ⟨z, rfl, (Option.some.inj hi).symm⟩
theorem upV_at {l : List Nat} {i : Nat} {y : V} (hi : ((up l).map V.int)[i]? = some y) : ∃ k, l[i]? = some k ∧ y = V.int (k : Int) := by
  unfold up at hi
  rw [List.map_map, List.getElem?_map] at hi
  cases e : l[i]? with
  | none =>
    rw [e] at hi
    cases hi
  | some z =>
    rw [e] at hi
    exact ⟨z, rfl, (Option.some.inj hi).symm⟩
end Dp

namespace Dp
open PySem PySem.Spec PyProof.Rows L2
/-! ### The text by places, the defs' scopes -/
def top (i : Nat) : Stmt := PySem.Challenge.pw_disputed_s01_answers.main.body.getD i (.Pass ⟨0, 0, 0, 0⟩)
abbrev s_Node_init : Stmt := inClass (top 12) 0
theorem sc_Node_init : FnScope ["self", "kind", "so", "misread", "children"] ["self", "kind", "so", "misread", "children"] (defScope s_Node_init) := ⟨rfl, rfl, rfl, by decide +kernel, rfl, by decide +kernel, by decide +kernel⟩
abbrev s_add_leaf : Stmt := top 13
theorem sc_add_leaf : FnScope ["nodes", "so", "misread"] ["nodes", "so", "misread"] (defScope s_add_leaf) := ⟨rfl, rfl, rfl, by decide +kernel, rfl, by decide +kernel, by decide +kernel⟩
abbrev s_add_joint : Stmt := top 14
theorem sc_add_joint : FnScope ["nodes", "kind", "row"] ["nodes", "kind", "row"] (defScope s_add_joint) := ⟨rfl, rfl, rfl, by decide +kernel, rfl, by decide +kernel, by decide +kernel⟩
abbrev s_add_node : Stmt := top 15
theorem sc_add_node : FnScope ["nodes", "node"] ["nodes", "node"] (defScope s_add_node) := ⟨rfl, rfl, rfl, by decide +kernel, rfl, by decide +kernel, by decide +kernel⟩
abbrev s_can_be_children : Stmt := top 16
theorem sc_can_be_children : FnScope ["nodes", "row", "taken", "child"] ["nodes", "row"] (defScope s_can_be_children) := ⟨rfl, rfl, rfl, by decide +kernel, rfl, by decide +kernel, by decide +kernel⟩
abbrev s_children_of_all : Stmt := top 17
theorem sc_children_of_all : FnScope ["nodes", "taken", "node"] ["nodes"] (defScope s_children_of_all) := ⟨rfl, rfl, rfl, by decide +kernel, rfl, by decide +kernel, by decide +kernel⟩
abbrev s_pop_last : Stmt := top 18
theorem sc_pop_last : FnScope ["nodes"] ["nodes"] (defScope s_pop_last) := ⟨rfl, rfl, rfl, by decide +kernel, rfl, by decide +kernel, by decide +kernel⟩
abbrev s_tell_node : Stmt := top 19
theorem sc_tell_node : FnScope ["nodes", "i", "node"] ["nodes", "i"] (defScope s_tell_node) := ⟨rfl, rfl, rfl, by decide +kernel, rfl, by decide +kernel, by decide +kernel⟩
abbrev s_flip_leaf : Stmt := top 20
theorem sc_flip_leaf : FnScope ["nodes", "i", "node"] ["nodes", "i"] (defScope s_flip_leaf) := ⟨rfl, rfl, rfl, by decide +kernel, rfl, by decide +kernel, by decide +kernel⟩
abbrev s_change_misread : Stmt := top 21
theorem sc_change_misread : FnScope ["nodes", "i", "misread", "node", "before"] ["nodes", "i", "misread"] (defScope s_change_misread) := ⟨rfl, rfl, rfl, by decide +kernel, rfl, by decide +kernel, by decide +kernel⟩
abbrev s_tell_true : Stmt := top 23
theorem sc_tell_true : FnScope ["nodes", "i"] ["nodes", "i"] (defScope s_tell_true) := ⟨rfl, rfl, rfl, by decide +kernel, rfl, by decide +kernel, by decide +kernel⟩
abbrev s_tell_held : Stmt := top 24
theorem sc_tell_held : FnScope ["nodes", "i"] ["nodes", "i"] (defScope s_tell_held) := ⟨rfl, rfl, rfl, by decide +kernel, rfl, by decide +kernel, by decide +kernel⟩
abbrev s_tell_right : Stmt := top 25
theorem sc_tell_right : FnScope ["nodes", "i"] ["nodes", "i"] (defScope s_tell_right) := ⟨rfl, rfl, rfl, by decide +kernel, rfl, by decide +kernel, by decide +kernel⟩
abbrev s_tell_pick : Stmt := top 26
theorem sc_tell_pick : FnScope ["nodes", "i"] ["nodes", "i"] (defScope s_tell_pick) := ⟨rfl, rfl, rfl, by decide +kernel, rfl, by decide +kernel, by decide +kernel⟩
abbrev s_tell_way : Stmt := top 27
theorem sc_tell_way : FnScope ["nodes", "i", "held", "way", "at"] ["nodes", "i"] (defScope s_tell_way) := ⟨rfl, rfl, rfl, by decide +kernel, rfl, by decide +kernel, by decide +kernel⟩
abbrev s_tell_by_told_picks : Stmt := top 28
theorem sc_tell_by_told_picks : FnScope ["nodes", "kind", "i", "row"] ["nodes", "kind", "i", "row"] (defScope s_tell_by_told_picks) := ⟨rfl, rfl, rfl, by decide +kernel, rfl, by decide +kernel, by decide +kernel⟩
abbrev s_truths : Stmt := top 29
theorem sc_truths : FnScope ["nodes", "found", "node"] ["nodes"] (defScope s_truths) := ⟨rfl, rfl, rfl, by decide +kernel, rfl, by decide +kernel, by decide +kernel⟩
abbrev s_held_hundredths : Stmt := top 30
theorem sc_held_hundredths : FnScope ["nodes", "found", "node"] ["nodes"] (defScope s_held_hundredths) := ⟨rfl, rfl, rfl, by decide +kernel, rfl, by decide +kernel, by decide +kernel⟩
abbrev s_right_hundredths : Stmt := top 31
theorem sc_right_hundredths : FnScope ["nodes", "i", "held"] ["nodes", "i"] (defScope s_right_hundredths) := ⟨rfl, rfl, rfl, by decide +kernel, rfl, by decide +kernel, by decide +kernel⟩
abbrev s_are_picks : Stmt := top 32
theorem sc_are_picks : FnScope ["nodes", "kind", "row", "place", "node", "choices"] ["nodes", "kind", "row"] (defScope s_are_picks) := ⟨rfl, rfl, rfl, by decide +kernel, rfl, by decide +kernel, by decide +kernel⟩
abbrev s_held_by_told_picks : Stmt := top 33
theorem sc_held_by_told_picks : FnScope ["nodes", "kind", "row", "found", "place", "node"] ["nodes", "kind", "row"] (defScope s_held_by_told_picks) := ⟨rfl, rfl, rfl, by decide +kernel, rfl, by decide +kernel, by decide +kernel⟩
abbrev s_read_as_so : Stmt := top 34
theorem sc_read_as_so : FnScope ["leaf"] ["leaf"] (defScope s_read_as_so) := ⟨rfl, rfl, rfl, by decide +kernel, rfl, by decide +kernel, by decide +kernel⟩
abbrev s_picked_value : Stmt := top 35
theorem sc_picked_value : FnScope ["node", "values", "below", "child"] ["node", "values"] (defScope s_picked_value) := ⟨rfl, rfl, rfl, by decide +kernel, rfl, by decide +kernel, by decide +kernel⟩
abbrev s_picked_child : Stmt := top 36
theorem sc_picked_child : FnScope ["node", "values", "below", "child"] ["node", "values"] (defScope s_picked_child) := ⟨rfl, rfl, rfl, by decide +kernel, rfl, by decide +kernel, by decide +kernel⟩
abbrev s_fraction : Stmt := top 37
theorem sc_fraction : FnScope ["hundredths", "shared"] ["hundredths"] (defScope s_fraction) := ⟨rfl, rfl, rfl, by decide +kernel, rfl, by decide +kernel, by decide +kernel⟩
abbrev s_common_part : Stmt := top 38
theorem sc_common_part : FnScope ["one", "other", "rest"] ["one", "other"] (defScope s_common_part) := ⟨rfl, rfl, rfl, by decide +kernel, rfl, by decide +kernel, by decide +kernel⟩
abbrev s_tell_proof : Stmt := top 40
theorem sc_tell_proof : FnScope ["nodes", "i"] ["nodes", "i"] (defScope s_tell_proof) := ⟨rfl, rfl, rfl, by decide +kernel, rfl, by decide +kernel, by decide +kernel⟩
abbrev s_tell_leaves : Stmt := top 41
theorem sc_tell_leaves : FnScope ["nodes", "i"] ["nodes", "i"] (defScope s_tell_leaves) := ⟨rfl, rfl, rfl, by decide +kernel, rfl, by decide +kernel, by decide +kernel⟩
abbrev s_tell_matter : Stmt := top 42
theorem sc_tell_matter : FnScope ["nodes", "i", "now", "leaf"] ["nodes", "i"] (defScope s_tell_matter) := ⟨rfl, rfl, rfl, by decide +kernel, rfl, by decide +kernel, by decide +kernel⟩
abbrev s_tell_if_misread : Stmt := top 43
theorem sc_tell_if_misread : FnScope ["nodes", "i", "j", "misread"] ["nodes", "i", "j", "misread"] (defScope s_tell_if_misread) := ⟨rfl, rfl, rfl, by decide +kernel, rfl, by decide +kernel, by decide +kernel⟩
abbrev s_tell_if_flipped : Stmt := top 44
theorem sc_tell_if_flipped : FnScope ["nodes", "i", "j"] ["nodes", "i", "j"] (defScope s_tell_if_flipped) := ⟨rfl, rfl, rfl, by decide +kernel, rfl, by decide +kernel, by decide +kernel⟩
abbrev s_tell_best : Stmt := top 45
theorem sc_tell_best : FnScope ["nodes", "i", "below", "wins", "most", "leaf"] ["nodes", "i"] (defScope s_tell_best) := ⟨rfl, rfl, rfl, by decide +kernel, rfl, by decide +kernel, by decide +kernel⟩
abbrev s_tell_depth : Stmt := top 46
theorem sc_tell_depth : FnScope ["nodes", "i"] ["nodes", "i"] (defScope s_tell_depth) := ⟨rfl, rfl, rfl, by decide +kernel, rfl, by decide +kernel, by decide +kernel⟩
abbrev s_counted : Stmt := top 47
theorem sc_counted : FnScope ["row"] ["row"] (defScope s_counted) := ⟨rfl, rfl, rfl, by decide +kernel, rfl, by decide +kernel, by decide +kernel⟩
abbrev s_leaves_below : Stmt := top 48
theorem sc_leaves_below : FnScope ["nodes", "found", "place", "node"] ["nodes"] (defScope s_leaves_below) := ⟨rfl, rfl, rfl, by decide +kernel, rfl, by decide +kernel, by decide +kernel⟩
abbrev s_proofs : Stmt := top 49
theorem sc_proofs : FnScope ["nodes", "true", "found", "place", "node", "alike", "child"] ["nodes"] (defScope s_proofs) := ⟨rfl, rfl, rfl, by decide +kernel, rfl, by decide +kernel, by decide +kernel⟩
abbrev s_needs_all : Stmt := top 50
theorem sc_needs_all : FnScope ["node", "true"] ["node", "true"] (defScope s_needs_all) := ⟨rfl, rfl, rfl, by decide +kernel, rfl, by decide +kernel, by decide +kernel⟩
abbrev s_joined : Stmt := top 51
theorem sc_joined : FnScope ["node", "rows", "together", "child"] ["node", "rows"] (defScope s_joined) := ⟨rfl, rfl, rfl, by decide +kernel, rfl, by decide +kernel, by decide +kernel⟩
abbrev s_depths : Stmt := top 52
theorem sc_depths : FnScope ["nodes", "found", "node", "child"] ["nodes"] (defScope s_depths) := ⟨rfl, rfl, rfl, by decide +kernel, rfl, by decide +kernel, by decide +kernel⟩
abbrev s_with_misread : Stmt := top 53
theorem sc_with_misread : FnScope ["nodes", "j", "misread", "changed"] ["nodes", "j", "misread"] (defScope s_with_misread) := ⟨rfl, rfl, rfl, by decide +kernel, rfl, by decide +kernel, by decide +kernel⟩
abbrev s_with_flipped : Stmt := top 54
theorem sc_with_flipped : FnScope ["nodes", "j", "changed"] ["nodes", "j"] (defScope s_with_flipped) := ⟨rfl, rfl, rfl, by decide +kernel, rfl, by decide +kernel, by decide +kernel⟩
abbrev s_Session_init : Stmt := inClass (top 78) 0
theorem sc_Session_init : FnScope ["self"] ["self"] (defScope s_Session_init) := ⟨rfl, rfl, rfl, by decide +kernel, rfl, by decide +kernel, by decide +kernel⟩
abbrev s_answer_call : Stmt := top 79
theorem sc_answer_call : FnScope ["session", "call", "numbers"] ["session", "call", "numbers"] (defScope s_answer_call) := ⟨rfl, rfl, rfl, by decide +kernel, rfl, by decide +kernel, by decide +kernel⟩
abbrev s_begin : Stmt := top 80
theorem sc_begin : FnScope ["session"] ["session"] (defScope s_begin) := ⟨rfl, rfl, rfl, by decide +kernel, rfl, by decide +kernel, by decide +kernel⟩
abbrev s_answer_about_nodes : Stmt := top 81
theorem sc_answer_about_nodes : FnScope ["nodes", "call", "numbers"] ["nodes", "call", "numbers"] (defScope s_answer_about_nodes) := ⟨rfl, rfl, rfl, by decide +kernel, rfl, by decide +kernel, by decide +kernel⟩
abbrev s_answer_about_dispute : Stmt := top 82
theorem sc_answer_about_dispute : FnScope ["nodes", "call", "numbers", "kind"] ["nodes", "call", "numbers"] (defScope s_answer_about_dispute) := ⟨rfl, rfl, rfl, by decide +kernel, rfl, by decide +kernel, by decide +kernel⟩
abbrev s_answer_about_leaves : Stmt := top 83
theorem sc_answer_about_leaves : FnScope ["nodes", "call", "numbers"] ["nodes", "call", "numbers"] (defScope s_answer_about_leaves) := ⟨rfl, rfl, rfl, by decide +kernel, rfl, by decide +kernel, by decide +kernel⟩
abbrev s_answers : Stmt := top 85
theorem sc_answers : FnScope ["calls", "session", "told", "at", "first", "behind", "answer"] ["calls"] (defScope s_answers) := ⟨rfl, rfl, rfl, by decide +kernel, rfl, by decide +kernel, by decide +kernel⟩
/-! ### What the top has written -/
structure Txt (K : PySem.W.Frag) (mg : Str → Option Value) (C_Node C_Session : Addr) : Prop where
  cl_Node : Cls K C_Node
  n_Node_kind : NoAttr K C_Node "kind"
  n_Node_so : NoAttr K C_Node "so"
  n_Node_misread : NoAttr K C_Node "misread"
  n_Node_children : NoAttr K C_Node "children"
  cl_Session : Cls K C_Session
  n_Session_begun : NoAttr K C_Session "begun"
  n_Session_nodes : NoAttr K C_Session "nodes"
  c_LEAF : Glob mg "LEAF" (.int (0))
  c_WHOLE : Glob mg "WHOLE" (.int (100))
  c_BAD_NUMBERS : Glob mg "BAD_NUMBERS" (.int (-22))
  c_MOST_NODES : Glob mg "MOST_NODES" (.int (20))
  c_TOO_MANY : Glob mg "TOO_MANY" (.int (-28))
  c_MOST_CHILDREN : Glob mg "MOST_CHILDREN" (.int (4))
  c_NONE_LEFT : Glob mg "NONE_LEFT" (.int (-6))
  c_NO_NODE : Glob mg "NO_NODE" (.int (-2))
  c_UNFIT : Glob mg "UNFIT" (.int (-33))
  c_ALL_OF : Glob mg "ALL_OF" (.int (1))
  c_CALL_BYDOUBT : Glob mg "CALL_BYDOUBT" (.int (14))
  c_CALL_WRONG : Glob mg "CALL_WRONG" (.int (7))
  c_NOT_BEGUN : Glob mg "NOT_BEGUN" (.int (-11))
  c_CALL_BEGIN : Glob mg "CALL_BEGIN" (.int (0))
  c_CALL_FLIP : Glob mg "CALL_FLIP" (.int (6))
  c_CALL_NODEIS : Glob mg "CALL_NODEIS" (.int (5))
  c_CALL_POP : Glob mg "CALL_POP" (.int (4))
  c_CALL_SOME : Glob mg "CALL_SOME" (.int (3))
  c_SOME_OF : Glob mg "SOME_OF" (.int (2))
  c_CALL_ALL_OF : Glob mg "CALL_ALL_OF" (.int (2))
  c_CALL_LEAF : Glob mg "CALL_LEAF" (.int (1))
  c_CALL_BYSAY : Glob mg "CALL_BYSAY" (.int (13))
  c_CALL_WAY : Glob mg "CALL_WAY" (.int (12))
  c_CALL_PICK : Glob mg "CALL_PICK" (.int (11))
  c_CALL_RIGHT : Glob mg "CALL_RIGHT" (.int (10))
  c_CALL_HELD : Glob mg "CALL_HELD" (.int (9))
  c_CALL_TRUE : Glob mg "CALL_TRUE" (.int (8))
  c_CALL_BEST : Glob mg "CALL_BEST" (.int (20))
  c_CALL_IFFLIP : Glob mg "CALL_IFFLIP" (.int (19))
  c_CALL_IFWRONG : Glob mg "CALL_IFWRONG" (.int (18))
  c_CALL_MATTER : Glob mg "CALL_MATTER" (.int (17))
  c_CALL_LEAVES : Glob mg "CALL_LEAVES" (.int (16))
  c_CALL_PROOF : Glob mg "CALL_PROOF" (.int (15))
  b_list : mg "list" = none
  b_len : mg "len" = none
  b_enumerate : mg "enumerate" = none
  b_max : mg "max" = none
  b_min : mg "min" = none
end Dp

namespace Dp
open PySem PySem.Spec PyProof.Rows L2
open Kp365 (Desk Node nodeAt isTrue)
open Dm Ml
/-! ### What a call does to the desk -/
def stepD (d : Desk) (c : Kp365.Call) : Desk := ((stepL (some d) c).1).getD ⟨[]⟩
def stepA (d : Desk) (c : Kp365.Call) : List Int := (stepL (some d) c).2
def addN (d : Desk) (n : Node) : Desk × List Int := if 20 ≤ d.nodes.length then (d, [-28]) else (⟨d.nodes ++ [n]⟩, [(d.nodes.length : Int)])
def bits (d : Desk) : List Int := up ((List.range d.nodes.length).map (bitN d))
def helds (d : Desk) : List Int := up ((List.range d.nodes.length).map (held100 d))
/-- the least, or the greatest, of some values -/
def pickV (kind : Nat) (vals : List Nat) : Nat := if kind = 1 then vals.foldl min 100 else vals.foldl max 0
def ofLeaf100 (n : Node) : Nat := if n.so = 1 then 100 - n.wrong else n.wrong
/-! ### The promises -/
section
set_option linter.unusedVariables false
def sp_Node_init (K : PySem.W.Frag) (C_Node C_Session : Addr) : Sp := fun vs H Q _ => ∃ (p dx : Addr) (k s m c : V), vs = [.ref p, k, s, m, c] ∧ H p = some (.ins C_Node dx []) ∧
  ∀ H' : Hp, H' p = some (.ins C_Node dx [("kind", k), ("so", s), ("misread", m), ("children", c)]) → (∀ b o, H b = some o → b ≠ p → H' b = some o) → Q .non H'
def sp_add_node (K : PySem.W.Frag) (C_Node C_Session : Addr) : Sp := fun vs H Q _ => ∃ (l a c dx : Addr) (as cs : List Addr) (d : Desk) (n : Node), vs = [.ref l, .ref a] ∧ DeskAt C_Node H l as cs d ∧ d.nodes.length ≤ 20 ∧ H a = some (.ins C_Node dx (nF n c)) ∧ H c = some (.lst (kidsV n)) ∧ c ≠ l ∧ a ∉ as ∧
  ∀ (H' : Hp) (p : Addr) (as' cs' : List Addr), Kept H H' l as → (∀ x ∈ cs', x ∈ cs ∨ x = c) → H p = none → H' p = some (.lst ((addN d n).2.map V.int)) → DeskAt C_Node H' l as' cs' (addN d n).1 → Q (.ref p) H'
def sp_add_leaf (K : PySem.W.Frag) (C_Node C_Session : Addr) : Sp := fun vs H Q _ => ∃ (l : Addr) (d : Desk) (so w : Nat), vs = [.ref l, .int (so : Int), .int (w : Int)] ∧ Done C_Node H l d (stepD d (.leaf so w)) (stepA d (.leaf so w)) Q
def callOfKind (kind : Nat) (row : List Nat) : Kp365.Call := if kind = 1 then .all_ row else .some_ row
def sp_add_joint (K : PySem.W.Frag) (C_Node C_Session : Addr) : Sp := fun vs H Q _ => ∃ (l r : Addr) (d : Desk) (kind : Nat) (row : List Nat), vs = [.ref l, .int (kind : Int), .ref r] ∧ (kind = 1 ∨ kind = 2) ∧ row.length ≤ 6 ∧ H r = some (.lst ((up row).map V.int)) ∧ r ≠ l ∧ Done C_Node H l d (stepD d (callOfKind kind row)) (stepA d (callOfKind kind row)) Q
def sp_can_be_children (K : PySem.W.Frag) (C_Node C_Session : Addr) : Sp := fun vs H Q _ => ∃ (l r : Addr) (as cs : List Addr) (d : Desk) (row : List Nat), vs = [.ref l, .ref r] ∧ DeskAt C_Node H l as cs d ∧ WF d ∧ row.length ≤ 6 ∧ H r = some (.lst ((up row).map V.int)) ∧
  ∀ H' : Hp, Same H H' → Q (.bl (Kp365.okKids d row)) H'
def sp_children_of_all (K : PySem.W.Frag) (C_Node C_Session : Addr) : Sp := fun vs H Q _ => ∃ (l : Addr) (as cs : List Addr) (d : Desk), vs = [.ref l] ∧ DeskAt C_Node H l as cs d ∧ WF d ∧
  ∀ (H' : Hp) (p : Addr), Same H H' → H p = none → H' p = some (.lst ((up (allKids d)).map V.int)) → Q (.ref p) H'
def sp_pop_last (K : PySem.W.Frag) (C_Node C_Session : Addr) : Sp := fun vs H Q _ => ∃ (l : Addr) (d : Desk), vs = [.ref l] ∧ Done C_Node H l d (stepD d .pop) (stepA d .pop) Q
def sp_tell_node (K : PySem.W.Frag) (C_Node C_Session : Addr) : Sp := fun vs H Q _ => ∃ (l : Addr) (d : Desk) (i : Nat), vs = [.ref l, .int (i : Int)] ∧ Asked C_Node H l d (stepA d (.nodeIs i)) Q
def sp_flip_leaf (K : PySem.W.Frag) (C_Node C_Session : Addr) : Sp := fun vs H Q _ => ∃ (l : Addr) (d : Desk) (i : Nat), vs = [.ref l, .int (i : Int)] ∧ Done C_Node H l d (stepD d (.flip i)) (stepA d (.flip i)) Q
def sp_change_misread (K : PySem.W.Frag) (C_Node C_Session : Addr) : Sp := fun vs H Q _ => ∃ (l : Addr) (d : Desk) (i w : Nat), vs = [.ref l, .int (i : Int), .int (w : Int)] ∧ Done C_Node H l d (stepD d (.wrong i w)) (stepA d (.wrong i w)) Q
def sp_tell_true (K : PySem.W.Frag) (C_Node C_Session : Addr) : Sp := fun vs H Q _ => ∃ (l : Addr) (d : Desk) (i : Nat), vs = [.ref l, .int (i : Int)] ∧ Asked C_Node H l d (stepA d (.true_ i)) Q
def sp_tell_held (K : PySem.W.Frag) (C_Node C_Session : Addr) : Sp := fun vs H Q _ => ∃ (l : Addr) (d : Desk) (i : Nat), vs = [.ref l, .int (i : Int)] ∧ Asked C_Node H l d (stepA d (.held i)) Q
def sp_tell_right (K : PySem.W.Frag) (C_Node C_Session : Addr) : Sp := fun vs H Q _ => ∃ (l : Addr) (d : Desk) (i : Nat), vs = [.ref l, .int (i : Int)] ∧ Asked C_Node H l d (stepA d (.right i)) Q
def sp_truths (K : PySem.W.Frag) (C_Node C_Session : Addr) : Sp := fun vs H Q _ => ∃ (l : Addr) (d : Desk), vs = [.ref l] ∧ Asked C_Node H l d (bits d) Q
def sp_held_hundredths (K : PySem.W.Frag) (C_Node C_Session : Addr) : Sp := fun vs H Q _ => ∃ (l : Addr) (d : Desk), vs = [.ref l] ∧ Asked C_Node H l d (helds d) Q
def sp_right_hundredths (K : PySem.W.Frag) (C_Node C_Session : Addr) : Sp := fun vs H Q _ => ∃ (l : Addr) (as cs : List Addr) (d : Desk) (i : Nat), vs = [.ref l, .int (i : Int)] ∧ DeskAt C_Node H l as cs d ∧ WF d ∧ i < d.nodes.length ∧ ∀ H' : Hp, Same H H' → Q (.int (right100 d i : Int)) H'
def sp_read_as_so (K : PySem.W.Frag) (C_Node C_Session : Addr) : Sp := fun vs H Q _ => ∃ (a : Addr) (n : Node), vs = [.ref a] ∧ NodeAt C_Node H a n ∧ n.wrong ≤ 100 ∧ Q (.int (ofLeaf100 n : Int)) H
def sp_picked_value (K : PySem.W.Frag) (C_Node C_Session : Addr) : Sp := fun vs H Q _ => ∃ (a v : Addr) (n : Node) (vals : List Nat), vs = [.ref a, .ref v] ∧ NodeAt C_Node H a n ∧ (n.kind = 1 ∨ n.kind = 2) ∧ 1 ≤ n.kids.length ∧ n.kids.length ≤ 4 ∧ H v = some (.lst ((up vals).map V.int)) ∧ (∀ k ∈ n.kids, k < vals.length) ∧ (∀ x ∈ vals, x ≤ 100) ∧
  ∀ H' : Hp, Same H H' → Q (.int (pickV n.kind (n.kids.map fun k => vals.getD k 0) : Int)) H'
def sp_fraction (K : PySem.W.Frag) (C_Node C_Session : Addr) : Sp := fun vs H Q _ => ∃ (h : Nat), vs = [.int (h : Int)] ∧ h ≤ 100 ∧ ∀ (H' : Hp) (p : Addr), Same H H' → H p = none → H' p = some (.lst ([(fr100 h).1, (fr100 h).2].map V.int)) → Q (.ref p) H'
def sp_common_part (K : PySem.W.Frag) (C_Node C_Session : Addr) : Sp := fun vs H Q _ => ∃ (a b : Nat), vs = [.int (a : Int), .int (b : Int)] ∧ Q (.int (Nat.gcd a b : Int)) H
/-! stage 2 -/
def bys (d : Desk) (kind : Nat) (row : List Nat) : List Int := up ((List.range d.nodes.length).map (by100 d kind row))
def deps (d : Desk) : List Int := up ((List.range d.nodes.length).map (depthD d))
def lvs (d : Desk) : List (List Nat) := (List.range d.nodes.length).map (Kp365.leaves d)
def prfs (d : Desk) : List (List Nat) := (List.range d.nodes.length).map (Kp365.proof d)
def callOfBy (kind i : Nat) (l : List Nat) : Kp365.Call := if kind = 2 then .bySay i l else .byDoubt i l
def sp_tell_pick (K : PySem.W.Frag) (C_Node C_Session : Addr) : Sp := fun vs H Q _ => ∃ (l : Addr) (d : Desk) (i : Nat), vs = [.ref l, .int (i : Int)] ∧ Asked C_Node H l d (stepA d (.pick i)) Q
def sp_tell_way (K : PySem.W.Frag) (C_Node C_Session : Addr) : Sp := fun vs H Q _ => ∃ (l : Addr) (d : Desk) (i : Nat), vs = [.ref l, .int (i : Int)] ∧ Asked C_Node H l d (stepA d (.way i)) Q
def sp_tell_by_told_picks (K : PySem.W.Frag) (C_Node C_Session : Addr) : Sp := fun vs H Q _ => ∃ (l r : Addr) (d : Desk) (kind i : Nat) (row : List Nat), vs = [.ref l, .int (kind : Int), .int (i : Int), .ref r] ∧ (kind = 1 ∨ kind = 2) ∧ H r = some (.lst ((up row).map V.int)) ∧ Asked C_Node H l d (stepA d (callOfBy kind i row)) Q
def sp_are_picks (K : PySem.W.Frag) (C_Node C_Session : Addr) : Sp := fun vs H Q _ => ∃ (l r : Addr) (as cs : List Addr) (d : Desk) (kind : Nat) (row : List Nat), vs = [.ref l, .int (kind : Int), .ref r] ∧ DeskAt C_Node H l as cs d ∧ WF d ∧ H r = some (.lst ((up row).map V.int)) ∧ ∀ H' : Hp, Same H H' → Q (.bl (Kp365.okPicks d kind row)) H'
def sp_held_by_told_picks (K : PySem.W.Frag) (C_Node C_Session : Addr) : Sp := fun vs H Q _ => ∃ (l r : Addr) (d : Desk) (kind : Nat) (row : List Nat), vs = [.ref l, .int (kind : Int), .ref r] ∧ (kind = 1 ∨ kind = 2) ∧ H r = some (.lst ((up row).map V.int)) ∧ Kp365.okPicks d kind row = true ∧ Asked C_Node H l d (bys d kind row) Q
def sp_picked_child (K : PySem.W.Frag) (C_Node C_Session : Addr) : Sp := fun vs H Q _ => ∃ (a v : Addr) (n : Node) (vals : List Nat) (r : Nat), vs = [.ref a, .ref v] ∧ NodeAt C_Node H a n ∧ (n.kind = 1 ∨ n.kind = 2) ∧ 1 ≤ n.kids.length ∧ n.kids.length ≤ 4 ∧ H v = some (.lst ((up vals).map V.int)) ∧ (∀ k ∈ n.kids, k < vals.length) ∧ (∀ x ∈ vals, x ≤ 100) ∧
  n.kids.find? (fun c => vals.getD c 0 == pickV n.kind (n.kids.map fun k => vals.getD k 0)) = some r ∧ ∀ H' : Hp, Same H H' → Q (.int (r : Int)) H'
def sp_counted (K : PySem.W.Frag) (C_Node C_Session : Addr) : Sp := fun vs H Q _ => ∃ (r : Addr) (row : List Nat), vs = [.ref r] ∧ H r = some (.lst ((up row).map V.int)) ∧ row.length ≤ 100 ∧ ∀ (H' : Hp) (p : Addr), Same H H' → H p = none → H' p = some (.lst (((row.length : Int) :: up row).map V.int)) → Q (.ref p) H'
def sp_leaves_below (K : PySem.W.Frag) (C_Node C_Session : Addr) : Sp := fun vs H Q _ => ∃ (l : Addr) (d : Desk), vs = [.ref l] ∧ AskedRows C_Node H l d (lvs d) Q
def sp_proofs (K : PySem.W.Frag) (C_Node C_Session : Addr) : Sp := fun vs H Q _ => ∃ (l : Addr) (d : Desk), vs = [.ref l] ∧ AskedRows C_Node H l d (prfs d) Q
def sp_needs_all (K : PySem.W.Frag) (C_Node C_Session : Addr) : Sp := fun vs H Q _ => ∃ (a : Addr) (n : Node) (b : Nat), vs = [.ref a, .int (b : Int)] ∧ NodeAt C_Node H a n ∧ Q (.bl (decide (n.kind = 1 ↔ b = 1))) H
def sp_joined (K : PySem.W.Frag) (C_Node C_Session : Addr) : Sp := fun vs H Q _ => ∃ (a v : Addr) (n : Node) (ps : List Addr) (rs : List (List Nat)), vs = [.ref a, .ref v] ∧ NodeAt C_Node H a n ∧ H v = some (.lst (ps.map V.ref)) ∧ RowsAt H ps rs ∧ (∀ k ∈ n.kids, k < rs.length) ∧ (n.kids.flatMap fun k => rs.getD k []).length ≤ 100 ∧
  ∀ (H' : Hp) (p : Addr), Same H H' → H p = none → H' p = some (.lst ((up (n.kids.flatMap fun k => rs.getD k [])).map V.int)) → Q (.ref p) H'
def sp_depths (K : PySem.W.Frag) (C_Node C_Session : Addr) : Sp := fun vs H Q _ => ∃ (l : Addr) (d : Desk), vs = [.ref l] ∧ Asked C_Node H l d (deps d) Q
def sp_with_misread (K : PySem.W.Frag) (C_Node C_Session : Addr) : Sp := fun vs H Q _ => ∃ (l : Addr) (as cs : List Addr) (d : Desk) (j v : Nat), vs = [.ref l, .int (j : Int), .int (v : Int)] ∧ DeskAt C_Node H l as cs d ∧ WF d ∧ j < d.nodes.length ∧ (nodeAt d j).kind = 0 ∧
  ∀ (H' : Hp) (p : Addr) (as' cs' : List Addr), Same H H' → H p = none → DeskAt C_Node H' p as' cs' (Kp365.withWrong d j v) → Q (.ref p) H'
def sp_with_flipped (K : PySem.W.Frag) (C_Node C_Session : Addr) : Sp := fun vs H Q _ => ∃ (l : Addr) (as cs : List Addr) (d : Desk) (j : Nat), vs = [.ref l, .int (j : Int)] ∧ DeskAt C_Node H l as cs d ∧ WF d ∧ j < d.nodes.length ∧ (nodeAt d j).kind = 0 ∧
  ∀ (H' : Hp) (p : Addr) (as' cs' : List Addr), Same H H' → H p = none → DeskAt C_Node H' p as' cs' (Kp365.withSo d j) → Q (.ref p) H'
def sp_tell_proof (K : PySem.W.Frag) (C_Node C_Session : Addr) : Sp := fun vs H Q _ => ∃ (l : Addr) (d : Desk) (i : Nat), vs = [.ref l, .int (i : Int)] ∧ Asked C_Node H l d (stepA d (.proof i)) Q
def sp_tell_leaves (K : PySem.W.Frag) (C_Node C_Session : Addr) : Sp := fun vs H Q _ => ∃ (l : Addr) (d : Desk) (i : Nat), vs = [.ref l, .int (i : Int)] ∧ Asked C_Node H l d (stepA d (.leaves i)) Q
def sp_tell_matter (K : PySem.W.Frag) (C_Node C_Session : Addr) : Sp := fun vs H Q _ => ∃ (l : Addr) (d : Desk) (i : Nat), vs = [.ref l, .int (i : Int)] ∧ Asked C_Node H l d (stepA d (.matter i)) Q
def sp_tell_if_misread (K : PySem.W.Frag) (C_Node C_Session : Addr) : Sp := fun vs H Q _ => ∃ (l : Addr) (d : Desk) (i j v : Nat), vs = [.ref l, .int (i : Int), .int (j : Int), .int (v : Int)] ∧ Asked C_Node H l d (stepA d (.ifWrong i j v)) Q
def sp_tell_if_flipped (K : PySem.W.Frag) (C_Node C_Session : Addr) : Sp := fun vs H Q _ => ∃ (l : Addr) (d : Desk) (i j : Nat), vs = [.ref l, .int (i : Int), .int (j : Int)] ∧ Asked C_Node H l d (stepA d (.ifFlip i j)) Q
def sp_tell_best (K : PySem.W.Frag) (C_Node C_Session : Addr) : Sp := fun vs H Q _ => ∃ (l : Addr) (d : Desk) (i : Nat), vs = [.ref l, .int (i : Int)] ∧ Asked C_Node H l d (stepA d (.best i)) Q
def sp_tell_depth (K : PySem.W.Frag) (C_Node C_Session : Addr) : Sp := fun vs H Q _ => ∃ (l : Addr) (d : Desk) (i : Nat), vs = [.ref l, .int (i : Int)] ∧ Asked C_Node H l d (stepA d (.depth i)) Q
/-! the object -/
def sesF (st : Kp365.State) (l : Addr) : List (Str × V) := [("begun", .bl st.isSome), ("nodes", .ref l)]
structure SessAt (C_Node C_Session : Addr) (H : Hp) (x l : Addr) (cs : List Addr) (st : Kp365.State) : Prop where
  obj : ∃ dx, H x = some (.ins C_Session dx (sesF st l))
  new : st = none → H l = some (.lst []) ∧ cs = []
  desk : ∀ d, st = some d → WF d ∧ ∃ as, DeskAt C_Node H l as cs d
def NoIns (o : HO) : Prop := ∀ C dx fs, o ≠ .ins C dx fs
def sp_Session_init (K : PySem.W.Frag) (C_Node C_Session : Addr) : Sp := fun vs H Q _ => ∃ (p dx : Addr), vs = [.ref p] ∧ H p = some (.ins C_Session dx []) ∧
  ∀ (H' : Hp) (l : Addr), H l = none → SessAt C_Node C_Session H' p l [] none → (∀ b o, H b = some o → b ≠ p → H' b = some o) → Q .non H'
/-- a call on the object: what is handed in and what was answered before stand -/
def sp_answer_call (K : PySem.W.Frag) (C_Node C_Session : Addr) : Sp := fun vs H Q _ => ∃ (x l r : Addr) (cs : List Addr) (st : Kp365.State) (c : Int) (nums : List Int) (cl : Kp365.Call), vs = [.ref x, .int c, .ref r] ∧ SessAt C_Node C_Session H x l cs st ∧ H r = some (.lst (nums.map V.int)) ∧ r ≠ l ∧ Shaped c nums cl ∧
  ∀ (H' : Hp) (p l' : Addr) (cs' : List Addr), H p = none → (l' = l ∨ H l' = none) → New H cs cs' → H' p = some (.lst ((stepL st cl).2.map V.int)) → SessAt C_Node C_Session H' x l' cs' (stepL st cl).1 → (∀ b o, H b = some o → b ≠ l → NoIns o → H' b = some o) → Q (.ref p) H'
def sp_begin (K : PySem.W.Frag) (C_Node C_Session : Addr) : Sp := fun vs H Q _ => ∃ (x l : Addr) (cs : List Addr) (st : Kp365.State), vs = [.ref x] ∧ SessAt C_Node C_Session H x l cs st ∧
  ∀ (H' : Hp) (p l' : Addr), H p = none → H l' = none → H' p = some (.lst ([0].map V.int)) → SessAt C_Node C_Session H' x l' [] (some ⟨[]⟩) → (∀ b o, H b = some o → NoIns o → H' b = some o) → Q (.ref p) H'
def sp_answer_about_nodes (K : PySem.W.Frag) (C_Node C_Session : Addr) : Sp := fun vs H Q _ => ∃ (l r : Addr) (d : Desk) (c : Int) (nums : List Int) (cl : Kp365.Call), vs = [.ref l, .int c, .ref r] ∧ H r = some (.lst (nums.map V.int)) ∧ r ≠ l ∧ Shaped c nums cl ∧ 1 ≤ c ∧ c ≤ 7 ∧ Done C_Node H l d (stepD d cl) (stepA d cl) Q
def sp_answer_about_dispute (K : PySem.W.Frag) (C_Node C_Session : Addr) : Sp := fun vs H Q _ => ∃ (l r : Addr) (d : Desk) (c : Int) (nums : List Int) (cl : Kp365.Call), vs = [.ref l, .int c, .ref r] ∧ H r = some (.lst (nums.map V.int)) ∧ r ≠ l ∧ Shaped c nums cl ∧ 8 ≤ c ∧ c ≤ 14 ∧ Asked C_Node H l d (stepA d cl) Q
def sp_answer_about_leaves (K : PySem.W.Frag) (C_Node C_Session : Addr) : Sp := fun vs H Q _ => ∃ (l r : Addr) (d : Desk) (c : Int) (nums : List Int) (cl : Kp365.Call), vs = [.ref l, .int c, .ref r] ∧ H r = some (.lst (nums.map V.int)) ∧ r ≠ l ∧ Shaped c nums cl ∧ 15 ≤ c ∧ Asked C_Node H l d (stepA d cl) Q
def spA (K : PySem.W.Frag) : Sp := fun vs H Q _ => ∃ (a : Addr) (ns : List Int), vs = [.ref a] ∧ SqL K H a (ns.map V.int) ∧ ns.length ≤ 2000 ∧ PyKp365.answers_asked ns = true ∧
  ∀ (H' : Hp) (p : Addr), H' p = some (.lst ((PyKp365.answers ns).map V.int)) → Q (.ref p) H'
def sp_answers (K : PySem.W.Frag) (C_Node C_Session : Addr) : Sp := spA K
end
end Dp

namespace Dp
open Kp365 (Desk Node nodeAt isTrue isNode isLeaf okKids withSo withWrong say)
open Dm
/-! ### Each call's own equation -/
theorem of_step {d : Desk} {c : Kp365.Call} {s : Kp365.State} {a : Kp365.Ans} (h : Kp365.step (some d) c = (s, a)) : stepD d c = s.getD ⟨[]⟩ ∧ stepA d c = a.num :: a.nums := by
  unfold stepD stepA stepL
  rw [h]
  exact ⟨rfl, rfl⟩
theorem add_step {d : Desk} {c : Kp365.Call} {n : Node} (h : Kp365.step (some d) c = if Kp365.NODES ≤ d.nodes.length then (some d, say (-28)) else (some (⟨d.nodes ++ [n]⟩ : Desk), say (d.nodes.length : Nat))) : stepD d c = (addN d n).1 ∧ stepA d c = (addN d n).2 := by
  by_cases e : 20 ≤ d.nodes.length
  · rw [if_pos (show Kp365.NODES ≤ d.nodes.length from e)] at h
    have q := of_step h
    have z : addN d n = (d, [-28]) := if_pos e
    rw [z]
    exact q
  · rw [if_neg (show ¬ Kp365.NODES ≤ d.nodes.length from e)] at h
    have q := of_step h
    have z : addN d n = (⟨d.nodes ++ [n]⟩, [(d.nodes.length : Int)]) := if_neg e
    rw [z]
    exact q
theorem leaf_bad {d : Desk} {so w : Nat} (h : 1 < so ∨ 100 < w) : stepD d (.leaf so w) = d ∧ stepA d (.leaf so w) = [-22] :=
  of_step (s := some d) (a := say (-22)) (if_pos h)
theorem leaf_ok {d : Desk} {so w : Nat} (h : ¬ (1 < so ∨ 100 < w)) : stepD d (.leaf so w) = (addN d ⟨0, so, w, []⟩).1 ∧ stepA d (.leaf so w) = (addN d ⟨0, so, w, []⟩).2 :=
  add_step (if_neg h)
theorem joint_bad {d : Desk} {k : Nat} {l : List Nat} (hk : k = 1 ∨ k = 2) (h : okKids d l = false) : stepD d (callOfKind k l) = d ∧ stepA d (callOfKind k l) = [-22] := by
  rcases hk with rfl | rfl
  · exact of_step (s := some d) (a := say (-22)) (if_pos h)
  · exact of_step (s := some d) (a := say (-22)) (if_pos h)
theorem joint_ok {d : Desk} {k : Nat} {l : List Nat} (hk : k = 1 ∨ k = 2) (h : okKids d l = true) : stepD d (callOfKind k l) = (addN d ⟨k, 0, 0, l⟩).1 ∧ stepA d (callOfKind k l) = (addN d ⟨k, 0, 0, l⟩).2 := by
  have h' : ¬ okKids d l = false := by rw [h]; exact Bool.noConfusion
  rcases hk with rfl | rfl
  · exact add_step (if_neg h')
  · exact add_step (if_neg h')
theorem pop_none {d : Desk} (h : d.nodes = []) : stepD d .pop = d ∧ stepA d .pop = [-6] :=
  of_step (s := some d) (a := say (-6)) (if_pos (by rw [h]; rfl))
theorem pop_some {d : Desk} (h : d.nodes ≠ []) : stepD d .pop = ⟨d.nodes.dropLast⟩ ∧ stepA d .pop = [((d.nodes.length - 1 : Nat) : Int)] :=
  of_step (s := some (⟨d.nodes.dropLast⟩ : Desk)) (a := say (d.nodes.length - 1 : Nat)) (if_neg (by rw [List.isEmpty_iff]; exact h))
theorem isNode_no {d : Desk} {i : Nat} (h : ¬ i < d.nodes.length) : isNode d i = false := decide_eq_false h
theorem isNode_yes {d : Desk} {i : Nat} (h : i < d.nodes.length) : ¬ isNode d i = false := by
  rw [show isNode d i = true from decide_eq_true h]
  exact Bool.noConfusion
theorem isLeaf_no {d : Desk} {i : Nat} (h : ¬ (nodeAt d i).kind = 0) : isLeaf d i = false := by
  cases e : isLeaf d i with
  | false => rfl
  | true => exact absurd (isLeaf_iff.mp e) h
theorem isLeaf_yes {d : Desk} {i : Nat} (h : (nodeAt d i).kind = 0) : ¬ isLeaf d i = false := by
  rw [isLeaf_iff.mpr h]
  exact Bool.noConfusion
theorem flip_no {d : Desk} {i : Nat} (h : ¬ i < d.nodes.length) : stepD d (.flip i) = d ∧ stepA d (.flip i) = [-2] :=
  of_step (s := some d) (a := say (-2)) (if_pos (isNode_no h))
theorem flip_joint {d : Desk} {i : Nat} (h : i < d.nodes.length) (k : ¬ (nodeAt d i).kind = 0) : stepD d (.flip i) = d ∧ stepA d (.flip i) = [-33] :=
  of_step (s := some d) (a := say (-33)) ((if_neg (isNode_yes h)).trans (if_pos (isLeaf_no k)))
theorem flip_ok {d : Desk} {i : Nat} (h : i < d.nodes.length) (k : (nodeAt d i).kind = 0) : stepD d (.flip i) = withSo d i ∧ stepA d (.flip i) = [((1 - (nodeAt d i).so : Nat) : Int)] :=
  of_step (s := some (withSo d i)) (a := say (1 - (nodeAt d i).so : Nat)) ((if_neg (isNode_yes h)).trans (if_neg (isLeaf_yes k)))
theorem wrong_no {d : Desk} {i v : Nat} (h : ¬ i < d.nodes.length) : stepD d (.wrong i v) = d ∧ stepA d (.wrong i v) = [-2] :=
  of_step (s := some d) (a := say (-2)) (if_pos (isNode_no h))
theorem wrong_bad {d : Desk} {i v : Nat} (h : i < d.nodes.length) (b : 100 < v) : stepD d (.wrong i v) = d ∧ stepA d (.wrong i v) = [-22] :=
  of_step (s := some d) (a := say (-22)) ((if_neg (isNode_yes h)).trans (if_pos b))
theorem wrong_joint {d : Desk} {i v : Nat} (h : i < d.nodes.length) (b : ¬ 100 < v) (k : ¬ (nodeAt d i).kind = 0) : stepD d (.wrong i v) = d ∧ stepA d (.wrong i v) = [-33] :=
  of_step (s := some d) (a := say (-33)) ((if_neg (isNode_yes h)).trans ((if_neg b).trans (if_pos (isLeaf_no k))))
theorem wrong_ok {d : Desk} {i v : Nat} (h : i < d.nodes.length) (b : ¬ 100 < v) (k : (nodeAt d i).kind = 0) : stepD d (.wrong i v) = withWrong d i v ∧ stepA d (.wrong i v) = [((nodeAt d i).wrong : Int)] :=
  of_step (s := some (withWrong d i v)) (a := say ((nodeAt d i).wrong : Nat)) ((if_neg (isNode_yes h)).trans ((if_neg b).trans (if_neg (isLeaf_yes k))))
/-- a question about node i -/
theorem of_no {d : Desk} {i : Nat} {c : Kp365.Call} {a : Kp365.Ans} (e : Kp365.step (some d) c = Kp365.of (some d) d i a) (h : ¬ i < d.nodes.length) : stepA d c = [-2] :=
  (of_step (e.trans (congrArg (Prod.mk (some d)) (if_pos (isNode_no h))))).2
theorem of_yes {d : Desk} {i : Nat} {c : Kp365.Call} {a : Kp365.Ans} (e : Kp365.step (some d) c = Kp365.of (some d) d i a) (h : i < d.nodes.length) : stepA d c = a.num :: a.nums :=
  (of_step (e.trans (congrArg (Prod.mk (some d)) (if_neg (isNode_yes h))))).2
theorem nodeIs_leaf {d : Desk} {i : Nat} (h : i < d.nodes.length) (k : (nodeAt d i).kind = 0) : stepA d (.nodeIs i) = [0, ((nodeAt d i).so : Int), ((nodeAt d i).wrong : Int)] := by
  rw [of_yes (c := .nodeIs i) rfl h]
  show ((nodeAt d i).kind : Int) :: (if (nodeAt d i).kind = 0 then [((nodeAt d i).so : Int), ((nodeAt d i).wrong : Int)] else (nodeAt d i).kids.map fun (x : Nat) => (x : Int)) = _
  rw [if_pos k, k]
  rfl
theorem nodeIs_joint {d : Desk} {i : Nat} (h : i < d.nodes.length) (k : ¬ (nodeAt d i).kind = 0) : stepA d (.nodeIs i) = ((nodeAt d i).kind : Int) :: up (nodeAt d i).kids := by
  rw [of_yes (c := .nodeIs i) rfl h]
  show ((nodeAt d i).kind : Int) :: (if (nodeAt d i).kind = 0 then [((nodeAt d i).so : Int), ((nodeAt d i).wrong : Int)] else (nodeAt d i).kids.map fun (x : Nat) => (x : Int)) = _
  rw [if_neg k]
  rfl
theorem true_at {d : Desk} {i : Nat} (h : i < d.nodes.length) : stepA d (.true_ i) = [if isTrue d i then 1 else 0] := of_yes (c := .true_ i) rfl h
theorem held_at {d : Desk} (m : Mild d) {i : Nat} (h : i < d.nodes.length) : stepA d (.held i) = [0, (fr100 (held100 d i)).1, (fr100 (held100 d i)).2] := by
  rw [of_yes (c := .held i) rfl h]
  show [0, (Kp365.held d i).1, (Kp365.held d i).2] = _
  rw [held_eq m]
theorem right_at {d : Desk} (m : Mild d) {i : Nat} (h : i < d.nodes.length) : stepA d (.right i) = [0, (fr100 (right100 d i)).1, (fr100 (right100 d i)).2] := by
  rw [of_yes (c := .right i) rfl h]
  show [0, (Kp365.right d i).1, (Kp365.right d i).2] = _
  rw [right_eq m]
/-! ### A call behind a begin, and ahead of one -/
theorem some_if {c : Prop} [Decidable c] {a b : Kp365.State × Kp365.Ans} (h1 : a.1.isSome = true) (h2 : b.1.isSome = true) : (if c then a else b).1.isSome = true := by
  split
  · exact h1
  · exact h2
theorem step_isSome (d : Desk) : ∀ cl : Kp365.Call, (Kp365.step (some d) cl).1.isSome = true
  | .begin_ => rfl
  | .leaf _ _ => some_if rfl (some_if rfl rfl)
  | .all_ _ => some_if rfl (some_if rfl rfl)
  | .some_ _ => some_if rfl (some_if rfl rfl)
  | .pop => some_if rfl rfl
  | .nodeIs _ => rfl
  | .flip _ => some_if rfl (some_if rfl rfl)
  | .wrong _ _ => some_if rfl (some_if rfl (some_if rfl rfl))
  | .true_ _ => rfl
  | .held _ => rfl
  | .right _ => rfl
  | .pick _ => rfl
  | .way _ => rfl
  | .bySay _ _ => rfl
  | .byDoubt _ _ => rfl
  | .proof _ => rfl
  | .leaves _ => rfl
  | .matter _ => rfl
  | .ifWrong _ _ _ => some_if rfl rfl
  | .ifFlip _ _ => rfl
  | .best _ => rfl
  | .depth _ => rfl
theorem stepL_some (d : Desk) (cl : Kp365.Call) : stepL (some d) cl = (some (stepD d cl), stepA d cl) := by
  have h : (stepL (some d) cl).1 = some (stepD d cl) := by
    have z : (stepL (some d) cl).1.isSome = true := step_isSome d cl
    unfold stepD
    cases e : (stepL (some d) cl).1 with
    | some x => rfl
    | none =>
      rw [e] at z
      cases z
  exact Prod.ext h rfl
theorem stepL_begin (st : Kp365.State) : stepL st .begin_ = (some ⟨[]⟩, [0]) := by
  cases st <;> rfl
theorem stepL_none {cl : Kp365.Call} (h : cl ≠ .begin_) : stepL none cl = (none, [-11]) := by
  cases cl <;> first | rfl | exact absurd rfl h
theorem fst_if {c : Prop} [Decidable c] {s : Kp365.State} {a b : Kp365.State × Kp365.Ans} (h1 : a.1 = s) (h2 : b.1 = s) : (if c then a else b).1 = s := by
  split
  · exact h1
  · exact h2
theorem asked_same {d : Desk} {c : Int} {nums : List Int} {cl : Kp365.Call} (h : Shaped c nums cl) (h8 : 8 ≤ c) : stepD d cl = d := by
  have z : (Kp365.step (some d) cl).1 = some d := by
    cases h <;> first | (exfalso; omega) | rfl | exact fst_if rfl rfl
  unfold stepD stepL
  show ((Kp365.step (some d) cl).1).getD ⟨[]⟩ = d
  rw [z]
  rfl
end Dp

namespace Dp
open Kp365 (Desk Node nodeAt isTrue isNode isLeaf okKids withSo withWrong say okPicks leaves)
open Dm
/-! ### The later calls' own equations -/
def rowA (l : List Nat) : List Int := (l.length : Int) :: up l
def frA (h : Nat) : List Int := [0, (fr100 h).1, (fr100 h).2]
theorem pick_leafA {d : Desk} {i : Nat} (h : i < d.nodes.length) (k : (nodeAt d i).kind = 0) : stepA d (.pick i) = [-33] := by
  rw [of_yes (c := .pick i) rfl h, pick_leaf k]
  rfl
theorem pick_jointA {d : Desk} {i r : Nat} (h : i < d.nodes.length) (e : Kp365.pick d i = some r) : stepA d (.pick i) = [(r : Int)] := by
  rw [of_yes (c := .pick i) rfl h, e]
  rfl
theorem way_A {d : Desk} {i : Nat} (h : i < d.nodes.length) : stepA d (.way i) = rowA (wayD d i) := of_yes (c := .way i) rfl h
theorem proof_A {d : Desk} {i : Nat} (h : i < d.nodes.length) : stepA d (.proof i) = rowA (Kp365.proof d i) := of_yes (c := .proof i) rfl h
theorem leaves_A {d : Desk} {i : Nat} (h : i < d.nodes.length) : stepA d (.leaves i) = rowA (leaves d i) := of_yes (c := .leaves i) rfl h
theorem matter_A {d : Desk} {i : Nat} (h : i < d.nodes.length) : stepA d (.matter i) = rowA (Kp365.matter d i) := of_yes (c := .matter i) rfl h
theorem depth_A {d : Desk} {i : Nat} (h : i < d.nodes.length) : stepA d (.depth i) = [(depthD d i : Int)] := of_yes (c := .depth i) rfl h
theorem by_no {d : Desk} {kind i : Nat} {l : List Nat} (hk : kind = 1 ∨ kind = 2) (h : ¬ i < d.nodes.length) : stepA d (callOfBy kind i l) = [-2] := by
  rcases hk with rfl | rfl
  · exact of_no (c := .byDoubt i l) rfl h
  · exact of_no (c := .bySay i l) rfl h
theorem by_bad {d : Desk} {kind i : Nat} {l : List Nat} (hk : kind = 1 ∨ kind = 2) (h : i < d.nodes.length) (b : okPicks d kind l = false) : stepA d (callOfBy kind i l) = [-22] := by
  rcases hk with rfl | rfl
  · exact (of_yes (c := .byDoubt i l) rfl h).trans (by rw [if_pos b]; rfl)
  · exact (of_yes (c := .bySay i l) rfl h).trans (by rw [if_pos b]; rfl)
theorem by_ok {d : Desk} (m : Mild d) {kind i : Nat} {l : List Nat} (hk : kind = 1 ∨ kind = 2) (h : i < d.nodes.length) (b : okPicks d kind l = true) : stepA d (callOfBy kind i l) = frA (by100 d kind l i) := by
  have b' : ¬ okPicks d kind l = false := by rw [b]; exact Bool.noConfusion
  unfold frA
  rw [← by_eq m]
  rcases hk with rfl | rfl
  · exact (of_yes (c := .byDoubt i l) rfl h).trans (by rw [if_neg b']; rfl)
  · exact (of_yes (c := .bySay i l) rfl h).trans (by rw [if_neg b']; rfl)
theorem okPicks_iff {d : Desk} {kind : Nat} {l : List Nat} : okPicks d kind l = true ↔ l.length = d.nodes.length ∧ ∀ j, j < l.length → (if (nodeAt d j).kind = kind then l.getD j 0 < (nodeAt d j).kids.length else l.getD j 0 = 0) := by
  unfold okPicks
  rw [Bool.and_eq_true, decide_eq_true_iff, List.all_eq_true]
  refine and_congr_right fun _ => ?_
  constructor
  · intro h j hj
    have := h j (List.mem_range.mpr hj)
    by_cases k : (nodeAt d j).kind = kind
    · have t : (if (nodeAt d j).kind = kind then decide (l.getD j 0 < (nodeAt d j).kids.length) else l.getD j 0 == 0) = true := this
      rw [if_pos k] at t ⊢
      exact of_decide_eq_true t
    · have t : (if (nodeAt d j).kind = kind then decide (l.getD j 0 < (nodeAt d j).kids.length) else l.getD j 0 == 0) = true := this
      rw [if_neg k] at t ⊢
      exact eq_of_beq t
  · intro h j hj
    have := h j (List.mem_range.mp hj)
    show (if (nodeAt d j).kind = kind then decide (l.getD j 0 < (nodeAt d j).kids.length) else l.getD j 0 == 0) = true
    by_cases k : (nodeAt d j).kind = kind
    · rw [if_pos k] at this ⊢
      exact decide_eq_true this
    · rw [if_neg k] at this ⊢
      exact beq_iff_eq.mpr this
theorem ifWrong_bad {d : Desk} {i j v : Nat} (b : 100 < v) : stepA d (.ifWrong i j v) = [-22] := (of_step (d := d) (c := .ifWrong i j v) (s := some d) (a := say (-22)) (if_pos b)).2
theorem ofLeaf_no {d : Desk} {i j : Nat} {a : Kp365.Ans} (h : ¬ i < d.nodes.length ∨ ¬ j < d.nodes.length) : Kp365.ofLeaf (some d) d i j a = (some d, say (-2)) :=
  congrArg (Prod.mk (some d)) (if_pos (h.imp isNode_no isNode_no))
theorem ofLeaf_out {d : Desk} {i j : Nat} {a : Kp365.Ans} (h : i < d.nodes.length) (h' : j < d.nodes.length) (n : j ∉ leaves d i) : Kp365.ofLeaf (some d) d i j a = (some d, say (-33)) :=
  congrArg (Prod.mk (some d)) ((if_neg (fun z => z.elim (isNode_yes h) (isNode_yes h'))).trans (if_pos (by
    cases e : (leaves d i).contains j with
    | false => rfl
    | true => exact absurd (List.contains_iff_mem.mp e) n)))
theorem ofLeaf_in {d : Desk} {i j : Nat} {a : Kp365.Ans} (h : i < d.nodes.length) (h' : j < d.nodes.length) (n : j ∈ leaves d i) : Kp365.ofLeaf (some d) d i j a = (some d, a) :=
  congrArg (Prod.mk (some d)) ((if_neg (fun z => z.elim (isNode_yes h) (isNode_yes h'))).trans (if_neg (by
    rw [List.contains_iff_mem.mpr n]
    exact Bool.noConfusion)))
theorem ifWrong_no {d : Desk} {i j v : Nat} (b : ¬ 100 < v) (h : ¬ i < d.nodes.length ∨ ¬ j < d.nodes.length) : stepA d (.ifWrong i j v) = [-2] := (of_step (d := d) (c := .ifWrong i j v) ((if_neg b).trans (ofLeaf_no h))).2
theorem ifWrong_out {d : Desk} {i j v : Nat} (b : ¬ 100 < v) (h : i < d.nodes.length) (h' : j < d.nodes.length) (n : j ∉ leaves d i) : stepA d (.ifWrong i j v) = [-33] := (of_step (d := d) (c := .ifWrong i j v) ((if_neg b).trans (ofLeaf_out h h' n))).2
theorem ifWrong_in {d : Desk} (w : WF d) {i j v : Nat} (b : ¬ 100 < v) (h : i < d.nodes.length) (h' : j < d.nodes.length) (n : j ∈ leaves d i) : stepA d (.ifWrong i j v) = frA (right100 (withWrong d j v) i) := by
  have e := (of_step (d := d) (c := .ifWrong i j v) ((if_neg b).trans (ofLeaf_in (a := Kp365.frRow (Kp365.right (withWrong d j v) i)) h h' n))).2
  have wj := wf_wrong (v := v) w h' (by omega)
  rw [right_eq wj.mild] at e
  exact e
theorem ifFlip_no {d : Desk} {i j : Nat} (h : ¬ i < d.nodes.length ∨ ¬ j < d.nodes.length) : stepA d (.ifFlip i j) = [-2] := (of_step (d := d) (c := .ifFlip i j) (ofLeaf_no h)).2
theorem ifFlip_out {d : Desk} {i j : Nat} (h : i < d.nodes.length) (h' : j < d.nodes.length) (n : j ∉ leaves d i) : stepA d (.ifFlip i j) = [-33] := (of_step (d := d) (c := .ifFlip i j) (ofLeaf_out h h' n)).2
theorem ifFlip_in {d : Desk} {i j : Nat} (h : i < d.nodes.length) (h' : j < d.nodes.length) (n : j ∈ leaves d i) : stepA d (.ifFlip i j) = [(bitN (withSo d j) i : Int)] := by
  rw [(of_step (d := d) (c := .ifFlip i j) (ofLeaf_in (a := Kp365.yes (isTrue (withSo d j) i)) h h' n)).2]
  unfold bitN Kp365.yes Kp365.say
  cases isTrue (withSo d j) i <;> rfl
theorem best_A {d : Desk} (w : WF d) {i : Nat} (h : i < d.nodes.length) : stepA d (.best i) = if (best100 d i).1 = 99 then [-33] else [((best100 d i).1 : Int), (fr100 (best100 d i).2).1, (fr100 (best100 d i).2).2] := by
  rw [of_yes (c := .best i) rfl h]
  have i20 : i ≤ 20 := by
    have := w.len
    omega
  have e := (best_fold w (i := i) (leaves d i) (99, right100 d i) (right100_le w.mild i) fun j hj => by
    have := leaves_le w i20 hj
    omega).1
  rw [← right_eq w.mild] at e
  have e2 : ((leaves d i).foldl (fun (b : Nat × Kp340.Fr) (j : Nat) => let r := Kp365.right (withWrong d j 0) i
      if Kp346.ltF b.2 r then (j, r) else b) (99, Kp365.right d i)) = ((best100 d i).1, fr100 (best100 d i).2) := e
  show (let base := Kp365.right d i
    let g := (leaves d i).foldl (fun (b : Nat × Kp340.Fr) (j : Nat) => let r := Kp365.right (withWrong d j 0) i
      if Kp346.ltF b.2 r then (j, r) else b) (99, base)
    if g.1 = 99 then say (-33) else (⟨(g.1 : Int), [g.2.1, g.2.2]⟩ : Kp365.Ans)).num :: (let base := Kp365.right d i
    let g := (leaves d i).foldl (fun (b : Nat × Kp340.Fr) (j : Nat) => let r := Kp365.right (withWrong d j 0) i
      if Kp346.ltF b.2 r then (j, r) else b) (99, base)
    if g.1 = 99 then say (-33) else (⟨(g.1 : Int), [g.2.1, g.2.2]⟩ : Kp365.Ans)).nums = _
  dsimp only
  rw [e2]
  by_cases c : (best100 d i).1 = 99
  · rw [if_pos c, if_pos c]
    rfl
  · rw [if_neg c, if_neg c]
end Dp

namespace Dp
open PySem PySem.Spec PyProof.Rows L2
open Kp365 (Desk Node nodeAt isTrue)
open Dm Ml
section
variable {P : Program} {w : World} {K : PySem.W.Frag} {mg : Str → Option Value} {base : Heap} {C_Node C_Session : Addr}
theorem ok_Node_init {f : Addr} {fd : FuncData} (F : Fun K "__init__" "Node.__init__" s_Node_init f fd) (T : Txt K mg C_Node C_Session) : FnOk P w K mg base CX0 1 f fd ["self", "kind", "so", "misread", "children"] (sp_Node_init K C_Node C_Session) := by
  refine F.ok sc_Node_init (fun vs H Q E h => ?_) (fun cdv A outer s H vs Q E hr h => ?_)
  · obtain ⟨p, dx, k, s, m, c, rfl, _⟩ := h
    rfl
  · obtain ⟨p, dx, k, s, m, c, rfl, hp, q⟩ := h
    refine ⟨_, (pss_cons (ps_fld (pv 0) (pv 1) rfl)
      (pss_cons (ps_fld (pv 0) (pv 2) rfl)
      (pss_cons (ps_fld (pv 0) (pv 3) rfl)
      (pss_one (ps_fld (pv 0) (pv 4) rfl))))), ?_⟩
    refine ⟨_, rfl, _, rfl, p, C_Node, dx, [], rfl, hp, T.cl_Node, T.n_Node_kind, (by show 0 < 1000; decide), ?_⟩
    refine ⟨_, rfl, _, rfl, p, C_Node, dx, _, rfl, upd_same, T.cl_Node, T.n_Node_so, (by show 1 < 1000; decide), ?_⟩
    refine ⟨_, rfl, _, rfl, p, C_Node, dx, _, rfl, upd_same, T.cl_Node, T.n_Node_misread, (by show 2 < 1000; decide), ?_⟩
    refine ⟨_, rfl, _, rfl, p, C_Node, dx, _, rfl, upd_same, T.cl_Node, T.n_Node_children, (by show 3 < 1000; decide), ?_⟩
    refine q _ (Eq.trans upd_same (congrArg (fun q => some (HO.ins C_Node dx q)) ?_)) fun b o e hb => by
      rw [upd_ne hb, upd_ne hb, upd_ne hb, upd_ne hb]
      exact e
    have e1 : putF "so" s (putF "kind" k []) = ([("kind", k), ("so", s)] : List (Str × V)) := (put_past (by decide +kernel)).trans rfl
    have e2 : putF "misread" m ([("kind", k), ("so", s)] : List (Str × V)) = ([("kind", k), ("so", s), ("misread", m)] : List (Str × V)) := (put_past (by decide +kernel)).trans (congrArg _ ((put_past (by decide +kernel)).trans rfl))
    have e3 : putF "children" c ([("kind", k), ("so", s), ("misread", m)] : List (Str × V)) = ([("kind", k), ("so", s), ("misread", m), ("children", c)] : List (Str × V)) := (put_past (by decide +kernel)).trans (congrArg _ ((put_past (by decide +kernel)).trans (congrArg _ ((put_past (by decide +kernel)).trans rfl))))
    show putF "children" c (putF "misread" m (putF "so" s (putF "kind" k []))) = _
    rw [e1, e2, e3]
theorem ok_add_node {f : Addr} {fd : FuncData} (F : Fun K "add_node" "add_node" s_add_node f fd) (T : Txt K mg C_Node C_Session) : FnOk P w K mg base CX0 1 f fd ["nodes", "node"] (sp_add_node K C_Node C_Session) := by
  refine F.ok sc_add_node (fun vs H Q E h => ?_) (fun cdv A outer s H vs Q E hr h => ?_)
  · obtain ⟨l, a, c, dx, as, cs, d, n, rfl, _⟩ := h
    rfl
  · obtain ⟨l, a, c, dx, as, cs, d, n, rfl, hD, hlen, h1, h2, hcl, ha, q⟩ := h
    have el : (as.map V.ref).length = d.nodes.length := by rw [List.length_map, hD.len]
    refine ⟨_, (pss_cons (ps_if (pt_cmpR op_eq (pe_callB call_len_seq (by rfl) T.b_len (by decide +kernel) (pa_cons (pv 0) pa_nil)) (pgl T.c_MOST_NODES) (nomark _)) (pss_one (ps_ret (pe_lst (pa_cons (pgl T.c_TOO_MANY) pa_nil)))) pss_nil)
      (pss_cons (ps_expr (pe_bm PySem.F.plainAttrs_list PySem.F.slot_list_append PySem.F.type_list_append mt_append (pv 0) (pa_cons (pv 1) pa_nil)))
      (pss_one (ps_ret (pe_lst (pa_cons (pe_op op_sub (pe_callB call_len_seq (by rfl) T.b_len (by decide +kernel) (pa_cons (pv 0) pa_nil)) pe_int) pa_nil)))))), ?_⟩
    refine ⟨_, rfl, l, _, rfl, .inl (SqL.of hD.lst), rfl, _, rfl, ?_⟩
    refine if_dec (fun z => ?_) (fun z => ?_)
    · have z' := V.int.inj z
      have e : addN d n = (d, [-28]) := if_pos (by omega)
      rw [e] at q
      refine ⟨(by show 1 ≤ sizeLine; decide), fun p hp => ?_⟩
      exact q _ p as cs (Same.kept (same_new hp)) (fun _ h => .inl h) hp upd_same (hD.same (same_new hp))
    · have z' : ¬ d.nodes.length = 20 := fun e => z (congrArg V.int (by rw [el, e]; rfl))
      have e : addN d n = (⟨d.nodes ++ [n]⟩, [(d.nodes.length : Int)]) := if_neg (by omega)
      rw [e] at q
      refine ⟨_, rfl, .inl ⟨rfl, _, SqL.of hD.lst⟩, _, rfl, l, _, _, rfl, rfl, hD.lst, small1000 (by omega), ?_⟩
      refine ⟨_, rfl, l, _, rfl, .inl (SqL.of upd_same), _, _, rfl, rfl, (by show 1 ≤ sizeLine; decide), fun p hp => ?_⟩
      have hpl : p ≠ l := fun e => by
        rw [e, upd_same] at hp
        cases hp
      have hp0 : H p = none := by rw [← hp, upd_ne hpl]
      refine q _ p (as ++ [a]) (cs ++ [c]) (fun b o e hb _ => ?_) (fun x hx => (List.mem_append.mp hx).imp id fun h => by simpa using h) hp0 ?_ ((hD.push h1 h2 hcl ha).same (same_new hp))
      · rw [upd_ne (ne_of_none e hp0), upd_ne hb]
        exact e
      · rw [upd_same]
        refine congrArg (fun z => some (HO.lst [V.int z])) ?_
        rw [List.length_append, el]
        show ((d.nodes.length + 1 : Nat) : Int) - 1 = _
        omega
theorem ok_add_leaf {f : Addr} {fd : FuncData} (F : Fun K "add_leaf" "add_leaf" s_add_leaf f fd) (T : Txt K mg C_Node C_Session) (D_add_node : Def P w K mg base "add_node" 1 ["nodes", "node"] (sp_add_node K C_Node C_Session)) (Z_Node : Klass P w K mg base "Node" C_Node 1 ["self", "kind", "so", "misread", "children"] (sp_Node_init K C_Node C_Session)) : FnOk P w K mg base CX0 3 f fd ["nodes", "so", "misread"] (sp_add_leaf K C_Node C_Session) := by
  refine F.ok sc_add_leaf (fun vs H Q E h => ?_) (fun cdv A outer s H vs Q E hr h => ?_)
  · obtain ⟨l, d, so, w, rfl, _⟩ := h
    rfl
  · obtain ⟨l, d, so, w, rfl, as, cs, hD, hW, q⟩ := h
    refine ⟨_, (pss_cons (ps_if (PW.pt (pw_or (pt_cmpR op_gt (pv 1) pe_int (nomark _)) (pw_or1 (pt_cmpR op_gt (pv 2) (pgl T.c_WHOLE) (nomark _))))) (pss_one (ps_ret (pe_lst (pa_cons (pgl T.c_BAD_NUMBERS) pa_nil)))) pss_nil)
      (pss_one (ps_ret (pe_def D_add_node (hr.mono (by decide)) (pa_cons (pv 0) (pa_cons (pe_new Z_Node (hr.mono (by decide)) (pa_cons (pgl T.c_LEAF) (pa_cons (pv 1) (pa_cons (pv 2) (pa_cons (pe_lst pa_nil) pa_nil))))) pa_nil)))))), ?_⟩
    have bad : 1 < so ∨ 100 < w → ∃ _ : (1 : Nat) ≤ sizeLine, ∀ p, H p = none → Q (.ref p) (upd H p (.lst [V.int (-22)])) := fun z => by
      obtain ⟨e1, e2⟩ := leaf_bad (d := d) z
      rw [e1, e2] at q
      exact ⟨by decide, fun p hp => q _ p as cs (Same.kept (same_new hp)) New.refl hp upd_same (hD.same (same_new hp)) hW⟩
    have good : ¬ (1 < so ∨ 100 < w) → _ := fun z => leaf_ok (d := d) z
    refine ⟨_, rfl, _, _, rfl, rfl, _, rfl, if_dec (fun z => ?_) (fun z => ?_)⟩
    · obtain ⟨b1, b2⟩ := bad (.inl (by omega))
      exact ⟨b1, b2⟩
    refine ⟨_, rfl, _, _, rfl, rfl, _, rfl, if_dec (fun z2 => ?_) (fun z2 => ?_)⟩
    · obtain ⟨b1, b2⟩ := bad (.inr (by omega))
      exact ⟨b1, b2⟩
    obtain ⟨e1, e2⟩ := good (by omega)
    rw [e1, e2] at q
    refine ⟨_, rfl, _, rfl, _, rfl, (by show 0 ≤ sizeLine; decide), fun c hc => ?_⟩
    intro x dx nx nd ne
    refine ⟨x, dx, _, _, _, _, rfl, upd_same, fun H2 hx k2 => ⟨rfl, ?_⟩⟩
    have s1 : Same H (upd H c (.lst [])) := same_new hc
    have s2 : Same (upd H c (.lst [])) H2 := Same.made nx nd k2
    have hc2 : H2 c = some (.lst []) := s2 _ _ upd_same
    have s := s1.trans s2
    refine ⟨l, x, c, dx, as, cs, d, ⟨0, so, w, []⟩, rfl, hD.same s, hW.len, hx, hc2, ne_of_none' hD.lst hc, fun m => (hD.same s1).not_mem nx m, fun H' p as' cs' kp nw hp ha hD' => ?_⟩
    refine q H' p as' cs' (fun b o e n1 n2 => kp b o (s b o e) n1 n2) (fun x hx => (nw x hx).imp id fun e => by rw [e]; exact hc) (s.free hp) ha hD' ?_
    unfold addN
    split
    · exact hW
    · exact wf_leaf hW (by omega) (by omega) (by omega)
end
end Dp

namespace Dp
open PySem PySem.Spec PyProof.Rows L2
open Kp365 (Desk Node nodeAt isTrue)
open Dm Ml
section
variable {P : Program} {w : World} {K : PySem.W.Frag} {mg : Str → Option Value} {base : Heap} {C_Node C_Session : Addr}
theorem ok_children_of_all {f : Addr} {fd : FuncData} (F : Fun K "children_of_all" "children_of_all" s_children_of_all f fd) (T : Txt K mg C_Node C_Session) : FnOk P w K mg base CX0 1 f fd ["nodes"] (sp_children_of_all K C_Node C_Session) := by
  refine F.ok sc_children_of_all (fun vs H Q E h => ?_) (fun cdv A outer s H vs Q E hr h => ?_)
  · obtain ⟨l, as, cs, d, rfl, _⟩ := h
    rfl
  · obtain ⟨l, as, cs, d, rfl, hD, hW, q⟩ := h
    refine ⟨_, (pss_cons (ps_set (i := 1) sc_children_of_all.nd rfl (Or.inl rfl) (pe_lst pa_nil))
      (pss_cons (ps_for PassesOwn.never rfl (pi_list (pv 0)) (pg_name (i := 2) sc_children_of_all.nd rfl (Or.inl rfl)) (pss_one (ps_expr (pe_bm PySem.F.plainAttrs_list PySem.F.slot_list_extend PySem.F.type_list_extend mt_extend (pv 1) (pa_cons (pe_fld (pv 2) rfl) pa_nil)))))
      (pss_one (ps_ret (pv 1))))), ?_⟩
    refine ⟨(by show 0 ≤ sizeLine; decide), fun t ht => ?_⟩
    refine ⟨_, rfl, l, rfl, ⟨_, SqL.of ((same_new ht) _ _ hD.lst)⟩, for_list (K := K) (a := l) (xs := as.map V.ref) (fun i σ H' => ∃ v : Option V, σ = [some (.ref l), some (.ref t), v] ∧ Same H H' ∧ H' t = some (.lst ((up ((d.nodes.take i).flatMap (·.kids))).map V.int)))
      ⟨none, rfl, same_new ht, upd_same⟩ (fun i σ H' _ ⟨_, _, s5, _⟩ => SqL.of (s5 _ _ hD.lst)) ?_ ?_⟩
    · rintro i y σ H' hi ⟨v, rfl, s5, h5⟩
      obtain ⟨a, lt, rfl, hN⟩ := (hD.same s5).turn hi
      have hn := getNode lt
      obtain ⟨dx, c, h1, h2⟩ := hN.ex
      have tm := take_more hn
      have small : ∀ j, ((d.nodes.take j).flatMap (·.kids)).length ≤ 80 := fun j => by
        have h1 := flat_len (l := d.nodes.take j) fun n hn => by
          obtain ⟨k, hk⟩ := List.mem_iff_getElem?.mp (List.mem_of_mem_take hn)
          exact (hW.node k n hk).few
        have h2 : (d.nodes.take j).length ≤ d.nodes.length := by
          rw [List.length_take]
          exact Nat.min_le_right _ _
        have h3 := hW.len
        omega
      refine ⟨_, rfl, .inl ⟨rfl, _, SqL.of h5⟩, _, rfl, a, C_Node, dx, _, _, rfl, h1, T.cl_Node, T.n_Node_children, nF_children _ _, t, c, _, _, rfl, rfl, h5, h2, ?_, ?_⟩
      · have h3 := small i
        have h4 := (hW.at_ i).few
        unfold kidsV
        rw [List.length_map, List.length_map, up_len]
        exact Nat.le_of_lt (small1000 (by omega))
      · refine ⟨some (.ref a), rfl, fun b o e => ?_, ?_⟩
        · rw [upd_ne (ne_of_none e ht)]
          exact s5 b o e
        · rw [upd_same, tm, List.flatMap_append, up_append, List.map_append]
          refine congrArg (fun z => some (HO.lst (_ ++ z))) ?_
          unfold kidsV up
          rw [List.flatMap_cons, List.flatMap_nil, List.append_nil, List.map_map]
          rfl
    · rintro σ H' ⟨v, rfl, s5, h5⟩
      rw [List.length_map, hD.len, List.take_length] at h5
      exact ⟨_, rfl, q H' t s5 ht h5⟩
theorem ok_can_be_children {f : Addr} {fd : FuncData} (F : Fun K "can_be_children" "can_be_children" s_can_be_children f fd) (T : Txt K mg C_Node C_Session) (D_children_of_all : Def P w K mg base "children_of_all" 1 ["nodes"] (sp_children_of_all K C_Node C_Session)) : FnOk P w K mg base CX0 2 f fd ["nodes", "row"] (sp_can_be_children K C_Node C_Session) := by
  refine F.ok sc_can_be_children (fun vs H Q E h => ?_) (fun cdv A outer s H vs Q E hr h => ?_)
  · obtain ⟨l, r, as, cs, d, row, rfl, _⟩ := h
    rfl
  · obtain ⟨l, r, as, cs, d, row, rfl, hD, hW, hlen, hr', q⟩ := h
    refine ⟨_, (pss_cons (ps_if (PW.pt (pw_or (pt_cmpR op_lt (pe_callB call_len_seq (by rfl) T.b_len (by decide +kernel) (pa_cons (pv 1) pa_nil)) pe_int (nomark _)) (pw_or1 (pt_cmpR op_gt (pe_callB call_len_seq (by rfl) T.b_len (by decide +kernel) (pa_cons (pv 1) pa_nil)) (pgl T.c_MOST_CHILDREN) (nomark _))))) (pss_one (ps_ret pe_bl)) pss_nil)
      (pss_cons (ps_set (i := 2) sc_can_be_children.nd rfl (Or.inl rfl) (pe_def D_children_of_all (hr.mono (by decide)) (pa_cons (pv 0) pa_nil)))
      (pss_cons (ps_for PassesOwn.never rfl (pi_list (pv 1)) (pg_name (i := 3) sc_can_be_children.nd rfl (Or.inl rfl)) (pss_cons (ps_if (PW.pt (pw_or (pt_cmpR op_ge (pv 3) (pe_callB call_len_seq (by rfl) T.b_len (by decide +kernel) (pa_cons (pv 0) pa_nil)) (nomark _)) (pw_or1 (pt_cmpR op_in_seq (pv 3) (pv 2) (by rfl))))) (pss_one (ps_ret pe_bl)) pss_nil)
      (pss_one (ps_expr (pe_bm PySem.F.plainAttrs_list PySem.F.slot_list_append PySem.F.type_list_append mt_append (pv 2) (pa_cons (pv 3) pa_nil))))))
      (pss_one (ps_ret pe_bl))))), ?_⟩
    have el : ((up row).map V.int).length = row.length := by rw [List.length_map, up_len]
    have no : ¬ ((1 ≤ row.length ∧ row.length ≤ 4) ∧ chk d.nodes.length (allKids d) row = true) → Kp365.okKids d row = false := fun z => by
      cases e : Kp365.okKids d row with
      | false => rfl
      | true => exact absurd (okKids_chk.mp e) z
    refine ⟨_, rfl, r, _, rfl, .inl (SqL.of hr'), _, _, rfl, rfl, _, rfl, if_dec (fun z => ?_) (fun z => ?_)⟩
    · rw [el] at z
      rw [no (by omega)] at q
      exact q H (Same.refl H)
    refine ⟨_, rfl, r, _, rfl, .inl (SqL.of hr'), _, _, rfl, rfl, _, rfl, if_dec (fun z2 => ?_) (fun z2 => ?_)⟩
    · rw [el] at z2
      rw [no (by omega)] at q
      exact q H (Same.refl H)
    rw [el] at z z2
    refine ⟨_, rfl, l, as, cs, d, rfl, hD, hW, fun H1 t s1 ht h1 => ?_⟩
    refine ⟨_, rfl, r, rfl, ⟨_, SqL.of (s1 _ _ hr')⟩, for_list (K := K) (a := r) (xs := (up row).map V.int) (fun i σ H' => ∃ v : Option V, σ = [some (.ref l), some (.ref r), some (.ref t), v] ∧ Same H H' ∧ H' t = some (.lst ((up (allKids d ++ row.take i)).map V.int)) ∧ chk d.nodes.length (allKids d) row = chk d.nodes.length (allKids d ++ row.take i) (row.drop i))
      ⟨none, rfl, s1, by rw [h1, List.take_zero, List.append_nil], by rw [List.take_zero, List.append_nil, List.drop_zero]⟩ (fun i σ H' _ ⟨_, _, s5, _⟩ => SqL.of (s5 _ _ hr')) ?_ ?_⟩
    · rintro i y σ H' hi ⟨v, rfl, s5, h5, e5⟩
      obtain ⟨c, hc, rfl⟩ : ∃ c, row[i]? = some c ∧ y = V.int (c : Int) := by
        unfold up at hi
        rw [List.map_map, List.getElem?_map] at hi
        cases e : row[i]? with
        | none =>
          rw [e] at hi
          cases hi
        | some z =>
          rw [e] at hi
          exact ⟨z, rfl, (Option.some.inj hi).symm⟩
      rw [drop_at hc] at e5
      have la : (as.map V.ref).length = d.nodes.length := by rw [List.length_map, hD.len]
      have e5 : chk d.nodes.length (allKids d) row = if d.nodes.length ≤ c ∨ c ∈ allKids d ++ row.take i then false else chk d.nodes.length (allKids d ++ row.take i ++ [c]) (row.drop (i + 1)) := e5
      refine ⟨_, rfl, _, rfl, l, _, rfl, .inl (SqL.of (s5 _ _ hD.lst)), _, _, rfl, rfl, _, rfl, if_dec (fun z => ?_) (fun z => ?_)⟩
      · rw [la] at z
        rw [if_pos (.inl (by omega))] at e5
        rw [no (fun ⟨_, e⟩ => by rw [e5] at e; cases e)] at q
        exact q H' s5
      refine ⟨_, rfl, _, rfl, t, _, rfl, .inl (SqL.of h5), rfl, flat_ints _, _, rfl, ?_⟩
      show if inV (.int (c : Int)) ((up (allKids d ++ row.take i)).map V.int) = true then _ else _
      rw [inV_int]
      refine if_dec (fun z2 => ?_) (fun z2 => ?_)
      · rw [if_pos (.inr (mem_up.mp z2))] at e5
        rw [no (fun ⟨_, e⟩ => by rw [e5] at e; cases e)] at q
        exact q H' s5
      rw [la] at z
      rw [if_neg (fun z3 => by rcases z3 with z3 | z3; (omega); exact z2 (mem_up.mpr z3))] at e5
      refine ⟨_, rfl, .inl ⟨rfl, _, SqL.of h5⟩, _, rfl, t, _, _, rfl, rfl, h5, ?_, ?_⟩
      · have f := flat_len (l := d.nodes) fun n hn => by
          obtain ⟨k, hk⟩ := List.mem_iff_getElem?.mp hn
          exact (hW.node k n hk).few
        have f2 : (row.take i).length ≤ row.length := by
          rw [List.length_take]
          exact Nat.min_le_right _ _
        have f3 := hW.len
        rw [List.length_map, up_len, List.length_append]
        unfold allKids
        exact small1000 (by omega)
      · refine ⟨some (.int (c : Int)), rfl, fun b o e => ?_, ?_, ?_⟩
        · rw [upd_ne (ne_of_none e ht)]
          exact s5 b o e
        · rw [upd_same, take_more hc, ← List.append_assoc, up_append (allKids d ++ row.take i) [c], List.map_append]
          rfl
        · rw [e5, take_more hc, List.append_assoc]
    · rintro σ H' ⟨v, rfl, s5, h5, e5⟩
      rw [el, List.drop_length] at e5
      rw [okKids_chk.mpr ⟨by omega, e5⟩] at q
      exact q H' s5
theorem ok_add_joint {f : Addr} {fd : FuncData} (F : Fun K "add_joint" "add_joint" s_add_joint f fd) (T : Txt K mg C_Node C_Session) (D_add_node : Def P w K mg base "add_node" 1 ["nodes", "node"] (sp_add_node K C_Node C_Session)) (D_can_be_children : Def P w K mg base "can_be_children" 2 ["nodes", "row"] (sp_can_be_children K C_Node C_Session)) (Z_Node : Klass P w K mg base "Node" C_Node 1 ["self", "kind", "so", "misread", "children"] (sp_Node_init K C_Node C_Session)) : FnOk P w K mg base CX0 3 f fd ["nodes", "kind", "row"] (sp_add_joint K C_Node C_Session) := by
  refine F.ok sc_add_joint (fun vs H Q E h => ?_) (fun cdv A outer s H vs Q E hr h => ?_)
  · obtain ⟨l, r, d, kind, row, rfl, _⟩ := h
    rfl
  · obtain ⟨l, r, d, kind, row, rfl, hk, hlen, hrow, hrl, as, cs, hD, hW, q⟩ := h
    refine ⟨_, (pss_cons (ps_if (pt_not (pt_val (pe_def D_can_be_children (hr.mono (by decide)) (pa_cons (pv 0) (pa_cons (pv 2) pa_nil))))) (pss_one (ps_ret (pe_lst (pa_cons (pgl T.c_BAD_NUMBERS) pa_nil)))) pss_nil)
      (pss_one (ps_ret (pe_def D_add_node (hr.mono (by decide)) (pa_cons (pv 0) (pa_cons (pe_new Z_Node (hr.mono (by decide)) (pa_cons (pv 1) (pa_cons pe_int (pa_cons pe_int (pa_cons (pe_callTy call_list_of (by rfl) T.b_list (by decide +kernel) (pa_cons (pv 2) pa_nil)) pa_nil))))) pa_nil)))))), ?_⟩
    refine ⟨_, rfl, _, rfl, l, r, as, cs, d, row, rfl, hD, hW, hlen, hrow, fun H1 s1 => ⟨_, rfl, ?_⟩⟩
    cases e : Kp365.okKids d row with
    | false =>
      obtain ⟨e1, e2⟩ := joint_bad hk e
      rw [e1, e2] at q
      refine if_true_of rfl ⟨(by show 1 ≤ sizeLine; decide), fun p hp => ?_⟩
      have s2 := s1.trans (same_new (o := .lst [V.int (-22)]) hp)
      exact q _ p as cs (Same.kept s2) New.refl (s1.free hp) upd_same (hD.same s2) hW
    | true =>
      obtain ⟨e1, e2⟩ := joint_ok hk e
      rw [e1, e2] at q
      refine if_false_of rfl ?_
      refine ⟨_, rfl, _, rfl, _, rfl, r, _, rfl, .inl (SqL.of (s1 _ _ hrow)), fun c hc => ?_⟩
      intro x dx nx nd ne
      refine ⟨x, dx, _, _, _, _, rfl, upd_same, fun H2 hx k2 => ⟨rfl, ?_⟩⟩
      have s1' := s1.trans (same_new (o := .lst ((up row).map V.int)) hc)
      have s2 := Same.made nx nd k2
      have s := s1'.trans s2
      refine ⟨l, x, c, dx, as, cs, d, ⟨kind, 0, 0, row⟩, rfl, hD.same s, hW.len, hx, ?_, ne_of_none' hD.lst (s1.free hc), fun m => (hD.same s1').not_mem nx m, fun H' p as' cs' kp nw hp ha hD' => ?_⟩
      · rw [s2 _ _ upd_same]
        unfold kidsV up
        rw [List.map_map]
        rfl
      · refine q H' p as' cs' (fun b o e n1 n2 => kp b o (s b o e) n1 n2) (fun x hx => (nw x hx).imp id fun e => by rw [e]; exact s1.free hc) (s.free hp) ha hD' ?_
        unfold addN
        split
        · exact hW
        · exact wf_joint hW (by omega) e hk
end
end Dp

namespace Dp
open PySem PySem.Spec PyProof.Rows L2
open Kp365 (Desk Node nodeAt isTrue)
open Dm Ml
section
variable {P : Program} {w : World} {K : PySem.W.Frag} {mg : Str → Option Value} {base : Heap} {C_Node C_Session : Addr}
theorem ix_ref {as : List Addr} {i : Nat} {a : Addr} (h : as[i]? = some a) : atI (as.map V.ref) (i : Int) = some (V.ref a) := atI_nat (by rw [List.getElem?_map, h]; rfl)
theorem ok_pop_last {f : Addr} {fd : FuncData} (F : Fun K "pop_last" "pop_last" s_pop_last f fd) (T : Txt K mg C_Node C_Session) : FnOk P w K mg base CX0 1 f fd ["nodes"] (sp_pop_last K C_Node C_Session) := by
  refine F.ok sc_pop_last (fun vs H Q E h => ?_) (fun cdv A outer s H vs Q E hr h => ?_)
  · obtain ⟨l, d, rfl, _⟩ := h
    rfl
  · obtain ⟨l, d, rfl, as, cs, hD, hW, q⟩ := h
    have el : (as.map V.ref).length = d.nodes.length := by rw [List.length_map, hD.len]
    refine ⟨_, (pss_cons (ps_if (pt_cmpR op_eq (pe_callB call_len_seq (by rfl) T.b_len (by decide +kernel) (pa_cons (pv 0) pa_nil)) pe_int (nomark _)) (pss_one (ps_ret (pe_lst (pa_cons (pgl T.c_NONE_LEFT) pa_nil)))) pss_nil)
      (pss_cons (ps_expr (pe_bm0 PySem.F.plainAttrs_list PySem.F.slot_list_pop PySem.F.type_list_pop mt_pop (pv 0)))
      (pss_one (ps_ret (pe_lst (pa_cons (pe_callB call_len_seq (by rfl) T.b_len (by decide +kernel) (pa_cons (pv 0) pa_nil)) pa_nil)))))), ?_⟩
    refine ⟨_, rfl, l, _, rfl, .inl (SqL.of hD.lst), rfl, _, rfl, if_dec (fun z => ?_) (fun z => ?_)⟩
    · have z' := V.int.inj z
      rw [el] at z'
      obtain ⟨e1, e2⟩ := pop_none (d := d) (List.length_eq_zero_iff.mp (by omega))
      rw [e1, e2] at q
      refine ⟨(by show 1 ≤ sizeLine; decide), fun p hp => ?_⟩
      exact q _ p as cs (Same.kept (same_new hp)) New.refl hp upd_same (hD.same (same_new hp)) hW
    · have ne : d.nodes ≠ [] := fun e => z (congrArg V.int (by rw [el, e]; rfl))
      have pos : 0 < d.nodes.length := List.length_pos_iff.mpr ne
      obtain ⟨e1, e2⟩ := pop_some ne
      rw [e1, e2] at q
      have la : (as.map V.ref)[(as.map V.ref).length - 1]? = some ((as.map V.ref)[(as.map V.ref).length - 1]'(by rw [el]; omega)) := List.getElem?_eq_getElem _
      refine ⟨_, rfl, .inl ⟨rfl, _, SqL.of hD.lst⟩, l, _, _, rfl, rfl, hD.lst, la, ?_⟩
      refine ⟨_, rfl, l, _, rfl, .inl (SqL.of upd_same), (by show 1 ≤ sizeLine; decide), fun p hp => ?_⟩
      have hpl : p ≠ l := fun e => by
        rw [e, upd_same] at hp
        cases hp
      have hp0 : H p = none := by rw [← hp, upd_ne hpl]
      refine q _ p as.dropLast cs.dropLast (fun b o e hb _ => ?_) (fun c hc => .inl ((List.dropLast_sublist cs).subset hc)) hp0 ?_ (hD.pop.same (same_new hp)) (wf_pop hW)
      · rw [upd_ne (ne_of_none e hp0), upd_ne hb]
        exact e
      · rw [upd_same]
        refine congrArg (fun z => some (HO.lst [V.int z])) ?_
        rw [List.length_dropLast, el]
theorem ok_tell_node {f : Addr} {fd : FuncData} (F : Fun K "tell_node" "tell_node" s_tell_node f fd) (T : Txt K mg C_Node C_Session) : FnOk P w K mg base CX0 1 f fd ["nodes", "i"] (sp_tell_node K C_Node C_Session) := by
  refine F.ok sc_tell_node (fun vs H Q E h => ?_) (fun cdv A outer s H vs Q E hr h => ?_)
  · obtain ⟨l, d, i, rfl, _⟩ := h
    rfl
  · obtain ⟨l, d, i, rfl, as, cs, hD, hW, q⟩ := h
    have el : (as.map V.ref).length = d.nodes.length := by rw [List.length_map, hD.len]
    refine ⟨_, (pss_cons (ps_if (pt_cmpR op_ge (pv 1) (pe_callB call_len_seq (by rfl) T.b_len (by decide +kernel) (pa_cons (pv 0) pa_nil)) (nomark _)) (pss_one (ps_ret (pe_lst (pa_cons (pgl T.c_NO_NODE) pa_nil)))) pss_nil)
      (pss_cons (ps_set (i := 2) sc_tell_node.nd rfl (Or.inl rfl) (pe_ix ix_list (pv 0) (pv 1) (fun _ _ => rfl)))
      (pss_cons (ps_if (pt_cmpR op_eq (pe_fld (pv 2) rfl) (pgl T.c_LEAF) (nomark _)) (pss_one (ps_ret (pe_lst (pa_cons (pgl T.c_LEAF) (pa_cons (pe_fld (pv 2) rfl) (pa_cons (pe_fld (pv 2) rfl) pa_nil)))))) pss_nil)
      (pss_one (ps_ret (pe_op op_cat (pe_lst (pa_cons (pe_fld (pv 2) rfl) pa_nil)) (pe_fld (pv 2) rfl))))))), ?_⟩
    refine ⟨_, rfl, _, rfl, l, _, rfl, .inl (SqL.of hD.lst), _, _, rfl, rfl, _, rfl, if_dec (fun z => ?_) (fun z => ?_)⟩
    · rw [el] at z
      rw [of_no (c := .nodeIs i) rfl (by omega)] at q
      refine ⟨(by show 1 ≤ sizeLine; decide), fun p hp => ?_⟩
      exact q _ p (same_new hp) hp upd_same
    · rw [el] at z
      have lt : i < d.nodes.length := by omega
      obtain ⟨a, ha, hN⟩ := hD.get lt
      obtain ⟨dx, c, h1, h2⟩ := hN.ex
      refine ⟨_, rfl, _, rfl, l, _, _, _, rfl, rfl, SqL.of hD.lst, ix_ref ha, ?_⟩
      refine ⟨_, rfl, a, C_Node, dx, _, _, rfl, h1, T.cl_Node, T.n_Node_kind, nF_kind _ _, rfl, _, rfl, if_dec (fun k => ?_) (fun k => ?_)⟩
      · have k' : (nodeAt d i).kind = 0 := by
          have := V.int.inj k
          omega
        rw [nodeIs_leaf lt k'] at q
        refine ⟨_, rfl, a, C_Node, dx, _, _, rfl, h1, T.cl_Node, T.n_Node_so, nF_so _ _, _, rfl, a, C_Node, dx, _, _, rfl, h1, T.cl_Node, T.n_Node_misread, nF_misread _ _, (by show 3 ≤ sizeLine; decide), fun p hp => ?_⟩
        exact q _ p (same_new hp) hp upd_same
      · have k' : ¬ (nodeAt d i).kind = 0 := fun e => k (congrArg V.int (by rw [e]; rfl))
        rw [nodeIs_joint lt k'] at q
        refine ⟨_, rfl, a, C_Node, dx, _, _, rfl, h1, T.cl_Node, T.n_Node_kind, nF_kind _ _, (by show 1 ≤ sizeLine; decide), fun t ht => ?_⟩
        have s1 := same_new (o := .lst [V.int ((nodeAt d i).kind : Int)]) ht
        refine ⟨_, rfl, a, C_Node, dx, _, _, rfl, s1 _ _ h1, T.cl_Node, T.n_Node_children, nF_children _ _, t, c, _, _, rfl, rfl, upd_same, s1 _ _ h2, ?_, fun p hp => ?_⟩
        · unfold kidsV
          rw [List.length_map]
          have := (hW.at_ i).few
          exact Nat.le_of_lt (small1000 (by show 1 + _ ≤ 1000; omega))
        · refine q _ p (s1.trans (same_new hp)) (s1.free hp) ?_
          rw [upd_same]
          refine congrArg (fun z => some (HO.lst (_ :: z))) ?_
          unfold kidsV up
          rw [List.map_map]
          rfl
theorem ok_flip_leaf {f : Addr} {fd : FuncData} (F : Fun K "flip_leaf" "flip_leaf" s_flip_leaf f fd) (T : Txt K mg C_Node C_Session) : FnOk P w K mg base CX0 1 f fd ["nodes", "i"] (sp_flip_leaf K C_Node C_Session) := by
  refine F.ok sc_flip_leaf (fun vs H Q E h => ?_) (fun cdv A outer s H vs Q E hr h => ?_)
  · obtain ⟨l, d, i, rfl, _⟩ := h
    rfl
  · obtain ⟨l, d, i, rfl, as, cs, hD, hW, q⟩ := h
    have el : (as.map V.ref).length = d.nodes.length := by rw [List.length_map, hD.len]
    refine ⟨_, (pss_cons (ps_if (pt_cmpR op_ge (pv 1) (pe_callB call_len_seq (by rfl) T.b_len (by decide +kernel) (pa_cons (pv 0) pa_nil)) (nomark _)) (pss_one (ps_ret (pe_lst (pa_cons (pgl T.c_NO_NODE) pa_nil)))) pss_nil)
      (pss_cons (ps_set (i := 2) sc_flip_leaf.nd rfl (Or.inl rfl) (pe_ix ix_list (pv 0) (pv 1) (fun _ _ => rfl)))
      (pss_cons (ps_if (pt_cmpR op_ne (pe_fld (pv 2) rfl) (pgl T.c_LEAF) (nomark _)) (pss_one (ps_ret (pe_lst (pa_cons (pgl T.c_UNFIT) pa_nil)))) pss_nil)
      (pss_cons (ps_fld (pv 2) (pe_op op_sub pe_int (pe_fld (pv 2) rfl)) rfl)
      (pss_one (ps_ret (pe_lst (pa_cons (pe_fld (pv 2) rfl) pa_nil)))))))), ?_⟩
    refine ⟨_, rfl, _, rfl, l, _, rfl, .inl (SqL.of hD.lst), _, _, rfl, rfl, _, rfl, if_dec (fun z => ?_) (fun z => ?_)⟩
    · rw [el] at z
      obtain ⟨e1, e2⟩ := flip_no (d := d) (i := i) (by omega)
      rw [e1, e2] at q
      refine ⟨(by show 1 ≤ sizeLine; decide), fun p hp => ?_⟩
      exact q _ p as cs (Same.kept (same_new hp)) New.refl hp upd_same (hD.same (same_new hp)) hW
    · rw [el] at z
      have lt : i < d.nodes.length := by omega
      obtain ⟨a, c, dx, ha, hc, h1, h2⟩ := hD.getC lt
      refine ⟨_, rfl, _, rfl, l, _, _, _, rfl, rfl, SqL.of hD.lst, ix_ref ha, ?_⟩
      refine ⟨_, rfl, a, C_Node, dx, _, _, rfl, h1, T.cl_Node, T.n_Node_kind, nF_kind _ _, rfl, _, rfl, ?_⟩
      by_cases k' : (nodeAt d i).kind = 0
      · refine if_false_of (by rw [k']; rfl) ?_
        obtain ⟨e1, e2⟩ := flip_ok lt k'
        rw [e1, e2] at q
        have so1 := ((hW.at_ i).leaf k').2
        refine ⟨_, rfl, a, C_Node, dx, _, _, rfl, h1, T.cl_Node, T.n_Node_so, nF_so _ _, _, _, rfl, rfl, _, rfl, a, C_Node, dx, _, rfl, h1, T.cl_Node, T.n_Node_so, (by show 4 < 1000; decide), ?_⟩
        have ev : (1 : Int) - ((nodeAt d i).so : Int) = ((1 - (nodeAt d i).so : Nat) : Int) := by omega
        rw [show ((fun (i j : Int) => V.int (i - j)) 1 ((nodeAt d i).so : Int)) = V.int ((1 - (nodeAt d i).so : Nat) : Int) from congrArg V.int ev, nF_put_so]
        refine ⟨_, rfl, a, C_Node, dx, _, _, rfl, upd_same, T.cl_Node, T.n_Node_so, nF_so _ _, (by show 1 ≤ sizeLine; decide), fun p hp => ?_⟩
        have hpa : p ≠ a := fun e => by
          rw [e, upd_same] at hp
          cases hp
        have hp0 : H p = none := by rw [← hp, upd_ne hpa]
        refine q _ p as cs (fun b o e _ hb => ?_) New.refl hp0 upd_same ((hD.set (m := { nodeAt d i with so := 1 - (nodeAt d i).so }) ha hc h1 h2 rfl).same (same_new hp)) (wf_so hW lt k')
        rw [upd_ne (ne_of_none e hp0), upd_ne (fun e => hb (by rw [e]; exact List.mem_of_getElem? ha))]
        exact e
      · refine if_true_of ?_ ?_
        · show (!decide (V.int ((nodeAt d i).kind : Int) = V.int 0)) = true
          rw [decide_eq_false (fun e => k' (by have := V.int.inj e; omega))]
          rfl
        obtain ⟨e1, e2⟩ := flip_joint lt k'
        rw [e1, e2] at q
        refine ⟨(by show 1 ≤ sizeLine; decide), fun p hp => ?_⟩
        exact q _ p as cs (Same.kept (same_new hp)) New.refl hp upd_same (hD.same (same_new hp)) hW
theorem ok_change_misread {f : Addr} {fd : FuncData} (F : Fun K "change_misread" "change_misread" s_change_misread f fd) (T : Txt K mg C_Node C_Session) : FnOk P w K mg base CX0 1 f fd ["nodes", "i", "misread"] (sp_change_misread K C_Node C_Session) := by
  refine F.ok sc_change_misread (fun vs H Q E h => ?_) (fun cdv A outer s H vs Q E hr h => ?_)
  · obtain ⟨l, d, i, v, rfl, _⟩ := h
    rfl
  · obtain ⟨l, d, i, v, rfl, as, cs, hD, hW, q⟩ := h
    have el : (as.map V.ref).length = d.nodes.length := by rw [List.length_map, hD.len]
    refine ⟨_, (pss_cons (ps_if (pt_cmpR op_ge (pv 1) (pe_callB call_len_seq (by rfl) T.b_len (by decide +kernel) (pa_cons (pv 0) pa_nil)) (nomark _)) (pss_one (ps_ret (pe_lst (pa_cons (pgl T.c_NO_NODE) pa_nil)))) pss_nil)
      (pss_cons (ps_if (pt_cmpR op_gt (pv 2) (pgl T.c_WHOLE) (nomark _)) (pss_one (ps_ret (pe_lst (pa_cons (pgl T.c_BAD_NUMBERS) pa_nil)))) pss_nil)
      (pss_cons (ps_set (i := 3) sc_change_misread.nd rfl (Or.inl rfl) (pe_ix ix_list (pv 0) (pv 1) (fun _ _ => rfl)))
      (pss_cons (ps_if (pt_cmpR op_ne (pe_fld (pv 3) rfl) (pgl T.c_LEAF) (nomark _)) (pss_one (ps_ret (pe_lst (pa_cons (pgl T.c_UNFIT) pa_nil)))) pss_nil)
      (pss_cons (ps_set (i := 4) sc_change_misread.nd rfl (Or.inl rfl) (pe_fld (pv 3) rfl))
      (pss_cons (ps_fld (pv 3) (pv 2) rfl)
      (pss_one (ps_ret (pe_lst (pa_cons (pv 4) pa_nil)))))))))), ?_⟩
    refine ⟨_, rfl, _, rfl, l, _, rfl, .inl (SqL.of hD.lst), _, _, rfl, rfl, _, rfl, if_dec (fun z => ?_) (fun z => ?_)⟩
    · rw [el] at z
      obtain ⟨e1, e2⟩ := wrong_no (d := d) (i := i) (v := v) (by omega)
      rw [e1, e2] at q
      refine ⟨(by show 1 ≤ sizeLine; decide), fun p hp => ?_⟩
      exact q _ p as cs (Same.kept (same_new hp)) New.refl hp upd_same (hD.same (same_new hp)) hW
    rw [el] at z
    have lt : i < d.nodes.length := by omega
    refine ⟨_, rfl, _, _, rfl, rfl, _, rfl, if_dec (fun z2 => ?_) (fun z2 => ?_)⟩
    · obtain ⟨e1, e2⟩ := wrong_bad (v := v) lt (by omega)
      rw [e1, e2] at q
      refine ⟨(by show 1 ≤ sizeLine; decide), fun p hp => ?_⟩
      exact q _ p as cs (Same.kept (same_new hp)) New.refl hp upd_same (hD.same (same_new hp)) hW
    have le : ¬ 100 < v := by omega
    obtain ⟨a, c, dx, ha, hc, h1, h2⟩ := hD.getC lt
    refine ⟨_, rfl, _, rfl, l, _, _, _, rfl, rfl, SqL.of hD.lst, ix_ref ha, ?_⟩
    refine ⟨_, rfl, a, C_Node, dx, _, _, rfl, h1, T.cl_Node, T.n_Node_kind, nF_kind _ _, rfl, _, rfl, ?_⟩
    by_cases k' : (nodeAt d i).kind = 0
    · refine if_false_of (by rw [k']; rfl) ?_
      obtain ⟨e1, e2⟩ := wrong_ok lt le k'
      rw [e1, e2] at q
      refine ⟨_, rfl, a, C_Node, dx, _, _, rfl, h1, T.cl_Node, T.n_Node_misread, nF_misread _ _, ?_⟩
      refine ⟨_, rfl, _, rfl, a, C_Node, dx, _, rfl, h1, T.cl_Node, T.n_Node_misread, (by show 4 < 1000; decide), ?_⟩
      rw [nF_put_misread]
      refine ⟨_, rfl, (by show 1 ≤ sizeLine; decide), fun p hp => ?_⟩
      have hpa : p ≠ a := fun e => by
        rw [e, upd_same] at hp
        cases hp
      have hp0 : H p = none := by rw [← hp, upd_ne hpa]
      refine q _ p as cs (fun b o e _ hb => ?_) New.refl hp0 upd_same ((hD.set (m := { nodeAt d i with wrong := v }) ha hc h1 h2 rfl).same (same_new hp)) (wf_wrong hW lt (by omega))
      rw [upd_ne (ne_of_none e hp0), upd_ne (fun e => hb (by rw [e]; exact List.mem_of_getElem? ha))]
      exact e
    · refine if_true_of ?_ ?_
      · show (!decide (V.int ((nodeAt d i).kind : Int) = V.int 0)) = true
        rw [decide_eq_false (fun e => k' (by have := V.int.inj e; omega))]
        rfl
      obtain ⟨e1, e2⟩ := wrong_joint lt le k'
      rw [e1, e2] at q
      refine ⟨(by show 1 ≤ sizeLine; decide), fun p hp => ?_⟩
      exact q _ p as cs (Same.kept (same_new hp)) New.refl hp upd_same (hD.same (same_new hp)) hW
end
end Dp

namespace Dp
open PySem PySem.Spec PyProof.Rows L2
open Kp365 (Desk Node nodeAt isTrue)
open Dm Ml
section
variable {P : Program} {w : World} {K : PySem.W.Frag} {mg : Str → Option Value} {base : Heap} {C_Node C_Session : Addr}
theorem ok_common_part {f : Addr} {fd : FuncData} (F : Fun K "common_part" "common_part" s_common_part f fd) (T : Txt K mg C_Node C_Session) : FnOk P w K mg base CX0 1 f fd ["one", "other"] (sp_common_part K C_Node C_Session) := by
  refine F.ok sc_common_part (fun vs H Q E h => ?_) (fun cdv A outer s H vs Q E hr h => ?_)
  · obtain ⟨a, b, rfl, _⟩ := h
    rfl
  · obtain ⟨a, b, rfl, q⟩ := h
    refine ⟨_, (pss_cons (ps_while PassesOwn.never (pt_cmpR op_gt (pv 1) pe_int (nomark _)) (pss_cons (ps_set (i := 2) sc_common_part.nd rfl (Or.inl rfl) (pe_op op_mod (pv 0) (pv 1)))
      (pss_cons (ps_set (i := 0) sc_common_part.nd rfl (Or.inl rfl) (pv 1))
      (pss_one (ps_set (i := 1) sc_common_part.nd rfl (Or.inl rfl) (pv 2))))))
      (pss_one (ps_ret (pv 0)))), ?_⟩
    refine while_by (fun σ H' => ∃ (x y : Nat) (v : Option V), σ = [some (.int (x : Int)), some (.int (y : Int)), v] ∧ Nat.gcd x y = Nat.gcd a b ∧ H' = H) (fun σ _ => slotN σ 1) ⟨a, b, none, rfl, rfl, rfl⟩ ?_ (fun σ H Q Q' m ⟨v, h1, i, j, h2, h3, k, h4, h5⟩ => ⟨v, h1, i, j, h2, h3, k, h4, m _ _ h5⟩)
    rintro σ H' ⟨x, y, v, rfl, g, rfl⟩
    refine ⟨_, rfl, _, _, rfl, rfl, _, rfl, if_dec (fun z => ?_) (fun z => ?_)⟩
    · have y0 : 0 < y := by omega
      refine ⟨_, rfl, _, rfl, _, _, rfl, rfl, z, ?_⟩
      refine ⟨_, rfl, _, rfl, ⟨y, x % y, some (.int ((x % y : Nat) : Int)), rfl, (gcd_turn x y).trans g, rfl⟩, ?_⟩
      show x % y < y
      exact Nat.mod_lt _ y0
    · have y0 : y = 0 := by omega
      subst y0
      rw [Nat.gcd_zero_right] at g
      rw [← g] at q
      exact ⟨_, rfl, q⟩
theorem ok_fraction {f : Addr} {fd : FuncData} (F : Fun K "fraction" "fraction" s_fraction f fd) (T : Txt K mg C_Node C_Session) (D_common_part : Def P w K mg base "common_part" 1 ["one", "other"] (sp_common_part K C_Node C_Session)) : FnOk P w K mg base CX0 2 f fd ["hundredths"] (sp_fraction K C_Node C_Session) := by
  refine F.ok sc_fraction (fun vs H Q E h => ?_) (fun cdv A outer s H vs Q E hr h => ?_)
  · obtain ⟨h, rfl, _⟩ := h
    rfl
  · obtain ⟨h, rfl, hh, q⟩ := h
    refine ⟨_, (pss_cons (ps_set (i := 1) sc_fraction.nd rfl (Or.inl rfl) (pe_def D_common_part (hr.mono (by decide)) (pa_cons (pv 0) (pa_cons (pgl T.c_WHOLE) pa_nil))))
      (pss_one (ps_ret (pe_lst (pa_cons (pe_op op_fdiv (pv 0) (pv 1)) (pa_cons (pe_op op_fdiv (pgl T.c_WHOLE) (pv 1)) pa_nil)))))), ?_⟩
    have g0 : 0 < Nat.gcd h 100 := Nat.gcd_pos_of_pos_right h (by decide)
    have g1 : Nat.gcd h 100 ≤ 100 := Nat.le_of_dvd (by decide) (Nat.gcd_dvd_right h 100)
    refine ⟨_, rfl, h, 100, rfl, ?_⟩
    refine ⟨_, rfl, _, rfl, _, _, rfl, rfl, ⟨by omega, by omega⟩, _, rfl, _, _, rfl, rfl, ⟨by omega, by omega⟩, (by show 2 ≤ sizeLine; decide), fun p hp => ?_⟩
    refine q _ p (same_new hp) hp ?_
    rw [upd_same, fr100_eq]
    rfl
theorem ok_read_as_so {f : Addr} {fd : FuncData} (F : Fun K "read_as_so" "read_as_so" s_read_as_so f fd) (T : Txt K mg C_Node C_Session) : FnOk P w K mg base CX0 1 f fd ["leaf"] (sp_read_as_so K C_Node C_Session) := by
  refine F.ok sc_read_as_so (fun vs H Q E h => ?_) (fun cdv A outer s H vs Q E hr h => ?_)
  · obtain ⟨a, n, rfl, _⟩ := h
    rfl
  · obtain ⟨a, n, rfl, hN, hw, q⟩ := h
    obtain ⟨dx, c, h1, h2⟩ := hN.ex
    refine ⟨_, (pss_cons (ps_if (pt_cmpR op_eq (pe_fld (pv 0) rfl) pe_int (nomark _)) (pss_one (ps_ret (pe_op op_sub (pgl T.c_WHOLE) (pe_fld (pv 0) rfl)))) pss_nil)
      (pss_one (ps_ret (pe_fld (pv 0) rfl)))), ?_⟩
    refine ⟨_, rfl, a, C_Node, dx, _, _, rfl, h1, T.cl_Node, T.n_Node_so, nF_so _ _, rfl, _, rfl, if_dec (fun z => ?_) (fun z => ?_)⟩
    · have e : ofLeaf100 n = 100 - n.wrong := if_pos (by have := V.int.inj z; omega)
      rw [e] at q
      refine ⟨_, rfl, a, C_Node, dx, _, _, rfl, h1, T.cl_Node, T.n_Node_misread, nF_misread _ _, _, _, rfl, rfl, ?_⟩
      show Q (V.int ((100 : Int) - (n.wrong : Int))) H
      rw [show (100 : Int) - (n.wrong : Int) = ((100 - n.wrong : Nat) : Int) by omega]
      exact q
    · have e : ofLeaf100 n = n.wrong := if_neg (fun e => z (congrArg V.int (by rw [e]; rfl)))
      rw [e] at q
      exact ⟨_, rfl, a, C_Node, dx, _, _, rfl, h1, T.cl_Node, T.n_Node_misread, nF_misread _ _, q⟩
end
end Dp

namespace Dp
open PySem PySem.Spec PyProof.Rows L2
open Kp365 (Desk Node nodeAt isTrue)
open Dm Ml
section
variable {P : Program} {w : World} {K : PySem.W.Frag} {mg : Str → Option Value} {base : Heap} {C_Node C_Session : Addr}
theorem ok_picked_value {f : Addr} {fd : FuncData} (F : Fun K "picked_value" "picked_value" s_picked_value f fd) (T : Txt K mg C_Node C_Session) : FnOk P w K mg base CX0 1 f fd ["node", "values"] (sp_picked_value K C_Node C_Session) := by
  refine F.ok sc_picked_value (fun vs H Q E h => ?_) (fun cdv A outer s H vs Q E hr h => ?_)
  · obtain ⟨a, v, n, vals, rfl, _⟩ := h
    rfl
  · obtain ⟨a, v, n, vals, rfl, hN, hk, h1k, h4k, hv, hin, hle, q⟩ := h
    obtain ⟨dx, c, h1, h2⟩ := hN.ex
    refine ⟨_, (pss_cons (ps_setLc (i := 2) (own := [("child", 3)]) (g := gName 3) (te := (tOp (rIxL K) (tVar 1) (tVar 3))) (tt := tYes) (by rfl) sc_picked_value.nd rfl rfl (sw_true rfl rfl rfl (by decide +kernel)) (pi_list (pe_fld (pv 0) rfl)) (blkOk_by (own := [("child", 3)]) (N := ["node", "values", "below", "child"]) (sc := defScope s_picked_value) (by decide +kernel)) (fun _ _ _ _ _ => pg_name (i := 3) sc_picked_value.nd rfl (Or.inl rfl)) (fun _ _ _ _ _ => pts_nil) (fun _ _ _ _ _ => (pe_ix ix_list (pv 1) (pv 3) (fun _ _ => rfl))))
      (pss_cons (ps_if (pt_cmpR op_eq (pe_fld (pv 0) rfl) (pgl T.c_ALL_OF) (nomark _)) (pss_one (ps_ret (pe_callB (cr_min rfl) (by rfl) T.b_min (by decide +kernel) (pa_cons (pv 2) pa_nil)))) pss_nil)
      (pss_one (ps_ret (pe_callB (cr_max rfl) (by rfl) T.b_max (by decide +kernel) (pa_cons (pv 2) pa_nil)))))), ?_⟩
    refine ⟨_, rfl, a, C_Node, dx, _, _, rfl, h1, T.cl_Node, T.n_Node_children, nF_children _ _, c, rfl, ⟨_, SqL.of h2⟩, fun D hD => ?_⟩
    refine lc_list (K := K) (a := c) (xs := kidsV n) (fun i H' => Same H H' ∧ H' D = some (.lst ((up ((n.kids.take i).map fun k => vals.getD k 0)).map V.int))) ⟨same_new hD, upd_same⟩ (fun i H' _ ⟨s5, _⟩ => SqL.of (s5 _ _ h2)) ?_ ?_
    · rintro i y H' hi ⟨s5, h5⟩
      obtain ⟨k, hk', rfl⟩ : ∃ k, n.kids[i]? = some k ∧ y = V.int (k : Int) := by
        unfold kidsV at hi
        rw [List.getElem?_map] at hi
        cases e : n.kids[i]? with
        | none =>
          rw [e] at hi
          cases hi
        | some z =>
          rw [e] at hi
          exact ⟨z, rfl, (Option.some.inj hi).symm⟩
      have lt := hin k (List.mem_of_getElem? hk')
      have ev : ((up vals).map V.int)[k]? = some (V.int ((vals.getD k 0 : Nat) : Int)) := by
        unfold up
        rw [List.map_map, List.getElem?_map, List.getElem?_eq_getElem lt, List.getD_eq_getElem?_getD, List.getElem?_eq_getElem lt]
        rfl
      refine ⟨rfl, _, rfl, _, rfl, v, _, _, _, rfl, rfl, SqL.of (s5 _ _ hv), atI_nat ev, _, h5, ?_, fun b o e => ?_, ?_⟩
      · rw [List.length_map, up_len, List.length_map, List.length_take]
        exact small1000 (by omega)
      · rw [upd_ne (ne_of_none e hD)]
        exact s5 b o e
      · rw [upd_same, take_more hk', List.map_append, up_append, List.map_append]
        rfl
    · rintro H1 ⟨s5, h5⟩
      have ek : (kidsV n).length = n.kids.length := List.length_map ..
      rw [ek, List.take_length] at h5
      have hle' : ∀ x ∈ n.kids.map fun k => vals.getD k 0, x ≤ 100 := fun x hx => by
        obtain ⟨k, hk', rfl⟩ := List.mem_map.mp hx
        have lt := hin k hk'
        rw [List.getD_eq_getElem?_getD, List.getElem?_eq_getElem lt]
        exact hle _ (List.getElem_mem lt)
      have ne : 0 < (up (n.kids.map fun k => vals.getD k 0)).length := by
        rw [up_len, List.length_map]
        omega
      have down : ∀ m : Int, m ∈ up (n.kids.map fun k => vals.getD k 0) → ∃ m' ∈ n.kids.map fun k => vals.getD k 0, m = ((m' : Nat) : Int) := fun m hm => by
        obtain ⟨m', h, e⟩ := List.mem_map.mp hm
        exact ⟨m', h, e.symm⟩
      refine ⟨_, rfl, a, C_Node, dx, _, _, rfl, s5 _ _ h1, T.cl_Node, T.n_Node_kind, nF_kind _ _, rfl, _, rfl, if_dec (fun z => ?_) (fun z => ?_)⟩
      · have z' : n.kind = 1 := by
          have := V.int.inj z
          omega
        refine ⟨_, rfl, D, _, rfl, SqL.of h5, ne, fun m hm le => ?_⟩
        obtain ⟨m', h', rfl⟩ := down m hm
        have e : pickV n.kind (n.kids.map fun k => vals.getD k 0) = m' := (if_pos z').trans (min_is hle' h' fun x hx => by
          have := le (x : Int) (List.mem_map.mpr ⟨x, hx, rfl⟩)
          omega)
        rw [e] at q
        exact q H1 s5
      · have z' : ¬ n.kind = 1 := fun e => z (congrArg V.int (by rw [e]; rfl))
        refine ⟨_, rfl, D, _, rfl, SqL.of h5, ne, fun m hm le => ?_⟩
        obtain ⟨m', h', rfl⟩ := down m hm
        have e : pickV n.kind (n.kids.map fun k => vals.getD k 0) = m' := (if_neg z').trans (max_is h' fun x hx => by
          have := le (x : Int) (List.mem_map.mpr ⟨x, hx, rfl⟩)
          omega)
        rw [e] at q
        exact q H1 s5
end
end Dp

namespace Dp
open PySem PySem.Spec PyProof.Rows L2
open Kp365 (Desk Node nodeAt isTrue)
open Dm Ml
section
variable {P : Program} {w : World} {K : PySem.W.Frag} {mg : Str → Option Value} {base : Heap} {C_Node C_Session : Addr}
theorem ok_truths {f : Addr} {fd : FuncData} (F : Fun K "truths" "truths" s_truths f fd) (T : Txt K mg C_Node C_Session) (D_picked_value : Def P w K mg base "picked_value" 1 ["node", "values"] (sp_picked_value K C_Node C_Session)) : FnOk P w K mg base CX0 2 f fd ["nodes"] (sp_truths K C_Node C_Session) := by
  refine F.ok sc_truths (fun vs H Q E h => ?_) (fun cdv A outer s H vs Q E hr h => ?_)
  · obtain ⟨l, d, rfl, _⟩ := h
    rfl
  · obtain ⟨l, d, rfl, as, cs, hD, hW, q⟩ := h
    refine ⟨_, (pss_cons (ps_set (i := 1) sc_truths.nd rfl (Or.inl rfl) (pe_lst pa_nil))
      (pss_cons (ps_for PassesOwn.never rfl (pi_list (pv 0)) (pg_name (i := 2) sc_truths.nd rfl (Or.inl rfl)) (pss_one (ps_if (pt_cmpR op_eq (pe_fld (pv 2) rfl) (pgl T.c_LEAF) (nomark _)) (pss_one (ps_expr (pe_bm PySem.F.plainAttrs_list PySem.F.slot_list_append PySem.F.type_list_append mt_append (pv 1) (pa_cons (pe_fld (pv 2) rfl) pa_nil)))) (pss_one (ps_expr (pe_bm PySem.F.plainAttrs_list PySem.F.slot_list_append PySem.F.type_list_append mt_append (pv 1) (pa_cons (pe_def D_picked_value (hr.mono (by decide)) (pa_cons (pv 2) (pa_cons (pv 1) pa_nil))) pa_nil)))))))
      (pss_one (ps_ret (pv 1))))), ?_⟩
    refine ⟨(by show 0 ≤ sizeLine; decide), fun t ht => ?_⟩
    refine ⟨_, rfl, l, rfl, ⟨_, SqL.of ((same_new ht) _ _ hD.lst)⟩, for_list (K := K) (a := l) (xs := as.map V.ref) (fun i σ H' => ∃ v : Option V, σ = [some (.ref l), some (.ref t), v] ∧ Same H H' ∧ H' t = some (.lst ((up ((List.range i).map (bitN d))).map V.int)))
      ⟨none, rfl, same_new ht, upd_same⟩ (fun i σ H' _ ⟨_, _, s5, _⟩ => SqL.of (s5 _ _ hD.lst)) ?_ ?_⟩
    · rintro i y σ H' hi ⟨v, rfl, s5, h5⟩
      obtain ⟨a, lt, rfl, hN⟩ := (hD.same s5).turn hi
      obtain ⟨dx, c, h1, h2⟩ := hN.ex
      have i20 : i ≤ 20 := by
        have := hW.len
        omega
      have sz : ((up ((List.range i).map (bitN d))).map V.int).length < sizeLine := by
        rw [List.length_map, up_len, List.length_map, List.length_range]
        exact small1000 (by omega)
      have more : ∀ z : Nat, z = bitN d i → (up ((List.range i).map (bitN d))).map V.int ++ [V.int (z : Int)] = (up ((List.range (i + 1)).map (bitN d))).map V.int := fun z e => by
        rw [e, List.range_succ, List.map_append, up_append, List.map_append]
        rfl
      refine ⟨_, rfl, a, C_Node, dx, _, _, rfl, h1, T.cl_Node, T.n_Node_kind, nF_kind _ _, rfl, _, rfl, if_dec (fun z => ?_) (fun z => ?_)⟩
      · have k : (nodeAt d i).kind = 0 := by
          have := V.int.inj z
          omega
        refine ⟨_, rfl, .inl ⟨rfl, _, SqL.of h5⟩, _, rfl, a, C_Node, dx, _, _, rfl, h1, T.cl_Node, T.n_Node_so, nF_so _ _, t, _, _, rfl, rfl, h5, sz, ?_⟩
        refine ⟨some (.ref a), rfl, fun b o e => ?_, ?_⟩
        · rw [upd_ne (ne_of_none e ht)]
          exact s5 b o e
        · rw [upd_same, more _ (bitN_leaf hW i20 k).symm]
      · have k : ¬ (nodeAt d i).kind = 0 := fun e => z (congrArg V.int (by rw [e]; rfl))
        have o := hW.at_ i
        refine ⟨_, rfl, .inl ⟨rfl, _, SqL.of h5⟩, _, rfl, _, rfl, a, t, nodeAt d i, (List.range i).map (bitN d), rfl, hN, by have := o.kind; omega, o.joint k, o.few, h5, fun j hj => ?_, fun x hx => ?_, fun H2 s2 => ?_⟩
        · rw [List.length_map, List.length_range]
          exact o.kids j hj
        · obtain ⟨j, _, rfl⟩ := List.mem_map.mp hx
          have := bitN_le d j
          omega
        · refine ⟨t, _, _, rfl, rfl, s2 _ _ h5, sz, ?_⟩
          refine ⟨some (.ref a), rfl, fun b o e => ?_, ?_⟩
          · rw [upd_ne (ne_of_none e ht)]
            exact s2 _ _ (s5 b o e)
          · rw [upd_same, more _ ?_]
            rw [kids_vals hW]
            exact (bitN_joint hW i20 k).symm
    · rintro σ H' ⟨v, rfl, s5, h5⟩
      rw [List.length_map, hD.len] at h5
      exact ⟨_, rfl, q H' t s5 ht h5⟩
theorem ok_held_hundredths {f : Addr} {fd : FuncData} (F : Fun K "held_hundredths" "held_hundredths" s_held_hundredths f fd) (T : Txt K mg C_Node C_Session) (D_read_as_so : Def P w K mg base "read_as_so" 1 ["leaf"] (sp_read_as_so K C_Node C_Session)) (D_picked_value : Def P w K mg base "picked_value" 1 ["node", "values"] (sp_picked_value K C_Node C_Session)) : FnOk P w K mg base CX0 2 f fd ["nodes"] (sp_held_hundredths K C_Node C_Session) := by
  refine F.ok sc_held_hundredths (fun vs H Q E h => ?_) (fun cdv A outer s H vs Q E hr h => ?_)
  · obtain ⟨l, d, rfl, _⟩ := h
    rfl
  · obtain ⟨l, d, rfl, as, cs, hD, hW, q⟩ := h
    refine ⟨_, (pss_cons (ps_set (i := 1) sc_held_hundredths.nd rfl (Or.inl rfl) (pe_lst pa_nil))
      (pss_cons (ps_for PassesOwn.never rfl (pi_list (pv 0)) (pg_name (i := 2) sc_held_hundredths.nd rfl (Or.inl rfl)) (pss_one (ps_if (pt_cmpR op_eq (pe_fld (pv 2) rfl) (pgl T.c_LEAF) (nomark _)) (pss_one (ps_expr (pe_bm PySem.F.plainAttrs_list PySem.F.slot_list_append PySem.F.type_list_append mt_append (pv 1) (pa_cons (pe_def D_read_as_so (hr.mono (by decide)) (pa_cons (pv 2) pa_nil)) pa_nil)))) (pss_one (ps_expr (pe_bm PySem.F.plainAttrs_list PySem.F.slot_list_append PySem.F.type_list_append mt_append (pv 1) (pa_cons (pe_def D_picked_value (hr.mono (by decide)) (pa_cons (pv 2) (pa_cons (pv 1) pa_nil))) pa_nil)))))))
      (pss_one (ps_ret (pv 1))))), ?_⟩
    refine ⟨(by show 0 ≤ sizeLine; decide), fun t ht => ?_⟩
    refine ⟨_, rfl, l, rfl, ⟨_, SqL.of ((same_new ht) _ _ hD.lst)⟩, for_list (K := K) (a := l) (xs := as.map V.ref) (fun i σ H' => ∃ v : Option V, σ = [some (.ref l), some (.ref t), v] ∧ Same H H' ∧ H' t = some (.lst ((up ((List.range i).map (held100 d))).map V.int)))
      ⟨none, rfl, same_new ht, upd_same⟩ (fun i σ H' _ ⟨_, _, s5, _⟩ => SqL.of (s5 _ _ hD.lst)) ?_ ?_⟩
    · rintro i y σ H' hi ⟨v, rfl, s5, h5⟩
      obtain ⟨a, lt, rfl, hN⟩ := (hD.same s5).turn hi
      obtain ⟨dx, c, h1, h2⟩ := hN.ex
      have i20 : i ≤ 20 := by
        have := hW.len
        omega
      have sz : ((up ((List.range i).map (held100 d))).map V.int).length < sizeLine := by
        rw [List.length_map, up_len, List.length_map, List.length_range]
        exact small1000 (by omega)
      have more : ∀ z : Nat, z = held100 d i → (up ((List.range i).map (held100 d))).map V.int ++ [V.int (z : Int)] = (up ((List.range (i + 1)).map (held100 d))).map V.int := fun z e => by
        rw [e, List.range_succ, List.map_append, up_append, List.map_append]
        rfl
      refine ⟨_, rfl, a, C_Node, dx, _, _, rfl, h1, T.cl_Node, T.n_Node_kind, nF_kind _ _, rfl, _, rfl, if_dec (fun z => ?_) (fun z => ?_)⟩
      · have k : (nodeAt d i).kind = 0 := by
          have := V.int.inj z
          omega
        refine ⟨_, rfl, .inl ⟨rfl, _, SqL.of h5⟩, _, rfl, a, nodeAt d i, rfl, hN, (hW.at_ i).wrong, t, _, _, rfl, rfl, h5, sz, ?_⟩
        refine ⟨some (.ref a), rfl, fun b o e => ?_, ?_⟩
        · rw [upd_ne (ne_of_none e ht)]
          exact s5 b o e
        · rw [upd_same, more (ofLeaf100 (nodeAt d i)) (held_leaf hW i20 k).symm]
      · have k : ¬ (nodeAt d i).kind = 0 := fun e => z (congrArg V.int (by rw [e]; rfl))
        have o := hW.at_ i
        refine ⟨_, rfl, .inl ⟨rfl, _, SqL.of h5⟩, _, rfl, _, rfl, a, t, nodeAt d i, (List.range i).map (held100 d), rfl, hN, by have := o.kind; omega, o.joint k, o.few, h5, fun j hj => ?_, fun x hx => ?_, fun H2 s2 => ?_⟩
        · rw [List.length_map, List.length_range]
          exact o.kids j hj
        · obtain ⟨j, _, rfl⟩ := List.mem_map.mp hx
          exact held100_le hW.mild j
        · refine ⟨t, _, _, rfl, rfl, s2 _ _ h5, sz, ?_⟩
          refine ⟨some (.ref a), rfl, fun b o e => ?_, ?_⟩
          · rw [upd_ne (ne_of_none e ht)]
            exact s2 _ _ (s5 b o e)
          · rw [upd_same, more _ ?_]
            rw [kids_vals hW]
            exact (held_joint hW i20 k).symm
    · rintro σ H' ⟨v, rfl, s5, h5⟩
      rw [List.length_map, hD.len] at h5
      exact ⟨_, rfl, q H' t s5 ht h5⟩
theorem ok_right_hundredths {f : Addr} {fd : FuncData} (F : Fun K "right_hundredths" "right_hundredths" s_right_hundredths f fd) (T : Txt K mg C_Node C_Session) (D_truths : Def P w K mg base "truths" 2 ["nodes"] (sp_truths K C_Node C_Session)) (D_held_hundredths : Def P w K mg base "held_hundredths" 2 ["nodes"] (sp_held_hundredths K C_Node C_Session)) : FnOk P w K mg base CX0 3 f fd ["nodes", "i"] (sp_right_hundredths K C_Node C_Session) := by
  refine F.ok sc_right_hundredths (fun vs H Q E h => ?_) (fun cdv A outer s H vs Q E hr h => ?_)
  · obtain ⟨l, as, cs, d, i, rfl, _⟩ := h
    rfl
  · obtain ⟨l, as, cs, d, i, rfl, hD, hW, lt, q⟩ := h
    refine ⟨_, (pss_cons (ps_set (i := 2) sc_right_hundredths.nd rfl (Or.inl rfl) (pe_ix ix_list (pe_def D_held_hundredths (hr.mono (by decide)) (pa_cons (pv 0) pa_nil)) (pv 1) (fun _ _ => rfl)))
      (pss_cons (ps_if (pt_cmpR op_eq (pe_ix ix_list (pe_def D_truths (hr.mono (by decide)) (pa_cons (pv 0) pa_nil)) (pv 1) (fun _ _ => rfl)) pe_int (nomark _)) (pss_one (ps_ret (pv 2))) pss_nil)
      (pss_one (ps_ret (pe_op op_sub (pgl T.c_WHOLE) (pv 2)))))), ?_⟩
    refine ⟨_, rfl, l, d, rfl, as, cs, hD, hW, fun H1 t s1 ht h1 => ?_⟩
    refine ⟨_, rfl, t, _, _, _, rfl, rfl, SqL.of h1, range_at lt, ?_⟩
    refine ⟨_, rfl, l, d, rfl, as, cs, hD.same s1, hW, fun H2 t2 s2 ht2 h2 => ?_⟩
    refine ⟨_, rfl, t2, _, _, _, rfl, rfl, SqL.of h2, range_at lt, rfl, _, rfl, ?_⟩
    have s := s1.trans s2
    have le := held100_le hW.mild i
    unfold right100 at q
    cases e : isTrue d i with
    | true =>
      rw [e] at q
      have eb : bitN d i = 1 := by
        unfold bitN
        rw [e]
        rfl
      rw [eb]
      exact ⟨_, rfl, q H2 s⟩
    | false =>
      rw [e] at q
      have eb : bitN d i = 0 := by
        unfold bitN
        rw [e]
        rfl
      rw [eb]
      refine ⟨_, rfl, _, _, rfl, rfl, ?_⟩
      show Q (V.int ((100 : Int) - (held100 d i : Int))) H2
      rw [show (100 : Int) - (held100 d i : Int) = ((100 - held100 d i : Nat) : Int) by omega]
      exact q H2 s
theorem ok_tell_true {f : Addr} {fd : FuncData} (F : Fun K "tell_true" "tell_true" s_tell_true f fd) (T : Txt K mg C_Node C_Session) (D_truths : Def P w K mg base "truths" 2 ["nodes"] (sp_truths K C_Node C_Session)) : FnOk P w K mg base CX0 3 f fd ["nodes", "i"] (sp_tell_true K C_Node C_Session) := by
  refine F.ok sc_tell_true (fun vs H Q E h => ?_) (fun cdv A outer s H vs Q E hr h => ?_)
  · obtain ⟨l, d, i, rfl, _⟩ := h
    rfl
  · obtain ⟨l, d, i, rfl, as, cs, hD, hW, q⟩ := h
    have el : (as.map V.ref).length = d.nodes.length := by rw [List.length_map, hD.len]
    refine ⟨_, (pss_cons (ps_if (pt_cmpR op_ge (pv 1) (pe_callB call_len_seq (by rfl) T.b_len (by decide +kernel) (pa_cons (pv 0) pa_nil)) (nomark _)) (pss_one (ps_ret (pe_lst (pa_cons (pgl T.c_NO_NODE) pa_nil)))) pss_nil)
      (pss_one (ps_ret (pe_lst (pa_cons (pe_ix ix_list (pe_def D_truths (hr.mono (by decide)) (pa_cons (pv 0) pa_nil)) (pv 1) (fun _ _ => rfl)) pa_nil))))), ?_⟩
    refine ⟨_, rfl, _, rfl, l, _, rfl, .inl (SqL.of hD.lst), _, _, rfl, rfl, _, rfl, if_dec (fun z => ?_) (fun z => ?_)⟩
    · rw [el] at z
      rw [of_no (c := .true_ i) rfl (by omega)] at q
      exact ⟨(by show 1 ≤ sizeLine; decide), fun p hp => q _ p (same_new hp) hp upd_same⟩
    · rw [el] at z
      have lt : i < d.nodes.length := by omega
      rw [true_at lt] at q
      refine ⟨_, rfl, l, d, rfl, as, cs, hD, hW, fun H1 t s1 ht h1 => ?_⟩
      refine ⟨_, rfl, t, _, _, _, rfl, rfl, SqL.of h1, range_at lt, (by show 1 ≤ sizeLine; decide), fun p hp => ?_⟩
      refine q _ p (s1.trans (same_new hp)) (s1.free hp) ?_
      rw [upd_same]
      refine congrArg (fun z => some (HO.lst [V.int z])) ?_
      unfold bitN
      cases isTrue d i <;> rfl
theorem ok_tell_held {f : Addr} {fd : FuncData} (F : Fun K "tell_held" "tell_held" s_tell_held f fd) (T : Txt K mg C_Node C_Session) (D_fraction : Def P w K mg base "fraction" 2 ["hundredths"] (sp_fraction K C_Node C_Session)) (D_held_hundredths : Def P w K mg base "held_hundredths" 2 ["nodes"] (sp_held_hundredths K C_Node C_Session)) : FnOk P w K mg base CX0 3 f fd ["nodes", "i"] (sp_tell_held K C_Node C_Session) := by
  refine F.ok sc_tell_held (fun vs H Q E h => ?_) (fun cdv A outer s H vs Q E hr h => ?_)
  · obtain ⟨l, d, i, rfl, _⟩ := h
    rfl
  · obtain ⟨l, d, i, rfl, as, cs, hD, hW, q⟩ := h
    have el : (as.map V.ref).length = d.nodes.length := by rw [List.length_map, hD.len]
    refine ⟨_, (pss_cons (ps_if (pt_cmpR op_ge (pv 1) (pe_callB call_len_seq (by rfl) T.b_len (by decide +kernel) (pa_cons (pv 0) pa_nil)) (nomark _)) (pss_one (ps_ret (pe_lst (pa_cons (pgl T.c_NO_NODE) pa_nil)))) pss_nil)
      (pss_one (ps_ret (pe_op op_cat (pe_lst (pa_cons pe_int pa_nil)) (pe_def D_fraction (hr.mono (by decide)) (pa_cons (pe_ix ix_list (pe_def D_held_hundredths (hr.mono (by decide)) (pa_cons (pv 0) pa_nil)) (pv 1) (fun _ _ => rfl)) pa_nil)))))), ?_⟩
    refine ⟨_, rfl, _, rfl, l, _, rfl, .inl (SqL.of hD.lst), _, _, rfl, rfl, _, rfl, if_dec (fun z => ?_) (fun z => ?_)⟩
    · rw [el] at z
      rw [of_no (c := .held i) rfl (by omega)] at q
      exact ⟨(by show 1 ≤ sizeLine; decide), fun p hp => q _ p (same_new hp) hp upd_same⟩
    · rw [el] at z
      have lt : i < d.nodes.length := by omega
      rw [held_at hW.mild lt] at q
      refine ⟨(by show 1 ≤ sizeLine; decide), fun z0 hz0 => ?_⟩
      have s0 := same_new (o := .lst [V.int 0]) hz0
      refine ⟨_, rfl, l, d, rfl, as, cs, hD.same s0, hW, fun H1 t s1 ht h1 => ?_⟩
      refine ⟨_, rfl, t, _, _, _, rfl, rfl, SqL.of h1, range_at lt, held100 d i, rfl, held100_le hW.mild i, fun H2 t2 s2 ht2 h2 => ?_⟩
      refine ⟨z0, t2, _, _, rfl, rfl, s2 _ _ (s1 _ _ upd_same), h2, (by show 1 + 2 ≤ sizeLine; decide), fun p hp => ?_⟩
      have s := (s0.trans s1).trans s2
      exact q _ p (s.trans (same_new hp)) (s.free hp) upd_same
theorem ok_tell_right {f : Addr} {fd : FuncData} (F : Fun K "tell_right" "tell_right" s_tell_right f fd) (T : Txt K mg C_Node C_Session) (D_fraction : Def P w K mg base "fraction" 2 ["hundredths"] (sp_fraction K C_Node C_Session)) (D_right_hundredths : Def P w K mg base "right_hundredths" 3 ["nodes", "i"] (sp_right_hundredths K C_Node C_Session)) : FnOk P w K mg base CX0 4 f fd ["nodes", "i"] (sp_tell_right K C_Node C_Session) := by
  refine F.ok sc_tell_right (fun vs H Q E h => ?_) (fun cdv A outer s H vs Q E hr h => ?_)
  · obtain ⟨l, d, i, rfl, _⟩ := h
    rfl
  · obtain ⟨l, d, i, rfl, as, cs, hD, hW, q⟩ := h
    have el : (as.map V.ref).length = d.nodes.length := by rw [List.length_map, hD.len]
    refine ⟨_, (pss_cons (ps_if (pt_cmpR op_ge (pv 1) (pe_callB call_len_seq (by rfl) T.b_len (by decide +kernel) (pa_cons (pv 0) pa_nil)) (nomark _)) (pss_one (ps_ret (pe_lst (pa_cons (pgl T.c_NO_NODE) pa_nil)))) pss_nil)
      (pss_one (ps_ret (pe_op op_cat (pe_lst (pa_cons pe_int pa_nil)) (pe_def D_fraction (hr.mono (by decide)) (pa_cons (pe_def D_right_hundredths (hr.mono (by decide)) (pa_cons (pv 0) (pa_cons (pv 1) pa_nil))) pa_nil)))))), ?_⟩
    refine ⟨_, rfl, _, rfl, l, _, rfl, .inl (SqL.of hD.lst), _, _, rfl, rfl, _, rfl, if_dec (fun z => ?_) (fun z => ?_)⟩
    · rw [el] at z
      rw [of_no (c := .right i) rfl (by omega)] at q
      exact ⟨(by show 1 ≤ sizeLine; decide), fun p hp => q _ p (same_new hp) hp upd_same⟩
    · rw [el] at z
      have lt : i < d.nodes.length := by omega
      rw [right_at hW.mild lt] at q
      refine ⟨(by show 1 ≤ sizeLine; decide), fun z0 hz0 => ?_⟩
      have s0 := same_new (o := .lst [V.int 0]) hz0
      refine ⟨_, rfl, _, rfl, l, as, cs, d, i, rfl, hD.same s0, hW, lt, fun H1 s1 => ?_⟩
      refine ⟨right100 d i, rfl, right100_le hW.mild i, fun H2 t2 s2 ht2 h2 => ?_⟩
      refine ⟨z0, t2, _, _, rfl, rfl, s2 _ _ (s1 _ _ upd_same), h2, (by show 1 + 2 ≤ sizeLine; decide), fun p hp => ?_⟩
      have s := (s0.trans s1).trans s2
      exact q _ p (s.trans (same_new hp)) (s.free hp) upd_same
end
end Dp

namespace Dp
open PySem PySem.Spec PyProof.Rows L2
open Kp365 (Desk Node nodeAt isTrue)
open Dm Ml
section
variable {P : Program} {w : World} {K : PySem.W.Frag} {mg : Str → Option Value} {base : Heap} {C_Node C_Session : Addr}
theorem SessAt.same {H H' : Hp} {x l : Addr} {cs : List Addr} {st : Kp365.State} (h : SessAt C_Node C_Session H x l cs st) (s : Same H H') : SessAt C_Node C_Session H' x l cs st := by
  obtain ⟨dx, h1⟩ := h.obj
  exact ⟨⟨dx, s _ _ h1⟩, fun e => ⟨s _ _ (h.new e).1, (h.new e).2⟩, fun d e => by
    obtain ⟨w, as, D⟩ := h.desk d e
    exact ⟨w, as, D.same s⟩⟩
theorem SessAt.lst_at {H : Hp} {x l : Addr} {cs : List Addr} {st : Kp365.State} (h : SessAt C_Node C_Session H x l cs st) : ∃ xs, H l = some (.lst xs) := by
  cases st with
  | none => exact ⟨_, (h.new rfl).1⟩
  | some d =>
    obtain ⟨_, as, D⟩ := h.desk d rfl
    exact ⟨_, D.lst⟩
theorem SessAt.else_ {H : Hp} {x l t : Addr} {cs : List Addr} {st : Kp365.State} (h : SessAt C_Node C_Session H x l cs st) {xs ys : List V} (ht : H t = some (.lst xs)) (hl : t ≠ l) (hc : t ∉ cs) : SessAt C_Node C_Session (upd H t (.lst ys)) x l cs st := by
  obtain ⟨dx, h1⟩ := h.obj
  refine ⟨⟨dx, ?_⟩, fun e => ⟨?_, (h.new e).2⟩, fun d e => ?_⟩
  · rw [upd_ne (ne_of h1 ht fun e => by cases e)]
    exact h1
  · rw [upd_ne hl.symm]
    exact (h.new e).1
  · obtain ⟨w, as, D⟩ := h.desk d e
    exact ⟨w, as, D.else_ ht hl hc⟩
theorem ses_not_mem {H : Hp} {x l l' dx : Addr} {as cs : List Addr} {d : Desk} {st : Kp365.State} (h : DeskAt C_Node H l as cs d) (hx : H x = some (.ins C_Session dx (sesF st l'))) : x ∉ as := fun m => by
  obtain ⟨dx', n, c, e⟩ := h.some_at m
  rw [hx] at e
  have e1 := (HO.ins.inj (Option.some.inj e)).2.2
  have e2 : (("begun" : Str), V.bl st.isSome) = (("kind" : Str), V.int (n.kind : Int)) := (List.cons.inj e1).1
  have e3 := (Prod.mk.inj e2).2
  cases e3
theorem sesF_begun (st : Kp365.State) (l : Addr) : (sesF st l).lookup ("begun" : Str) = some (.bl st.isSome) := lk_here
theorem sesF_nodes (st : Kp365.State) (l : Addr) : (sesF st l).lookup ("nodes" : Str) = some (.ref l) := (lk_past (by decide +kernel)).trans lk_here
theorem sesF_put (st st' : Kp365.State) (l l' : Addr) : putF "nodes" (.ref l') (putF "begun" (.bl st'.isSome) (sesF st l)) = sesF st' l' := by
  have e1 : putF "begun" (.bl st'.isSome) (sesF st l) = sesF st' l := put_here
  rw [e1]
  exact (put_past (by decide +kernel)).trans (congrArg _ put_here)
theorem ok_Session_init {f : Addr} {fd : FuncData} (F : Fun K "__init__" "Session.__init__" s_Session_init f fd) (T : Txt K mg C_Node C_Session) : FnOk P w K mg base CX0 1 f fd ["self"] (sp_Session_init K C_Node C_Session) := by
  refine F.ok sc_Session_init (fun vs H Q E h => ?_) (fun cdv A outer s H vs Q E hr h => ?_)
  · obtain ⟨p, dx, rfl, _⟩ := h
    rfl
  · obtain ⟨p, dx, rfl, hp, q⟩ := h
    refine ⟨_, (pss_cons (ps_fld (pv 0) pe_bl rfl)
      (pss_one (ps_fld (pv 0) (pe_lst pa_nil) rfl))), ?_⟩
    refine ⟨_, rfl, p, C_Session, dx, [], rfl, hp, T.cl_Session, T.n_Session_begun, (by show 0 < 1000; decide), ?_⟩
    refine ⟨(by show 0 ≤ sizeLine; decide), fun l hl => ?_⟩
    have pl : p ≠ l := fun e => by
      rw [← e, upd_same] at hl
      cases hl
    have hl0 : H l = none := by rw [← hl, upd_ne pl.symm]
    refine ⟨_, rfl, p, C_Session, dx, _, rfl, (by rw [upd_ne pl]; exact upd_same), T.cl_Session, T.n_Session_nodes, (by show 1 < 1000; decide), ?_⟩
    refine q _ l hl0 ⟨⟨dx, Eq.trans upd_same (congrArg (fun q => some (HO.ins C_Session dx q)) ?_)⟩, fun _ => ⟨?_, rfl⟩, (fun d e => by cases e)⟩ fun b o e hb => ?_
    · exact (put_past (by decide +kernel)).trans rfl
    · rw [upd_ne pl.symm, upd_same]
    · rw [upd_ne hb, upd_ne (ne_of_none e hl0), upd_ne hb]
      exact e
theorem ok_begin {f : Addr} {fd : FuncData} (F : Fun K "begin" "begin" s_begin f fd) (T : Txt K mg C_Node C_Session) : FnOk P w K mg base CX0 1 f fd ["session"] (sp_begin K C_Node C_Session) := by
  refine F.ok sc_begin (fun vs H Q E h => ?_) (fun cdv A outer s H vs Q E hr h => ?_)
  · obtain ⟨x, l, cs, st, rfl, _⟩ := h
    rfl
  · obtain ⟨x, l, cs, st, rfl, hS, q⟩ := h
    obtain ⟨dx, hx⟩ := hS.obj
    refine ⟨_, (pss_cons (ps_fld (pv 0) pe_bl rfl)
      (pss_cons (ps_fld (pv 0) (pe_lst pa_nil) rfl)
      (pss_one (ps_ret (pe_lst (pa_cons pe_int pa_nil)))))), ?_⟩
    refine ⟨_, rfl, x, C_Session, dx, _, rfl, hx, T.cl_Session, T.n_Session_begun, (by show 2 < 1000; decide), ?_⟩
    refine ⟨(by show 0 ≤ sizeLine; decide), fun l' hl' => ?_⟩
    have xl : x ≠ l' := fun e => by
      rw [← e, upd_same] at hl'
      cases hl'
    have hl0 : H l' = none := by rw [← hl', upd_ne xl.symm]
    refine ⟨_, rfl, x, C_Session, dx, _, rfl, (by rw [upd_ne xl]; exact upd_same), T.cl_Session, T.n_Session_nodes, (by show 2 < 1000; decide), ?_⟩
    refine ⟨(by show 1 ≤ sizeLine; decide), fun p hp => ?_⟩
    have px : p ≠ x := fun e => by
      rw [e, upd_same] at hp
      cases hp
    have pl : p ≠ l' := fun e => by
      rw [e, upd_ne xl.symm, upd_same] at hp
      cases hp
    have hp0 : H p = none := by rw [← hp, upd_ne px, upd_ne pl, upd_ne px]
    refine q _ p l' hp0 hl0 upd_same ⟨⟨dx, ?_⟩, (fun e => by cases e), fun d e => ?_⟩ fun b o e ho => ?_
    · rw [upd_ne px.symm, upd_same]
      exact congrArg (fun q => some (HO.ins C_Session dx q)) (sesF_put st (some ⟨[]⟩) l l')
    · cases e
      refine ⟨wf_empty, [], ?_, List.nodup_nil, rfl, rfl, fun j a c n ha => by simp at ha⟩
      rw [upd_ne pl.symm, upd_ne xl.symm, upd_same]
      rfl
    · have bx : b ≠ x := fun z => by
        rw [z, hx] at e
        exact ho _ _ _ (Option.some.inj e).symm
      rw [upd_ne (ne_of_none e hp0), upd_ne bx, upd_ne (ne_of_none e hl0), upd_ne bx]
      exact e
end
end Dp

namespace Dp
open PySem PySem.Spec PyProof.Rows L2
open Kp365 (Desk Node nodeAt isTrue)
open Dm Ml
theorem vals_get {f : Nat → Nat} {n k : Nat} (h : k < n) : ((List.range n).map f).getD k 0 = f k := by
  rw [List.getD_eq_getElem?_getD, List.getElem?_map, List.getElem?_range h]
  rfl
theorem find_same {p q : Nat → Bool} : ∀ {l : List Nat}, (∀ x ∈ l, p x = q x) → l.find? p = l.find? q
  | [], _ => rfl
  | a :: l, h => by
    rw [List.find?_cons, List.find?_cons, h a (List.mem_cons_self ..), find_same fun x hx => h x (List.mem_cons_of_mem _ hx)]
theorem pick_find {d : Desk} (w : WF d) {i r : Nat} (lt : i < d.nodes.length) (k : ¬ (nodeAt d i).kind = 0) (hf : (nodeAt d i).kids.find? (fun c => held100 d c == held100 d i) = some r) :
    (nodeAt d i).kids.find? (fun c => ((List.range d.nodes.length).map (held100 d)).getD c 0 == pickV (nodeAt d i).kind ((nodeAt d i).kids.map fun k => ((List.range d.nodes.length).map (held100 d)).getD k 0)) = some r := by
  have i20 : i ≤ 20 := by
    have := w.len
    omega
  have ev : ∀ c ∈ (nodeAt d i).kids, ((List.range d.nodes.length).map (held100 d)).getD c 0 = held100 d c := fun c hc => vals_get (by have := w.down i c hc; omega)
  have em : ((nodeAt d i).kids.map fun k => ((List.range d.nodes.length).map (held100 d)).getD k 0) = (nodeAt d i).kids.map (held100 d) := List.map_congr_left ev
  have ep : pickV (nodeAt d i).kind ((nodeAt d i).kids.map (held100 d)) = held100 d i := (held_joint w i20 k).symm
  rw [em, ep, ← hf]
  exact find_same fun c hc => by rw [ev c hc]
section
variable {P : Program} {w : World} {K : PySem.W.Frag} {mg : Str → Option Value} {base : Heap} {C_Node C_Session : Addr}
theorem ok_picked_child {f : Addr} {fd : FuncData} (F : Fun K "picked_child" "picked_child" s_picked_child f fd) (T : Txt K mg C_Node C_Session) (D_picked_value : Def P w K mg base "picked_value" 1 ["node", "values"] (sp_picked_value K C_Node C_Session)) : FnOk P w K mg base CX0 2 f fd ["node", "values"] (sp_picked_child K C_Node C_Session) := by
  refine F.ok sc_picked_child (fun vs H Q E h => ?_) (fun cdv A outer s H vs Q E hr h => ?_)
  · obtain ⟨a, v, n, vals, r, rfl, _⟩ := h
    rfl
  · obtain ⟨a, v, n, vals, r, rfl, hN, hk, h1k, h4k, hv, hin, hle, hf, q⟩ := h
    obtain ⟨dx, c, h1, h2⟩ := hN.ex
    refine ⟨_, (pss_cons (ps_setLc (i := 2) (own := [("child", 3)]) (g := gName 3) (te := (tOp (rIxL K) (tVar 1) (tVar 3))) (tt := tYes) (by rfl) sc_picked_child.nd rfl rfl (sw_true rfl rfl rfl (by decide +kernel)) (pi_list (pe_fld (pv 0) rfl)) (blkOk_by (own := [("child", 3)]) (N := ["node", "values", "below", "child"]) (sc := defScope s_picked_child) (by decide +kernel)) (fun _ _ _ _ _ => pg_name (i := 3) sc_picked_child.nd rfl (Or.inl rfl)) (fun _ _ _ _ _ => pts_nil) (fun _ _ _ _ _ => (pe_ix ix_list (pv 1) (pv 3) (fun _ _ => rfl))))
      (pss_one (ps_ret (pe_ix ix_list (pe_fld (pv 0) rfl) (pe_bm PySem.F.plainAttrs_list PySem.F.slot_list_index PySem.F.type_list_index mt_index (pv 2) (pa_cons (pe_def D_picked_value (hr.mono (by decide)) (pa_cons (pv 0) (pa_cons (pv 1) pa_nil))) pa_nil)) (fun _ _ => rfl))))), ?_⟩
    refine ⟨_, rfl, a, C_Node, dx, _, _, rfl, h1, T.cl_Node, T.n_Node_children, nF_children _ _, c, rfl, ⟨_, SqL.of h2⟩, fun D hD => ?_⟩
    refine lc_list (K := K) (a := c) (xs := kidsV n) (fun i H' => Same H H' ∧ H' D = some (.lst ((up ((n.kids.take i).map fun k => vals.getD k 0)).map V.int))) ⟨same_new hD, upd_same⟩ (fun i H' _ ⟨s5, _⟩ => SqL.of (s5 _ _ h2)) ?_ ?_
    · rintro i y H' hi ⟨s5, h5⟩
      obtain ⟨k, hk', rfl⟩ := kidsV_at hi
      have lt := hin k (List.mem_of_getElem? hk')
      have ev : ((up vals).map V.int)[k]? = some (V.int ((vals.getD k 0 : Nat) : Int)) := by
        unfold up
        rw [List.map_map, List.getElem?_map, List.getElem?_eq_getElem lt, List.getD_eq_getElem?_getD, List.getElem?_eq_getElem lt]
        rfl
      refine ⟨rfl, _, rfl, _, rfl, v, _, _, _, rfl, rfl, SqL.of (s5 _ _ hv), atI_nat ev, _, h5, ?_, fun b o e => ?_, ?_⟩
      · rw [List.length_map, up_len, List.length_map, List.length_take]
        exact small1000 (by omega)
      · rw [upd_ne (ne_of_none e hD)]
        exact s5 b o e
      · rw [upd_same, take_more hk', List.map_append, up_append, List.map_append]
        rfl
    · rintro H1 ⟨s5, h5⟩
      have ek : (kidsV n).length = n.kids.length := List.length_map ..
      rw [ek, List.take_length] at h5
      obtain ⟨j, hj, hp, hb⟩ := find_at hf
      refine ⟨_, rfl, a, C_Node, dx, _, _, rfl, s5 _ _ h1, T.cl_Node, T.n_Node_children, nF_children _ _, ?_⟩
      refine ⟨_, rfl, .inl ⟨rfl, _, SqL.of h5⟩, ?_⟩
      refine ⟨_, rfl, _, rfl, a, v, n, vals, rfl, hN.same s5, hk, h1k, h4k, s5 _ _ hv, hin, hle, fun H2 s2 => ?_⟩
      refine ⟨D, _, _, j, V.int ((vals.getD r 0 : Nat) : Int), rfl, rfl, SqL.of (s2 _ _ h5), rfl, flat_ints _, ?_, ?_, fun m z' hm hz => ?_, ?_⟩
      · unfold up
        rw [List.map_map, List.map_map, List.getElem?_map, hj]
        rfl
      · show (((vals.getD r 0 : Nat) : Int) == (_ : Int)) = true
        rw [eq_of_beq hp]
        exact beq_self_eq_true _
      · obtain ⟨k, hk', rfl⟩ := upV_at hz
        rw [List.getElem?_map] at hk'
        cases e : n.kids[m]? with
        | none =>
          rw [e] at hk'
          cases hk'
        | some c' =>
          rw [e] at hk'
          have ec : vals.getD c' 0 = k := Option.some.inj hk'
          have ne := hb m c' hm e
          rw [ec] at ne
          show ((k : Int) == (_ : Int)) = false
          have ne2 : ¬ k = pickV n.kind (n.kids.map fun k => vals.getD k 0) := fun z => by
            rw [z, beq_self_eq_true] at ne
            cases ne
          cases z : ((k : Int) == ((pickV n.kind (n.kids.map fun k => vals.getD k 0) : Nat) : Int)) with
          | false => rfl
          | true =>
            have := eq_of_beq z
            exact absurd (by omega) ne2
      · exact ⟨c, _, _, _, rfl, rfl, SqL.of (s2 _ _ (s5 _ _ h2)), kids_get hj, q H2 (s5.trans s2)⟩
theorem ok_tell_pick {f : Addr} {fd : FuncData} (F : Fun K "tell_pick" "tell_pick" s_tell_pick f fd) (T : Txt K mg C_Node C_Session) (D_picked_child : Def P w K mg base "picked_child" 2 ["node", "values"] (sp_picked_child K C_Node C_Session)) (D_held_hundredths : Def P w K mg base "held_hundredths" 2 ["nodes"] (sp_held_hundredths K C_Node C_Session)) : FnOk P w K mg base CX0 3 f fd ["nodes", "i"] (sp_tell_pick K C_Node C_Session) := by
  refine F.ok sc_tell_pick (fun vs H Q E h => ?_) (fun cdv A outer s H vs Q E hr h => ?_)
  · obtain ⟨l, d, i, rfl, _⟩ := h
    rfl
  · obtain ⟨l, d, i, rfl, as, cs, hD, hW, q⟩ := h
    have el : (as.map V.ref).length = d.nodes.length := by rw [List.length_map, hD.len]
    refine ⟨_, (pss_cons (ps_if (pt_cmpR op_ge (pv 1) (pe_callB call_len_seq (by rfl) T.b_len (by decide +kernel) (pa_cons (pv 0) pa_nil)) (nomark _)) (pss_one (ps_ret (pe_lst (pa_cons (pgl T.c_NO_NODE) pa_nil)))) pss_nil)
      (pss_cons (ps_if (pt_cmpR op_eq (pe_fld (pe_ix ix_list (pv 0) (pv 1) (fun _ _ => rfl)) rfl) (pgl T.c_LEAF) (nomark _)) (pss_one (ps_ret (pe_lst (pa_cons (pgl T.c_UNFIT) pa_nil)))) pss_nil)
      (pss_one (ps_ret (pe_lst (pa_cons (pe_def D_picked_child (hr.mono (by decide)) (pa_cons (pe_ix ix_list (pv 0) (pv 1) (fun _ _ => rfl)) (pa_cons (pe_def D_held_hundredths (hr.mono (by decide)) (pa_cons (pv 0) pa_nil)) pa_nil))) pa_nil)))))), ?_⟩
    refine ⟨_, rfl, _, rfl, l, _, rfl, .inl (SqL.of hD.lst), _, _, rfl, rfl, _, rfl, if_dec (fun z => ?_) (fun z => ?_)⟩
    · rw [el] at z
      rw [of_no (c := .pick i) rfl (by omega)] at q
      exact ⟨(by show 1 ≤ sizeLine; decide), fun p hp => q _ p (same_new hp) hp upd_same⟩
    · rw [el] at z
      have lt : i < d.nodes.length := by omega
      have i20 : i ≤ 20 := by
        have := hW.len
        omega
      obtain ⟨a, ha, hN⟩ := hD.get lt
      obtain ⟨dx, c, h1, h2⟩ := hN.ex
      refine ⟨_, rfl, _, rfl, l, _, _, _, rfl, rfl, SqL.of hD.lst, refs_at ha, a, C_Node, dx, _, _, rfl, h1, T.cl_Node, T.n_Node_kind, nF_kind _ _, rfl, _, rfl, if_dec (fun z => ?_) (fun z => ?_)⟩
      · have k : (nodeAt d i).kind = 0 := by
          have := V.int.inj z
          omega
        rw [pick_leafA lt k] at q
        exact ⟨(by show 1 ≤ sizeLine; decide), fun p hp => q _ p (same_new hp) hp upd_same⟩
      · have k : ¬ (nodeAt d i).kind = 0 := fun e => z (congrArg V.int (by rw [e]; rfl))
        obtain ⟨r, e, hm, hf⟩ := pick_joint hW i20 k
        rw [pick_jointA lt e] at q
        have o := hW.at_ i
        refine ⟨_, rfl, _, rfl, l, _, _, _, rfl, rfl, SqL.of hD.lst, refs_at ha, ?_⟩
        refine ⟨_, rfl, l, d, rfl, as, cs, hD, hW, fun H1 t s1 ht h1' => ?_⟩
        refine ⟨a, t, nodeAt d i, (List.range d.nodes.length).map (held100 d), r, rfl, hN.same s1, by have := o.kind; omega, o.joint k, o.few, h1', fun j hj => ?_, fun x hx => ?_, pick_find hW lt k hf, fun H2 s2 => ?_⟩
        · rw [List.length_map, List.length_range]
          have := o.kids j hj
          omega
        · obtain ⟨j, _, rfl⟩ := List.mem_map.mp hx
          exact held100_le hW.mild j
        · have s := s1.trans s2
          exact ⟨(by show 1 ≤ sizeLine; decide), fun p hp => q _ p (s.trans (same_new hp)) (s.free hp) upd_same⟩
theorem ok_tell_way {f : Addr} {fd : FuncData} (F : Fun K "tell_way" "tell_way" s_tell_way f fd) (T : Txt K mg C_Node C_Session) (D_picked_child : Def P w K mg base "picked_child" 2 ["node", "values"] (sp_picked_child K C_Node C_Session)) (D_held_hundredths : Def P w K mg base "held_hundredths" 2 ["nodes"] (sp_held_hundredths K C_Node C_Session)) : FnOk P w K mg base CX0 3 f fd ["nodes", "i"] (sp_tell_way K C_Node C_Session) := by
  refine F.ok sc_tell_way (fun vs H Q E h => ?_) (fun cdv A outer s H vs Q E hr h => ?_)
  · obtain ⟨l, d, i, rfl, _⟩ := h
    rfl
  · obtain ⟨l, d, i, rfl, as, cs, hD, hW, q⟩ := h
    have el : (as.map V.ref).length = d.nodes.length := by rw [List.length_map, hD.len]
    refine ⟨_, (pss_cons (ps_if (pt_cmpR op_ge (pv 1) (pe_callB call_len_seq (by rfl) T.b_len (by decide +kernel) (pa_cons (pv 0) pa_nil)) (nomark _)) (pss_one (ps_ret (pe_lst (pa_cons (pgl T.c_NO_NODE) pa_nil)))) pss_nil)
      (pss_cons (ps_set (i := 2) sc_tell_way.nd rfl (Or.inl rfl) (pe_def D_held_hundredths (hr.mono (by decide)) (pa_cons (pv 0) pa_nil)))
      (pss_cons (ps_set (i := 3) sc_tell_way.nd rfl (Or.inl rfl) (pe_lst (pa_cons (pv 1) pa_nil)))
      (pss_cons (ps_set (i := 4) sc_tell_way.nd rfl (Or.inl rfl) (pv 1))
      (pss_cons (ps_while PassesOwn.never (pt_cmpR op_ne (pe_fld (pe_ix ix_list (pv 0) (pv 4) (fun _ _ => rfl)) rfl) (pgl T.c_LEAF) (nomark _)) (pss_cons (ps_set (i := 4) sc_tell_way.nd rfl (Or.inl rfl) (pe_def D_picked_child (hr.mono (by decide)) (pa_cons (pe_ix ix_list (pv 0) (pv 4) (fun _ _ => rfl)) (pa_cons (pv 2) pa_nil))))
      (pss_one (ps_expr (pe_bm PySem.F.plainAttrs_list PySem.F.slot_list_append PySem.F.type_list_append mt_append (pv 3) (pa_cons (pv 4) pa_nil))))))
      (pss_one (ps_ret (pe_op op_cat (pe_lst (pa_cons (pe_callB call_len_seq (by rfl) T.b_len (by decide +kernel) (pa_cons (pv 3) pa_nil)) pa_nil)) (pv 3))))))))), ?_⟩
    refine ⟨_, rfl, _, rfl, l, _, rfl, .inl (SqL.of hD.lst), _, _, rfl, rfl, _, rfl, if_dec (fun z => ?_) (fun z => ?_)⟩
    · rw [el] at z
      rw [of_no (c := .way i) rfl (by omega)] at q
      exact ⟨(by show 1 ≤ sizeLine; decide), fun p hp => q _ p (same_new hp) hp upd_same⟩
    · rw [el] at z
      have lt : i < d.nodes.length := by omega
      have n20 := hW.len
      have wl := way_len hW i (by omega)
      rw [way_A lt] at q
      refine ⟨_, rfl, l, d, rfl, as, cs, hD, hW, fun H1 t s1 ht h1 => ?_⟩
      refine ⟨_, rfl, (by show 1 ≤ sizeLine; decide), fun y hy => ?_⟩
      refine ⟨_, rfl, ?_⟩
      refine while_by (fun σ H' => ∃ (x : Nat) (ws : List Nat), σ = [some (.ref l), some (.int (i : Int)), some (.ref t), some (.ref y), some (.int (x : Int))] ∧ x < d.nodes.length ∧ Same H1 H' ∧ H' y = some (.lst ((up ws).map V.int)) ∧ ws ++ (wayD d x).tail = wayD d i)
        (fun σ _ => slotN σ 4) ⟨i, [i], rfl, lt, same_new hy, upd_same, (wayD_cons i).symm⟩ ?_
        (fun σ H Q Q' m ⟨v, h1, v', h2, p, xs, i, u, h3, h4, h5, h6, a, C, dx, fs, w, g1, g2, g3, g4, g5, g6, k, g7, g8⟩ => ⟨v, h1, v', h2, p, xs, i, u, h3, h4, h5, h6, a, C, dx, fs, w, g1, g2, g3, g4, g5, g6, k, g7, m _ _ g8⟩)
      rintro σ H' ⟨x, ws, rfl, xl, s5, h5, e5⟩
      have hD' := (hD.same s1).same s5
      obtain ⟨a, ha, hN⟩ := hD'.get xl
      obtain ⟨dx, c, g1, g2⟩ := hN.ex
      refine ⟨_, rfl, _, rfl, l, _, _, _, rfl, rfl, SqL.of hD'.lst, refs_at ha, a, C_Node, dx, _, _, rfl, g1, T.cl_Node, T.n_Node_kind, nF_kind _ _, rfl, _, rfl, ?_⟩
      by_cases k : (nodeAt d x).kind = 0
      · refine if_false_of (by rw [k]; rfl) ?_
        rw [wayD_leaf k] at e5
        have e6 : ws = wayD d i := by rw [← e5]; exact (List.append_nil _).symm
        subst e6
        refine ⟨_, rfl, y, _, rfl, .inl (SqL.of h5), (by show 1 ≤ sizeLine; decide), fun z0 hz0 => ?_⟩
        have s6 := s5.trans (same_new (o := .lst [V.int (((up (wayD d i)).map V.int).length : Nat)]) hz0)
        refine ⟨_, rfl, z0, y, _, _, rfl, rfl, upd_same, same_new hz0 _ _ h5, ?_, fun p hp => ?_⟩
        · show 1 + _ ≤ sizeLine
          rw [List.length_map, up_len]
          exact Nat.le_of_lt (small1000 (by omega))
        · have s7 := (s1.trans s6)
          refine q _ p (s7.trans (same_new hp)) (s7.free hp) ?_
          rw [upd_same, List.length_map, up_len]
          rfl
      · refine if_true_of ?_ ?_
        · have e : decide (V.int ((nodeAt d x).kind : Int) = V.int 0) = false := decide_eq_false fun z => k (by have := V.int.inj z; omega)
          rw [e]
          rfl
        have x20 : x ≤ 20 := by omega
        obtain ⟨r, e, hm, hf⟩ := pick_joint hW x20 k
        have o := hW.at_ x
        have rx := o.kids r hm
        refine ⟨_, rfl, _, rfl, l, _, _, _, rfl, rfl, SqL.of hD'.lst, refs_at ha, _, rfl, ?_⟩
        refine ⟨a, t, nodeAt d x, (List.range d.nodes.length).map (held100 d), r, rfl, hN, by have := o.kind; omega, o.joint k, o.few, s5 _ _ h1, fun j hj => ?_, fun v hv => ?_, pick_find hW xl k hf, fun H2 s2 => ?_⟩
        · rw [List.length_map, List.length_range]
          have := o.kids j hj
          omega
        · obtain ⟨j, _, rfl⟩ := List.mem_map.mp hv
          exact held100_le hW.mild j
        · have wc : ws.length ≤ 21 := by
            have := congrArg List.length e5
            rw [List.length_append] at this
            omega
          refine ⟨_, rfl, .inl ⟨rfl, _, SqL.of (s2 _ _ h5)⟩, _, rfl, y, _, _, rfl, rfl, s2 _ _ h5, ?_, ⟨r, ws ++ [r], rfl, by omega, fun b o e => ?_, ?_, ?_⟩, ?_⟩
          · rw [List.length_map, up_len]
            exact small1000 (by omega)
          · rw [upd_ne (ne_of_none e hy)]
            exact s2 _ _ (s5 b o e)
          · rw [upd_same, up_append, List.map_append]
            rfl
          · rw [wayD_joint hW x20 e] at e5
            rw [List.append_assoc]
            show ws ++ (r :: (wayD d r).tail) = _
            rw [← wayD_cons]
            exact e5
          · show r < x
            exact rx
end
end Dp

namespace Dp
open PySem PySem.Spec PyProof.Rows L2
open Kp365 (Desk Node nodeAt isTrue)
open Dm Ml
theorem okPicks_no {d : Desk} {kind : Nat} {row : List Nat} (h : ¬ (row.length = d.nodes.length ∧ ∀ j, j < row.length → (if (nodeAt d j).kind = kind then row.getD j 0 < (nodeAt d j).kids.length else row.getD j 0 = 0))) : Kp365.okPicks d kind row = false := by
  cases e : Kp365.okPicks d kind row with
  | false => rfl
  | true => exact absurd (okPicks_iff.mp e) h
theorem getD_at {l : List Nat} {i : Nat} (h : i < l.length) : l[i]? = some (l.getD i 0) := by
  rw [List.getD_eq_getElem?_getD, List.getElem?_eq_getElem h]
  rfl
theorem range_more {f : Nat → Nat} {i z : Nat} (e : z = f i) : (up ((List.range i).map f)).map V.int ++ [V.int (z : Int)] = (up ((List.range (i + 1)).map f)).map V.int := by
  rw [e, List.range_succ, List.map_append, up_append, List.map_append]
  rfl
theorem range_small {f : Nat → Nat} {i : Nat} (h : i ≤ 20) : ((up ((List.range i).map f)).map V.int).length < sizeLine := by
  rw [List.length_map, up_len, List.length_map, List.length_range]
  exact small1000 (by omega)
theorem by_leaf {d : Desk} (w : WF d) {kind : Nat} {row : List Nat} {i : Nat} (hi : i ≤ 20) (k : (nodeAt d i).kind = 0) : ofLeaf100 (nodeAt d i) = by100 d kind row i := by
  rw [by100_at w.down hi, if_pos k]
  exact (held_leaf w hi k).symm
theorem by_told {d : Desk} (w : WF d) {kind : Nat} {row : List Nat} {i : Nat} (hi : i ≤ 20) (k : ¬ (nodeAt d i).kind = 0) (kk : (nodeAt d i).kind = kind) {c : Nat} (hc : (nodeAt d i).kids[row.getD i 0]? = some c) : by100 d kind row c = by100 d kind row i := by
  rw [by100_at w.down hi, if_neg k, if_pos kk, List.getD_eq_getElem?_getD, List.getElem?_map, hc]
  rfl
theorem by_else {d : Desk} (w : WF d) {kind : Nat} {row : List Nat} {i : Nat} (hi : i ≤ 20) (k : ¬ (nodeAt d i).kind = 0) (kk : ¬ (nodeAt d i).kind = kind) : pickV (nodeAt d i).kind ((nodeAt d i).kids.map fun k => ((List.range i).map (by100 d kind row)).getD k 0) = by100 d kind row i := by
  rw [kids_vals w, by100_at w.down hi, if_neg k, if_neg kk]
  rfl
section
variable {P : Program} {w : World} {K : PySem.W.Frag} {mg : Str → Option Value} {base : Heap} {C_Node C_Session : Addr}
theorem ok_are_picks {f : Addr} {fd : FuncData} (F : Fun K "are_picks" "are_picks" s_are_picks f fd) (T : Txt K mg C_Node C_Session) : FnOk P w K mg base CX0 1 f fd ["nodes", "kind", "row"] (sp_are_picks K C_Node C_Session) := by
  refine F.ok sc_are_picks (fun vs H Q E h => ?_) (fun cdv A outer s H vs Q E hr h => ?_)
  · obtain ⟨l, r, as, cs, d, kind, row, rfl, _⟩ := h
    rfl
  · obtain ⟨l, r, as, cs, d, kind, row, rfl, hD, hW, hrow, q⟩ := h
    have el : (as.map V.ref).length = d.nodes.length := by rw [List.length_map, hD.len]
    have er : ((up row).map V.int).length = row.length := by rw [List.length_map, up_len]
    refine ⟨_, (pss_cons (ps_if (pt_cmpR op_ne (pe_callB call_len_seq (by rfl) T.b_len (by decide +kernel) (pa_cons (pv 2) pa_nil)) (pe_callB call_len_seq (by rfl) T.b_len (by decide +kernel) (pa_cons (pv 0) pa_nil)) (nomark _)) (pss_one (ps_ret pe_bl)) pss_nil)
      (pss_cons (ps_for PassesOwn.never rfl (pi_enum (by rfl) T.b_enumerate (pa_cons (pv 0) pa_nil)) (pg_tup rfl (pgs_cons (pg_name (i := 3) sc_are_picks.nd rfl (Or.inl rfl)) (pgs_cons (pg_name (i := 4) sc_are_picks.nd rfl (Or.inl rfl)) pgs_nil))) (pss_cons (ps_set (i := 5) sc_are_picks.nd rfl (Or.inl rfl) (pe_ifExp (pt_cmpR op_eq (pe_fld (pv 4) rfl) (pv 1) (nomark _)) (pe_callB call_len_seq (by rfl) T.b_len (by decide +kernel) (pa_cons (pe_fld (pv 4) rfl) pa_nil)) pe_int))
      (pss_one (ps_if (pt_cmpR op_ge (pe_ix ix_list (pv 2) (pv 3) (fun _ _ => rfl)) (pv 5) (nomark _)) (pss_one (ps_ret pe_bl)) pss_nil))))
      (pss_one (ps_ret pe_bl)))), ?_⟩
    refine ⟨_, rfl, r, _, rfl, .inl (SqL.of hrow), _, rfl, l, _, rfl, .inl (SqL.of hD.lst), rfl, _, rfl, ?_⟩
    rw [el, er]
    by_cases ln : row.length = d.nodes.length
    case neg =>
      refine if_true_of ?_ ?_
      · have e : decide (V.int (row.length : Int) = V.int (d.nodes.length : Int)) = false := decide_eq_false fun z => ln (by have := V.int.inj z; omega)
        rw [e]
        rfl
      · rw [okPicks_no (fun z => ln z.1)] at q
        exact q H (Same.refl H)
    refine if_false_of (by rw [ln]; simp) ?_
    refine ⟨_, rfl, l, _, rfl, SqL.of hD.lst, for_it (walk_enum (K := K) (a := l) (xs := as.map V.ref)) (fun i σ H' => ∃ v3 v4 v5 : Option V, σ = [some (.ref l), some (.int (kind : Int)), some (.ref r), v3, v4, v5] ∧ Same H H' ∧ ∀ j, j < i → (if (nodeAt d j).kind = kind then row.getD j 0 < (nodeAt d j).kids.length else row.getD j 0 = 0))
      ⟨none, none, none, rfl, Same.refl H, fun j hj => absurd hj (Nat.not_lt_zero _)⟩ (fun i σ H' _ ⟨_, _, _, _, s5, _⟩ => SqL.of (s5 _ _ hD.lst)) ?_ ?_⟩
    · rintro i v σ H1 H2 _ ⟨v3, v4, v5, rfl, s5, h5⟩ hy
      obtain ⟨y, a, rfl, ht, rfl, lt, hN⟩ := (hD.same s5).turnE hy
      have s6 := s5.trans (same_new (o := .tup [V.int (i : Int), V.ref a]) ht)
      have hN' := hN.same (same_new (o := .tup [V.int (i : Int), V.ref a]) ht)
      obtain ⟨dx, c, h1, h2⟩ := hN'.ex
      refine ⟨y, _, rfl, SqT.of upd_same, rfl, _, _, rfl, _, _, rfl, rfl, ?_⟩
      refine ⟨_, rfl, a, C_Node, dx, _, _, rfl, h1, T.cl_Node, T.n_Node_kind, nF_kind _ _, _, rfl, rfl, _, rfl, if_dec (fun z => ?_) (fun z => ?_)⟩
      · have kk : (nodeAt d i).kind = kind := by
          have := V.int.inj z
          omega
        have ek : (kidsV (nodeAt d i)).length = (nodeAt d i).kids.length := List.length_map ..
        refine ⟨_, rfl, a, C_Node, dx, _, _, rfl, h1, T.cl_Node, T.n_Node_children, nF_children _ _, c, _, rfl, .inl (SqL.of h2), ?_⟩
        rw [ek]
        refine ⟨_, rfl, _, rfl, r, _, _, _, rfl, rfl, SqL.of (s6 _ _ hrow), up_get (getD_at (by omega)), _, rfl, _, _, rfl, rfl, _, rfl, if_dec (fun z => ?_) (fun z => ?_)⟩
        · rw [okPicks_no (fun b => by have := b.2 i (by omega); rw [if_pos kk] at this; omega)] at q
          exact q _ s6
        · refine ⟨_, _, _, rfl, s6, fun j hj => ?_⟩
          by_cases e : j = i
          · subst e
            rw [if_pos kk]
            omega
          · exact h5 j (by omega)
      · have kk : ¬ (nodeAt d i).kind = kind := fun e => z (congrArg V.int (by rw [e]))
        refine ⟨_, rfl, _, rfl, r, _, _, _, rfl, rfl, SqL.of (s6 _ _ hrow), up_get (getD_at (by omega)), _, rfl, _, _, rfl, rfl, _, rfl, if_dec (fun z => ?_) (fun z => ?_)⟩
        · rw [okPicks_no (fun b => by have := b.2 i (by omega); rw [if_neg kk] at this; omega)] at q
          exact q _ s6
        · refine ⟨_, _, _, rfl, s6, fun j hj => ?_⟩
          by_cases e : j = i
          · subst e
            rw [if_neg kk]
            omega
          · exact h5 j (by omega)
    · rintro σ H' ⟨_, _, _, rfl, s5, h5⟩
      rw [el, ← ln] at h5
      rw [okPicks_iff.mpr ⟨ln, h5⟩] at q
      exact q H' s5
theorem ok_held_by_told_picks {f : Addr} {fd : FuncData} (F : Fun K "held_by_told_picks" "held_by_told_picks" s_held_by_told_picks f fd) (T : Txt K mg C_Node C_Session) (D_read_as_so : Def P w K mg base "read_as_so" 1 ["leaf"] (sp_read_as_so K C_Node C_Session)) (D_picked_value : Def P w K mg base "picked_value" 1 ["node", "values"] (sp_picked_value K C_Node C_Session)) : FnOk P w K mg base CX0 2 f fd ["nodes", "kind", "row"] (sp_held_by_told_picks K C_Node C_Session) := by
  refine F.ok sc_held_by_told_picks (fun vs H Q E h => ?_) (fun cdv A outer s H vs Q E hr h => ?_)
  · obtain ⟨l, r, d, kind, row, rfl, _⟩ := h
    rfl
  · obtain ⟨l, r, d, kind, row, rfl, hkk, hrow, hok, as, cs, hD, hW, q⟩ := h
    have el : (as.map V.ref).length = d.nodes.length := by rw [List.length_map, hD.len]
    obtain ⟨ln, hp⟩ := okPicks_iff.mp hok
    refine ⟨_, (pss_cons (ps_set (i := 3) sc_held_by_told_picks.nd rfl (Or.inl rfl) (pe_lst pa_nil))
      (pss_cons (ps_for PassesOwn.never rfl (pi_enum (by rfl) T.b_enumerate (pa_cons (pv 0) pa_nil)) (pg_tup rfl (pgs_cons (pg_name (i := 4) sc_held_by_told_picks.nd rfl (Or.inl rfl)) (pgs_cons (pg_name (i := 5) sc_held_by_told_picks.nd rfl (Or.inl rfl)) pgs_nil))) (pss_one (ps_if (pt_cmpR op_eq (pe_fld (pv 5) rfl) (pgl T.c_LEAF) (nomark _)) (pss_one (ps_expr (pe_bm PySem.F.plainAttrs_list PySem.F.slot_list_append PySem.F.type_list_append mt_append (pv 3) (pa_cons (pe_def D_read_as_so (hr.mono (by decide)) (pa_cons (pv 5) pa_nil)) pa_nil)))) (pss_one (ps_if (pt_cmpR op_eq (pe_fld (pv 5) rfl) (pv 1) (nomark _)) (pss_one (ps_expr (pe_bm PySem.F.plainAttrs_list PySem.F.slot_list_append PySem.F.type_list_append mt_append (pv 3) (pa_cons (pe_ix ix_list (pv 3) (pe_ix ix_list (pe_fld (pv 5) rfl) (pe_ix ix_list (pv 2) (pv 4) (fun _ _ => rfl)) (fun _ _ => rfl)) (fun _ _ => rfl)) pa_nil)))) (pss_one (ps_expr (pe_bm PySem.F.plainAttrs_list PySem.F.slot_list_append PySem.F.type_list_append mt_append (pv 3) (pa_cons (pe_def D_picked_value (hr.mono (by decide)) (pa_cons (pv 5) (pa_cons (pv 3) pa_nil))) pa_nil)))))))))
      (pss_one (ps_ret (pv 3))))), ?_⟩
    refine ⟨(by show 0 ≤ sizeLine; decide), fun t ht => ?_⟩
    refine ⟨_, rfl, l, _, rfl, SqL.of ((same_new ht) _ _ hD.lst), for_it (walk_enum (K := K) (a := l) (xs := as.map V.ref)) (fun i σ H' => ∃ v4 v5 : Option V, σ = [some (.ref l), some (.int (kind : Int)), some (.ref r), some (.ref t), v4, v5] ∧ Same H H' ∧ H' t = some (.lst ((up ((List.range i).map (by100 d kind row))).map V.int)))
      ⟨none, none, rfl, same_new ht, upd_same⟩ (fun i σ H' _ ⟨_, _, _, s5, _⟩ => SqL.of (s5 _ _ hD.lst)) ?_ ?_⟩
    · rintro i v σ H1 H2 _ ⟨v4, v5, rfl, s5, h5⟩ hy
      obtain ⟨y, a, rfl, hty, rfl, lt, hN⟩ := (hD.same s5).turnE hy
      have s6 := s5.trans (same_new (o := .tup [V.int (i : Int), V.ref a]) hty)
      have h6 := same_new (o := .tup [V.int (i : Int), V.ref a]) hty _ _ h5
      have hN' := hN.same (same_new (o := .tup [V.int (i : Int), V.ref a]) hty)
      obtain ⟨dx, c, h1, h2⟩ := hN'.ex
      have i20 : i ≤ 20 := by
        have := hW.len
        omega
      have o := hW.at_ i
      refine ⟨y, _, rfl, SqT.of upd_same, rfl, _, _, rfl, _, _, rfl, rfl, ?_⟩
      refine ⟨_, rfl, a, C_Node, dx, _, _, rfl, h1, T.cl_Node, T.n_Node_kind, nF_kind _ _, rfl, _, rfl, if_dec (fun z => ?_) (fun z => ?_)⟩
      · have k : (nodeAt d i).kind = 0 := by
          have := V.int.inj z
          omega
        refine ⟨_, rfl, .inl ⟨rfl, _, SqL.of h6⟩, _, rfl, a, nodeAt d i, rfl, hN', o.wrong, t, _, _, rfl, rfl, h6, range_small i20, ?_⟩
        refine ⟨_, _, rfl, fun b o e => ?_, ?_⟩
        · rw [upd_ne (ne_of_none e ht)]
          exact s6 b o e
        · rw [upd_same, range_more (by_leaf hW i20 k)]
      · have k : ¬ (nodeAt d i).kind = 0 := fun e => z (congrArg V.int (by rw [e]; rfl))
        refine ⟨_, rfl, a, C_Node, dx, _, _, rfl, h1, T.cl_Node, T.n_Node_kind, nF_kind _ _, _, rfl, rfl, _, rfl, if_dec (fun z => ?_) (fun z => ?_)⟩
        · have kk : (nodeAt d i).kind = kind := by
            have := V.int.inj z
            omega
          have pl := hp i (by omega)
          rw [if_pos kk] at pl
          have hc := getD_at pl
          have lc := o.kids _ (List.mem_of_getElem? hc)
          refine ⟨_, rfl, .inl ⟨rfl, _, SqL.of h6⟩, _, rfl, _, rfl, a, C_Node, dx, _, _, rfl, h1, T.cl_Node, T.n_Node_children, nF_children _ _, _, rfl, _, rfl, r, _, _, _, rfl, rfl, SqL.of (s6 _ _ hrow), up_get (getD_at (by omega)), c, _, _, _, rfl, rfl, SqL.of h2, kids_get hc, t, _, _, _, rfl, rfl, SqL.of h6, range_at lc, t, _, _, rfl, rfl, h6, range_small i20, ?_⟩
          refine ⟨_, _, rfl, fun b o e => ?_, ?_⟩
          · rw [upd_ne (ne_of_none e ht)]
            exact s6 b o e
          · rw [upd_same, range_more (by_told hW i20 k kk hc)]
        · have kk : ¬ (nodeAt d i).kind = kind := fun e => z (congrArg V.int (by rw [e]))
          refine ⟨_, rfl, .inl ⟨rfl, _, SqL.of h6⟩, _, rfl, _, rfl, a, t, nodeAt d i, (List.range i).map (by100 d kind row), rfl, hN', by have := o.kind; omega, o.joint k, o.few, h6, fun j hj => ?_, fun x hx => ?_, fun H3 s3 => ?_⟩
          · rw [List.length_map, List.length_range]
            exact o.kids j hj
          · obtain ⟨j, _, rfl⟩ := List.mem_map.mp hx
            exact by100_le hW.mild kind row j
          · refine ⟨t, _, _, rfl, rfl, s3 _ _ h6, range_small i20, ?_⟩
            refine ⟨_, _, rfl, fun b o e => ?_, ?_⟩
            · rw [upd_ne (ne_of_none e ht)]
              exact s3 _ _ (s6 b o e)
            · rw [upd_same, range_more (by_else hW i20 k kk)]
    · rintro σ H' ⟨_, _, rfl, s5, h5⟩
      rw [el] at h5
      exact ⟨_, rfl, q H' t s5 ht h5⟩
theorem ok_tell_by_told_picks {f : Addr} {fd : FuncData} (F : Fun K "tell_by_told_picks" "tell_by_told_picks" s_tell_by_told_picks f fd) (T : Txt K mg C_Node C_Session) (D_fraction : Def P w K mg base "fraction" 2 ["hundredths"] (sp_fraction K C_Node C_Session)) (D_held_by_told_picks : Def P w K mg base "held_by_told_picks" 2 ["nodes", "kind", "row"] (sp_held_by_told_picks K C_Node C_Session)) (D_are_picks : Def P w K mg base "are_picks" 1 ["nodes", "kind", "row"] (sp_are_picks K C_Node C_Session)) : FnOk P w K mg base CX0 3 f fd ["nodes", "kind", "i", "row"] (sp_tell_by_told_picks K C_Node C_Session) := by
  refine F.ok sc_tell_by_told_picks (fun vs H Q E h => ?_) (fun cdv A outer s H vs Q E hr h => ?_)
  · obtain ⟨l, r, d, kind, i, row, rfl, _⟩ := h
    rfl
  · obtain ⟨l, r, d, kind, i, row, rfl, hk, hrow, as, cs, hD, hW, q⟩ := h
    have el : (as.map V.ref).length = d.nodes.length := by rw [List.length_map, hD.len]
    refine ⟨_, (pss_cons (ps_if (pt_cmpR op_ge (pv 2) (pe_callB call_len_seq (by rfl) T.b_len (by decide +kernel) (pa_cons (pv 0) pa_nil)) (nomark _)) (pss_one (ps_ret (pe_lst (pa_cons (pgl T.c_NO_NODE) pa_nil)))) pss_nil)
      (pss_cons (ps_if (pt_not (pt_val (pe_def D_are_picks (hr.mono (by decide)) (pa_cons (pv 0) (pa_cons (pv 1) (pa_cons (pv 3) pa_nil)))))) (pss_one (ps_ret (pe_lst (pa_cons (pgl T.c_BAD_NUMBERS) pa_nil)))) pss_nil)
      (pss_one (ps_ret (pe_op op_cat (pe_lst (pa_cons pe_int pa_nil)) (pe_def D_fraction (hr.mono (by decide)) (pa_cons (pe_ix ix_list (pe_def D_held_by_told_picks (hr.mono (by decide)) (pa_cons (pv 0) (pa_cons (pv 1) (pa_cons (pv 3) pa_nil)))) (pv 2) (fun _ _ => rfl)) pa_nil))))))), ?_⟩
    refine ⟨_, rfl, _, rfl, l, _, rfl, .inl (SqL.of hD.lst), _, _, rfl, rfl, _, rfl, if_dec (fun z => ?_) (fun z => ?_)⟩
    · rw [el] at z
      rw [by_no hk (by omega)] at q
      exact ⟨(by show 1 ≤ sizeLine; decide), fun p hp => q _ p (same_new hp) hp upd_same⟩
    · rw [el] at z
      have lt : i < d.nodes.length := by omega
      refine ⟨_, rfl, _, rfl, _, rfl, l, r, as, cs, d, kind, row, rfl, hD, hW, hrow, fun H1 s1 => ⟨_, rfl, ?_⟩⟩
      cases e : Kp365.okPicks d kind row with
      | false =>
        rw [by_bad hk lt e] at q
        exact if_true_of rfl ⟨(by show 1 ≤ sizeLine; decide), fun p hp => q _ p (s1.trans (same_new hp)) (s1.free hp) upd_same⟩
      | true =>
        rw [by_ok hW.mild hk lt e] at q
        refine if_false_of rfl ⟨(by show 1 ≤ sizeLine; decide), fun z0 hz0 => ?_⟩
        have s2 := s1.trans (same_new (o := .lst [V.int 0]) hz0)
        refine ⟨_, rfl, _, rfl, _, rfl, l, r, d, kind, row, rfl, hk, s2 _ _ hrow, e, as, cs, hD.same s2, hW, fun H3 t s3 ht h3 => ?_⟩
        refine ⟨_, rfl, t, _, _, _, rfl, rfl, SqL.of h3, range_at lt, by100 d kind row i, rfl, by100_le hW.mild kind row i, fun H4 t2 s4 ht2 h4 => ?_⟩
        refine ⟨z0, t2, _, _, rfl, rfl, s4 _ _ (s3 _ _ upd_same), h4, (by show 1 + 2 ≤ sizeLine; decide), fun p hp => ?_⟩
        have s := (s2.trans s3).trans s4
        exact q _ p (s.trans (same_new hp)) (s.free hp) upd_same
end
end Dp

namespace Dp
open PySem PySem.Spec PyProof.Rows L2
open Kp365 (Desk Node nodeAt isTrue)
open Dm Ml
theorem kids_small {d : Desk} (w : WF d) {i : Nat} (hi : i ≤ 20) (k : ¬ (nodeAt d i).kind = 0) : ((nodeAt d i).kids.flatMap fun k => ((List.range i).map (Kp365.leaves d)).getD k []).length ≤ 100 := by
  have e := leaves_eq w.down hi
  rw [if_neg k] at e
  rw [kids_rows w, ← e]
  have := leaves_len w hi
  omega
theorem rows_more {f : Nat → List Nat} {i : Nat} {r : List Nat} (e : r = f i) : (List.range i).map f ++ [r] = (List.range (i + 1)).map f := by
  rw [e, List.range_succ, List.map_append]
  rfl
section
variable {P : Program} {w : World} {K : PySem.W.Frag} {mg : Str → Option Value} {base : Heap} {C_Node C_Session : Addr}
theorem ok_counted {f : Addr} {fd : FuncData} (F : Fun K "counted" "counted" s_counted f fd) (T : Txt K mg C_Node C_Session) : FnOk P w K mg base CX0 1 f fd ["row"] (sp_counted K C_Node C_Session) := by
  refine F.ok sc_counted (fun vs H Q E h => ?_) (fun cdv A outer s H vs Q E hr h => ?_)
  · obtain ⟨r, row, rfl, _⟩ := h
    rfl
  · obtain ⟨r, row, rfl, hrow, hl, q⟩ := h
    refine ⟨_, (pss_one (ps_ret (pe_op op_cat (pe_lst (pa_cons (pe_callB call_len_seq (by rfl) T.b_len (by decide +kernel) (pa_cons (pv 0) pa_nil)) pa_nil)) (pv 0)))), ?_⟩
    refine ⟨_, rfl, r, _, rfl, .inl (SqL.of hrow), (by show 1 ≤ sizeLine; decide), fun z0 hz0 => ?_⟩
    have s0 := same_new (o := .lst [V.int (((up row).map V.int).length : Nat)]) hz0
    refine ⟨_, rfl, z0, r, _, _, rfl, rfl, upd_same, s0 _ _ hrow, ?_, fun p hp => ?_⟩
    · show 1 + _ ≤ sizeLine
      rw [List.length_map, up_len]
      exact Nat.le_of_lt (small1000 (by omega))
    · refine q _ p (s0.trans (same_new hp)) (s0.free hp) ?_
      rw [upd_same, List.length_map, up_len]
      rfl
theorem ok_joined {f : Addr} {fd : FuncData} (F : Fun K "joined" "joined" s_joined f fd) (T : Txt K mg C_Node C_Session) : FnOk P w K mg base CX0 1 f fd ["node", "rows"] (sp_joined K C_Node C_Session) := by
  refine F.ok sc_joined (fun vs H Q E h => ?_) (fun cdv A outer s H vs Q E hr h => ?_)
  · obtain ⟨a, v, n, ps, rs, rfl, _⟩ := h
    rfl
  · obtain ⟨a, v, n, ps, rs, rfl, hN, hv, hR, hin, hl, q⟩ := h
    obtain ⟨dx, c, h1, h2⟩ := hN.ex
    refine ⟨_, (pss_cons (ps_set (i := 2) sc_joined.nd rfl (Or.inl rfl) (pe_lst pa_nil))
      (pss_cons (ps_for PassesOwn.never rfl (pi_list (pe_fld (pv 0) rfl)) (pg_name (i := 3) sc_joined.nd rfl (Or.inl rfl)) (pss_one (ps_expr (pe_bm PySem.F.plainAttrs_list PySem.F.slot_list_extend PySem.F.type_list_extend mt_extend (pv 2) (pa_cons (pe_ix ix_list (pv 1) (pv 3) (fun _ _ => rfl)) pa_nil)))))
      (pss_one (ps_ret (pv 2))))), ?_⟩
    refine ⟨(by show 0 ≤ sizeLine; decide), fun t ht => ?_⟩
    have s0 := same_new (o := .lst []) ht
    refine ⟨_, rfl, a, C_Node, dx, _, _, rfl, s0 _ _ h1, T.cl_Node, T.n_Node_children, nF_children _ _, c, rfl, ⟨_, SqL.of (s0 _ _ h2)⟩, for_list (K := K) (a := c) (xs := kidsV n) (fun i σ H' => ∃ v3 : Option V, σ = [some (.ref a), some (.ref v), some (.ref t), v3] ∧ Same H H' ∧ H' t = some (.lst ((up ((n.kids.take i).flatMap fun k => rs.getD k [])).map V.int)))
      ⟨none, rfl, s0, upd_same⟩ (fun i σ H' _ ⟨_, _, s5, _⟩ => SqL.of (s5 _ _ h2)) ?_ ?_⟩
    · rintro i y σ H' hi ⟨v3, rfl, s5, h5⟩
      obtain ⟨k, hk, rfl⟩ := kidsV_at hi
      obtain ⟨q', hq, hq'⟩ := (hR.same s5).get (hin k (List.mem_of_getElem? hk))
      have tm := take_more hk
      have ft := flat_take (f := fun k => rs.getD k []) n.kids (i + 1)
      rw [tm, List.flatMap_append, List.length_append, List.flatMap_cons, List.flatMap_nil, List.append_nil] at ft
      refine ⟨_, rfl, .inl ⟨rfl, _, SqL.of h5⟩, _, rfl, _, rfl, v, _, _, _, rfl, rfl, SqL.of (s5 _ _ hv), refs_at hq, t, q', _, _, rfl, rfl, h5, hq', ?_, ⟨_, rfl, fun b o e => ?_, ?_⟩⟩
      · rw [List.length_map, List.length_map, up_len, up_len]
        exact Nat.le_of_lt (small1000 (by omega))
      · rw [upd_ne (ne_of_none e ht)]
        exact s5 b o e
      · rw [upd_same, tm, List.flatMap_append, up_append, List.map_append, List.flatMap_cons, List.flatMap_nil, List.append_nil]
    · rintro σ H' ⟨v3, rfl, s5, h5⟩
      have ek : (kidsV n).length = n.kids.length := List.length_map ..
      rw [ek, List.take_length] at h5
      exact ⟨_, rfl, q H' t s5 ht h5⟩
theorem ok_leaves_below {f : Addr} {fd : FuncData} (F : Fun K "leaves_below" "leaves_below" s_leaves_below f fd) (T : Txt K mg C_Node C_Session) (D_joined : Def P w K mg base "joined" 1 ["node", "rows"] (sp_joined K C_Node C_Session)) : FnOk P w K mg base CX0 2 f fd ["nodes"] (sp_leaves_below K C_Node C_Session) := by
  refine F.ok sc_leaves_below (fun vs H Q E h => ?_) (fun cdv A outer s H vs Q E hr h => ?_)
  · obtain ⟨l, d, rfl, _⟩ := h
    rfl
  · obtain ⟨l, d, rfl, as, cs, hD, hW, q⟩ := h
    have el : (as.map V.ref).length = d.nodes.length := by rw [List.length_map, hD.len]
    refine ⟨_, (pss_cons (ps_set (i := 1) sc_leaves_below.nd rfl (Or.inl rfl) (pe_lst pa_nil))
      (pss_cons (ps_for PassesOwn.never rfl (pi_enum (by rfl) T.b_enumerate (pa_cons (pv 0) pa_nil)) (pg_tup rfl (pgs_cons (pg_name (i := 2) sc_leaves_below.nd rfl (Or.inl rfl)) (pgs_cons (pg_name (i := 3) sc_leaves_below.nd rfl (Or.inl rfl)) pgs_nil))) (pss_one (ps_if (pt_cmpR op_eq (pe_fld (pv 3) rfl) (pgl T.c_LEAF) (nomark _)) (pss_one (ps_expr (pe_bm PySem.F.plainAttrs_list PySem.F.slot_list_append PySem.F.type_list_append mt_append (pv 1) (pa_cons (pe_lst (pa_cons (pv 2) pa_nil)) pa_nil)))) (pss_one (ps_expr (pe_bm PySem.F.plainAttrs_list PySem.F.slot_list_append PySem.F.type_list_append mt_append (pv 1) (pa_cons (pe_def D_joined (hr.mono (by decide)) (pa_cons (pv 3) (pa_cons (pv 1) pa_nil))) pa_nil)))))))
      (pss_one (ps_ret (pv 1))))), ?_⟩
    refine ⟨(by show 0 ≤ sizeLine; decide), fun t ht => ?_⟩
    refine ⟨_, rfl, l, _, rfl, SqL.of ((same_new ht) _ _ hD.lst), for_it (walk_enum (K := K) (a := l) (xs := as.map V.ref)) (fun i σ H' => ∃ (v2 v3 : Option V) (ps : List Addr), σ = [some (.ref l), some (.ref t), v2, v3] ∧ Same H H' ∧ H' t = some (.lst (ps.map V.ref)) ∧ t ∉ ps ∧ RowsAt H' ps ((List.range i).map (Kp365.leaves d)))
      ⟨none, none, [], rfl, same_new ht, upd_same, List.not_mem_nil, RowsAt.nil⟩ (fun i σ H' _ ⟨_, _, _, _, s5, _⟩ => SqL.of (s5 _ _ hD.lst)) ?_ ?_⟩
    · rintro i v σ H1 H2 _ ⟨v2, v3, ps, rfl, s5, h5, tn, hR⟩ hy
      obtain ⟨y, a, rfl, hty, rfl, lt, hN⟩ := (hD.same s5).turnE hy
      have sy := same_new (o := .tup [V.int (i : Int), V.ref a]) hty
      have s6 := s5.trans sy
      have h6 := sy _ _ h5
      have hN' := hN.same sy
      have hR' := hR.same sy
      obtain ⟨dx, c, h1, h2⟩ := hN'.ex
      have i20 : i ≤ 20 := by
        have := hW.len
        omega
      have o := hW.at_ i
      have pl : ps.length = i := by rw [hR.len, List.length_map, List.length_range]
      have sz : (ps.map V.ref).length < sizeLine := by
        rw [List.length_map]
        exact small1000 (by omega)
      refine ⟨y, _, rfl, SqT.of upd_same, rfl, _, _, rfl, _, _, rfl, rfl, ?_⟩
      refine ⟨_, rfl, a, C_Node, dx, _, _, rfl, h1, T.cl_Node, T.n_Node_kind, nF_kind _ _, rfl, _, rfl, if_dec (fun z => ?_) (fun z => ?_)⟩
      · have k : (nodeAt d i).kind = 0 := by
          have := V.int.inj z
          omega
        refine ⟨_, rfl, .inl ⟨rfl, _, SqL.of h6⟩, _, rfl, (by show 1 ≤ sizeLine; decide), fun x hx => ?_⟩
        have sx := same_new (o := .lst [V.int (i : Int)]) hx
        have xt : x ≠ t := ne_of_none' h6 hx
        refine ⟨t, _, _, rfl, rfl, sx _ _ h6, sz, ?_⟩
        refine ⟨_, _, ps ++ [x], rfl, fun b o e => ?_, ?_, fun m => ?_, ?_⟩
        · rw [upd_ne (ne_of_none e ht)]
          exact sx _ _ (s6 b o e)
        · rw [upd_same, List.map_append]
          rfl
        · rcases List.mem_append.mp m with m | m
          · exact tn m
          · exact xt (List.mem_singleton.mp m).symm
        · have e : [i] = Kp365.leaves d i := by rw [leaves_eq hW.down i20, if_pos k]
          have r1 := (hR'.same sx).push (q := x) (r := [i]) upd_same
          rw [rows_more e] at r1
          refine r1.else_ fun m => ?_
          rcases List.mem_append.mp m with m | m
          · exact tn m
          · exact xt (List.mem_singleton.mp m).symm
      · have k : ¬ (nodeAt d i).kind = 0 := fun e => z (congrArg V.int (by rw [e]; rfl))
        refine ⟨_, rfl, .inl ⟨rfl, _, SqL.of h6⟩, _, rfl, _, rfl, a, t, nodeAt d i, ps, (List.range i).map (Kp365.leaves d), rfl, hN', h6, hR', fun j hj => ?_, kids_small hW i20 k, fun H3 x s3 hx h3 => ?_⟩
        · rw [List.length_map, List.length_range]
          exact o.kids j hj
        · have xt : x ≠ t := ne_of_none' h6 hx
          refine ⟨t, _, _, rfl, rfl, s3 _ _ h6, sz, ?_⟩
          refine ⟨_, _, ps ++ [x], rfl, fun b o e => ?_, ?_, fun m => ?_, ?_⟩
          · rw [upd_ne (ne_of_none e ht)]
            exact s3 _ _ (s6 b o e)
          · rw [upd_same, List.map_append]
            rfl
          · rcases List.mem_append.mp m with m | m
            · exact tn m
            · exact xt (List.mem_singleton.mp m).symm
          · have e : ((nodeAt d i).kids.flatMap fun k => ((List.range i).map (Kp365.leaves d)).getD k []) = Kp365.leaves d i := by rw [kids_rows hW, leaves_eq hW.down i20, if_neg k]
            have r1 := (hR'.same s3).push h3
            rw [rows_more e] at r1
            refine r1.else_ fun m => ?_
            rcases List.mem_append.mp m with m | m
            · exact tn m
            · exact xt (List.mem_singleton.mp m).symm
    · rintro σ H' ⟨_, _, ps, rfl, s5, h5, _, hR⟩
      rw [el] at hR
      exact ⟨_, rfl, q H' t ps s5 ht h5 hR⟩
theorem ok_tell_leaves {f : Addr} {fd : FuncData} (F : Fun K "tell_leaves" "tell_leaves" s_tell_leaves f fd) (T : Txt K mg C_Node C_Session) (D_counted : Def P w K mg base "counted" 1 ["row"] (sp_counted K C_Node C_Session)) (D_leaves_below : Def P w K mg base "leaves_below" 2 ["nodes"] (sp_leaves_below K C_Node C_Session)) : FnOk P w K mg base CX0 3 f fd ["nodes", "i"] (sp_tell_leaves K C_Node C_Session) := by
  refine F.ok sc_tell_leaves (fun vs H Q E h => ?_) (fun cdv A outer s H vs Q E hr h => ?_)
  · obtain ⟨l, d, i, rfl, _⟩ := h
    rfl
  · obtain ⟨l, d, i, rfl, as, cs, hD, hW, q⟩ := h
    have el : (as.map V.ref).length = d.nodes.length := by rw [List.length_map, hD.len]
    refine ⟨_, (pss_cons (ps_if (pt_cmpR op_ge (pv 1) (pe_callB call_len_seq (by rfl) T.b_len (by decide +kernel) (pa_cons (pv 0) pa_nil)) (nomark _)) (pss_one (ps_ret (pe_lst (pa_cons (pgl T.c_NO_NODE) pa_nil)))) pss_nil)
      (pss_one (ps_ret (pe_def D_counted (hr.mono (by decide)) (pa_cons (pe_ix ix_list (pe_def D_leaves_below (hr.mono (by decide)) (pa_cons (pv 0) pa_nil)) (pv 1) (fun _ _ => rfl)) pa_nil))))), ?_⟩
    refine ⟨_, rfl, _, rfl, l, _, rfl, .inl (SqL.of hD.lst), _, _, rfl, rfl, _, rfl, if_dec (fun z => ?_) (fun z => ?_)⟩
    · rw [el] at z
      rw [of_no (c := .leaves i) rfl (by omega)] at q
      exact ⟨(by show 1 ≤ sizeLine; decide), fun p hp => q _ p (same_new hp) hp upd_same⟩
    · rw [el] at z
      have lt : i < d.nodes.length := by omega
      have i20 : i ≤ 20 := by
        have := hW.len
        omega
      have ll := leaves_len hW i20
      rw [leaves_A lt] at q
      refine ⟨_, rfl, l, d, rfl, as, cs, hD, hW, fun H1 p ps s1 hp h1 hR => ?_⟩
      obtain ⟨x, hx, hx'⟩ := hR.get (i := i) (by unfold lvs; rw [List.length_map, List.length_range]; exact lt)
      unfold lvs at hx'
      rw [rows_get lt] at hx'
      exact ⟨_, rfl, p, _, _, _, rfl, rfl, SqL.of h1, refs_at hx, x, Kp365.leaves d i, rfl, hx', by omega, fun H2 p2 s2 hp2 h2 => q H2 p2 (s1.trans s2) (s1.free hp2) h2⟩
theorem ok_depths {f : Addr} {fd : FuncData} (F : Fun K "depths" "depths" s_depths f fd) (T : Txt K mg C_Node C_Session) : FnOk P w K mg base CX0 1 f fd ["nodes"] (sp_depths K C_Node C_Session) := by
  refine F.ok sc_depths (fun vs H Q E h => ?_) (fun cdv A outer s H vs Q E hr h => ?_)
  · obtain ⟨l, d, rfl, _⟩ := h
    rfl
  · obtain ⟨l, d, rfl, as, cs, hD, hW, q⟩ := h
    refine ⟨_, (pss_cons (ps_set (i := 1) sc_depths.nd rfl (Or.inr rfl) (pe_lst pa_nil))
      (pss_cons (ps_for PassesOwn.never rfl (pi_list (pv 0)) (pg_name (i := 2) sc_depths.nd rfl (Or.inl rfl)) (pss_one (ps_if (pt_cmpR op_eq (pe_fld (pv 2) rfl) (pgl T.c_LEAF) (nomark _)) (pss_one (ps_expr (pe_bm PySem.F.plainAttrs_list PySem.F.slot_list_append PySem.F.type_list_append mt_append (pv 1) (pa_cons pe_int pa_nil)))) (pss_one (ps_expr (pe_bm PySem.F.plainAttrs_list PySem.F.slot_list_append PySem.F.type_list_append mt_append (pv 1) (pa_cons (pe_op op_add pe_int (pe_callB (cr_max rfl) (by rfl) T.b_max (by decide +kernel) (pa_cons (pe_lc (own := [("child", 3)]) (g := gName 3) (te := (tOp (rIxL K) (tVar 1) (tVar 3))) (tt := tYes) (by rfl) sc_depths.nd (pi_list (pe_fld (pv 2) rfl)) (blkOk_by (own := [("child", 3)]) (N := ["nodes", "found", "node", "child"]) (sc := defScope s_depths) (by decide +kernel)) (fun _ _ _ _ _ => pg_name (i := 3) sc_depths.nd rfl (Or.inl rfl)) (fun _ _ _ _ _ => pts_nil) (fun _ _ _ _ _ => (pe_ix ix_list (pv 1) (pv 3) (fun _ _ => rfl)))) pa_nil))) pa_nil)))))))
      (pss_one (ps_ret (pv 1))))), ?_⟩
    refine ⟨(by show 0 ≤ sizeLine; decide), fun t ht => ?_⟩
    refine ⟨_, rfl, l, rfl, ⟨_, SqL.of ((same_new ht) _ _ hD.lst)⟩, for_list (K := K) (a := l) (xs := as.map V.ref) (fun i σ H' => ∃ v2 v3 : Option V, σ = [some (.ref l), some (.ref t), v2, v3] ∧ Same H H' ∧ H' t = some (.lst ((up ((List.range i).map (depthD d))).map V.int)))
      ⟨none, none, rfl, same_new ht, upd_same⟩ (fun i σ H' _ ⟨_, _, _, s5, _⟩ => SqL.of (s5 _ _ hD.lst)) ?_ ?_⟩
    · rintro i y σ H' hi ⟨v2, v3, rfl, s5, h5⟩
      obtain ⟨a, lt, rfl, hN⟩ := (hD.same s5).turn hi
      obtain ⟨dx, c, h1, h2⟩ := hN.ex
      have i20 : i ≤ 20 := by
        have := hW.len
        omega
      have o := hW.at_ i
      have ed := depthD_eq hW.down i20
      refine ⟨_, rfl, a, C_Node, dx, _, _, rfl, h1, T.cl_Node, T.n_Node_kind, nF_kind _ _, rfl, _, rfl, if_dec (fun z => ?_) (fun z => ?_)⟩
      · have k : (nodeAt d i).kind = 0 := by
          have := V.int.inj z
          omega
        rw [if_pos k] at ed
        refine ⟨_, rfl, .inl ⟨rfl, _, SqL.of h5⟩, t, _, _, rfl, rfl, h5, range_small i20, ?_⟩
        refine ⟨_, _, rfl, fun b o e => ?_, ?_⟩
        · rw [upd_ne (ne_of_none e ht)]
          exact s5 b o e
        · rw [upd_same]
          exact congrArg (fun z => some (HO.lst z)) (range_more (z := 0) ed.symm)
      · have k : ¬ (nodeAt d i).kind = 0 := fun e => z (congrArg V.int (by rw [e]; rfl))
        rw [if_neg k] at ed
        refine ⟨_, rfl, .inl ⟨rfl, _, SqL.of h5⟩, _, rfl, a, C_Node, dx, _, _, rfl, h1, T.cl_Node, T.n_Node_children, nF_children _ _, c, rfl, ⟨_, SqL.of h2⟩, fun D hD' => ?_⟩
        refine lc_list (K := K) (a := c) (xs := kidsV (nodeAt d i)) (fun j H6 => Same H' H6 ∧ H6 D = some (.lst ((up (((nodeAt d i).kids.take j).map (depthD d))).map V.int))) ⟨same_new hD', upd_same⟩ (fun j H6 _ ⟨s6, _⟩ => SqL.of (s6 _ _ h2)) ?_ ?_
        · rintro j y H6 hj ⟨s6, h6⟩
          obtain ⟨k', hk', rfl⟩ := kidsV_at hj
          have lk := o.kids k' (List.mem_of_getElem? hk')
          have fw := o.few
          refine ⟨rfl, _, rfl, _, rfl, t, _, _, _, rfl, rfl, SqL.of (s6 _ _ h5), range_at lk, _, h6, ?_, fun b o e => ?_, ?_⟩
          · rw [List.length_map, up_len, List.length_map, List.length_take]
            exact small1000 (by omega)
          · rw [upd_ne (ne_of_none e hD')]
            exact s6 b o e
          · rw [upd_same, take_more hk', List.map_append, up_append, List.map_append]
            rfl
        · rintro H6 ⟨s6, h6⟩
          have ek : (kidsV (nodeAt d i)).length = (nodeAt d i).kids.length := List.length_map ..
          rw [ek, List.take_length] at h6
          have ne : 0 < (up ((nodeAt d i).kids.map (depthD d))).length := by
            rw [up_len, List.length_map]
            exact o.joint k
          refine ⟨D, _, rfl, SqL.of h6, ne, fun m hm le => ?_⟩
          obtain ⟨m', hm', rfl⟩ := List.mem_map.mp hm
          have em : ((nodeAt d i).kids.map (depthD d)).foldl max 0 = m' := max_is hm' fun x hx => by
            have := le (x : Int) (List.mem_map.mpr ⟨x, hx, rfl⟩)
            omega
          rw [em] at ed
          refine ⟨_, _, rfl, rfl, t, _, _, rfl, rfl, s6 _ _ h5, range_small i20, ?_⟩
          refine ⟨_, _, rfl, fun b o e => ?_, ?_⟩
          · rw [upd_ne (ne_of_none e ht)]
            exact s6 _ _ (s5 b o e)
          · rw [upd_same]
            refine congrArg (fun z => some (HO.lst z)) ?_
            rw [← range_more ed.symm]
            refine congrArg (fun z : Int => _ ++ [V.int z]) ?_
            show (1 : Int) + (m' : Int) = ((1 + m' : Nat) : Int)
            omega
    · rintro σ H' ⟨v2, v3, rfl, s5, h5⟩
      rw [List.length_map, hD.len] at h5
      exact ⟨_, rfl, q H' t s5 ht h5⟩
theorem ok_tell_depth {f : Addr} {fd : FuncData} (F : Fun K "tell_depth" "tell_depth" s_tell_depth f fd) (T : Txt K mg C_Node C_Session) (D_depths : Def P w K mg base "depths" 1 ["nodes"] (sp_depths K C_Node C_Session)) : FnOk P w K mg base CX0 2 f fd ["nodes", "i"] (sp_tell_depth K C_Node C_Session) := by
  refine F.ok sc_tell_depth (fun vs H Q E h => ?_) (fun cdv A outer s H vs Q E hr h => ?_)
  · obtain ⟨l, d, i, rfl, _⟩ := h
    rfl
  · obtain ⟨l, d, i, rfl, as, cs, hD, hW, q⟩ := h
    have el : (as.map V.ref).length = d.nodes.length := by rw [List.length_map, hD.len]
    refine ⟨_, (pss_cons (ps_if (pt_cmpR op_ge (pv 1) (pe_callB call_len_seq (by rfl) T.b_len (by decide +kernel) (pa_cons (pv 0) pa_nil)) (nomark _)) (pss_one (ps_ret (pe_lst (pa_cons (pgl T.c_NO_NODE) pa_nil)))) pss_nil)
      (pss_one (ps_ret (pe_lst (pa_cons (pe_ix ix_list (pe_def D_depths (hr.mono (by decide)) (pa_cons (pv 0) pa_nil)) (pv 1) (fun _ _ => rfl)) pa_nil))))), ?_⟩
    refine ⟨_, rfl, _, rfl, l, _, rfl, .inl (SqL.of hD.lst), _, _, rfl, rfl, _, rfl, if_dec (fun z => ?_) (fun z => ?_)⟩
    · rw [el] at z
      rw [of_no (c := .depth i) rfl (by omega)] at q
      exact ⟨(by show 1 ≤ sizeLine; decide), fun p hp => q _ p (same_new hp) hp upd_same⟩
    · rw [el] at z
      have lt : i < d.nodes.length := by omega
      rw [depth_A lt] at q
      refine ⟨_, rfl, l, d, rfl, as, cs, hD, hW, fun H1 t s1 ht h1 => ?_⟩
      refine ⟨_, rfl, t, _, _, _, rfl, rfl, SqL.of h1, range_at lt, (by show 1 ≤ sizeLine; decide), fun p hp => ?_⟩
      exact q _ p (s1.trans (same_new hp)) (s1.free hp) upd_same
end
end Dp

namespace Dp
open PySem PySem.Spec PyProof.Rows L2
open Kp365 (Desk Node nodeAt isTrue)
open Dm Ml
theorem bit_true {d : Desk} {i : Nat} : bitN d i = 1 ↔ isTrue d i = true := by
  unfold bitN
  cases isTrue d i <;> simp
theorem proof_small {d : Desk} (w : WF d) {i : Nat} (hi : i ≤ 20) : (Kp365.proof d i).length ≤ 100 := by
  have h1 := proof_len w i hi
  have h2 := leaves_len w hi
  omega
theorem filter_more {p : Nat → Bool} {l : List Nat} {j c : Nat} (h : l[j]? = some c) : (l.take (j + 1)).filter p = (l.take j).filter p ++ (if p c = true then [c] else []) := by
  rw [take_more h, List.filter_append]
  cases e : p c with
  | true => rw [if_pos rfl, List.filter_cons_of_pos e, List.filter_nil]
  | false => rw [if_neg Bool.false_ne_true, List.filter_cons_of_neg (by rw [e]; exact Bool.noConfusion), List.filter_nil]
section
variable {P : Program} {w : World} {K : PySem.W.Frag} {mg : Str → Option Value} {base : Heap} {C_Node C_Session : Addr}
theorem ok_needs_all {f : Addr} {fd : FuncData} (F : Fun K "needs_all" "needs_all" s_needs_all f fd) (T : Txt K mg C_Node C_Session) : FnOk P w K mg base CX0 1 f fd ["node", "true"] (sp_needs_all K C_Node C_Session) := by
  refine F.ok sc_needs_all (fun vs H Q E h => ?_) (fun cdv A outer s H vs Q E hr h => ?_)
  · obtain ⟨a, n, b, rfl, _⟩ := h
    rfl
  · obtain ⟨a, n, b, rfl, hN, q⟩ := h
    obtain ⟨dx, c, h1, h2⟩ := hN.ex
    refine ⟨_, (pss_one (ps_ret (pe_cmpR op_eq (pe_cmpR op_eq (pe_fld (pv 0) rfl) (pgl T.c_ALL_OF) (nomark _)) (pe_cmpR op_eq (pv 1) pe_int (nomark _)) (nomark _)))), ?_⟩
    refine ⟨_, rfl, a, C_Node, dx, _, _, rfl, h1, T.cl_Node, T.n_Node_kind, nF_kind _ _, rfl, _, rfl, rfl, rfl, ?_⟩
    have e : decide (V.bl (decide (V.int (n.kind : Int) = V.int 1)) = V.bl (decide (V.int (b : Int) = V.int 1))) = decide (n.kind = 1 ↔ b = 1) := by
      rw [decide_eq_decide]
      constructor
      · intro z
        have z := decide_eq_decide.mp (V.bl.inj z)
        exact ⟨fun e => by have := V.int.inj (z.mp (by rw [e]; rfl)); omega, fun e => by have := V.int.inj (z.mpr (by rw [e]; rfl)); omega⟩
      · intro z
        refine congrArg V.bl (decide_eq_decide.mpr ⟨fun e => ?_, fun e => ?_⟩)
        · rw [z.mp (by have := V.int.inj e; omega)]
          rfl
        · rw [z.mpr (by have := V.int.inj e; omega)]
          rfl
    rw [← e] at q
    exact q
theorem ok_proofs {f : Addr} {fd : FuncData} (F : Fun K "proofs" "proofs" s_proofs f fd) (T : Txt K mg C_Node C_Session) (D_needs_all : Def P w K mg base "needs_all" 1 ["node", "true"] (sp_needs_all K C_Node C_Session)) (D_joined : Def P w K mg base "joined" 1 ["node", "rows"] (sp_joined K C_Node C_Session)) (D_truths : Def P w K mg base "truths" 2 ["nodes"] (sp_truths K C_Node C_Session)) : FnOk P w K mg base CX0 3 f fd ["nodes"] (sp_proofs K C_Node C_Session) := by
  refine F.ok sc_proofs (fun vs H Q E h => ?_) (fun cdv A outer s H vs Q E hr h => ?_)
  · obtain ⟨l, d, rfl, _⟩ := h
    rfl
  · obtain ⟨l, d, rfl, as, cs, hD0, hW, q⟩ := h
    have el : (as.map V.ref).length = d.nodes.length := by rw [List.length_map, hD0.len]
    refine ⟨_, (pss_cons (ps_set (i := 1) sc_proofs.nd rfl (Or.inr rfl) (pe_def D_truths (hr.mono (by decide)) (pa_cons (pv 0) pa_nil)))
      (pss_cons (ps_set (i := 2) sc_proofs.nd rfl (Or.inr rfl) (pe_lst pa_nil))
      (pss_cons (ps_for PassesOwn.never rfl (pi_enum (by rfl) T.b_enumerate (pa_cons (pv 0) pa_nil)) (pg_tup rfl (pgs_cons (pg_name (i := 3) sc_proofs.nd rfl (Or.inr rfl)) (pgs_cons (pg_name (i := 4) sc_proofs.nd rfl (Or.inl rfl)) pgs_nil))) (pss_one (ps_if (pt_cmpR op_eq (pe_fld (pv 4) rfl) (pgl T.c_LEAF) (nomark _)) (pss_one (ps_expr (pe_bm PySem.F.plainAttrs_list PySem.F.slot_list_append PySem.F.type_list_append mt_append (pv 2) (pa_cons (pe_lst (pa_cons (pv 3) pa_nil)) pa_nil)))) (pss_one (ps_if (pt_val (pe_def D_needs_all (hr.mono (by decide)) (pa_cons (pv 4) (pa_cons (pe_ix ix_list (pv 1) (pv 3) (fun _ _ => rfl)) pa_nil)))) (pss_one (ps_expr (pe_bm PySem.F.plainAttrs_list PySem.F.slot_list_append PySem.F.type_list_append mt_append (pv 2) (pa_cons (pe_def D_joined (hr.mono (by decide)) (pa_cons (pv 4) (pa_cons (pv 2) pa_nil))) pa_nil)))) (pss_cons (ps_setLc (i := 5) (own := [("child", 6)]) (g := gName 6) (te := (tOp (rIxL K) (tVar 2) (tVar 6))) (tt := (tTest (tOp rEq (tOp (rIxL K) (tVar 1) (tVar 6)) (tOp (rIxL K) (tVar 1) (tVar 3))))) (by rfl) sc_proofs.nd rfl rfl (sw_true rfl rfl rfl (by decide +kernel)) (pi_list (pe_fld (pv 4) rfl)) (blkOk_by (own := [("child", 6)]) (N := ["nodes", "true", "found", "place", "node", "alike", "child"]) (sc := defScope s_proofs) (by decide +kernel)) (fun _ _ _ _ _ => pg_name (i := 6) sc_proofs.nd rfl (Or.inl rfl)) (fun _ _ _ _ _ => (pts_one (pt_cmpR op_eq (pe_ix ix_list (pv 1) (pv 6) (fun _ _ => rfl)) (pe_ix ix_list (pv 1) (pv 3) (fun _ _ => rfl)) (nomark _)))) (fun _ _ _ _ _ => (pe_ix ix_list (pv 2) (pv 6) (fun _ _ => rfl))))
      (pss_one (ps_expr (pe_bm PySem.F.plainAttrs_list PySem.F.slot_list_append PySem.F.type_list_append mt_append (pv 2) (pa_cons (pe_minLen rfl (by rfl) T.b_min (by rfl) T.b_len (pa_cons (pv 5) pa_nil)) pa_nil))))))))))
      (pss_one (ps_ret (pv 2)))))), ?_⟩
    refine ⟨_, rfl, l, d, rfl, as, cs, hD0, hW, fun H0 b s0 hb hbits => ?_⟩
    have hD := hD0.same s0
    refine ⟨(by show 0 ≤ sizeLine; decide), fun t ht => ?_⟩
    refine ⟨_, rfl, l, _, rfl, SqL.of ((same_new ht) _ _ hD.lst), for_it (walk_enum (K := K) (a := l) (xs := as.map V.ref)) (fun i σ H' => ∃ (v3 v4 v5 v6 : Option V) (ps : List Addr), σ = [some (.ref l), some (.ref b), some (.ref t), v3, v4, v5, v6] ∧ Same H0 H' ∧ H' t = some (.lst (ps.map V.ref)) ∧ t ∉ ps ∧ RowsAt H' ps ((List.range i).map (Kp365.proof d)))
      ⟨none, none, none, none, [], rfl, same_new ht, upd_same, List.not_mem_nil, RowsAt.nil⟩ (fun i σ H' _ ⟨_, _, _, _, _, _, s5, _⟩ => SqL.of (s5 _ _ hD.lst)) ?_ ?_⟩
    · rintro i v σ H1 H2 _ ⟨v3, v4, v5, v6, ps, rfl, s5, h5, tn, hR⟩ hy
      obtain ⟨y, a, rfl, hty, rfl, lt, hN⟩ := (hD.same s5).turnE hy
      have sy := same_new (o := .tup [V.int (i : Int), V.ref a]) hty
      have s6 := s5.trans sy
      have h6 := sy _ _ h5
      have hN' := hN.same sy
      have hR' := hR.same sy
      have hb6 := s6 _ _ hbits
      obtain ⟨dx, c, h1, h2⟩ := hN'.ex
      have i20 : i ≤ 20 := by
        have := hW.len
        omega
      have o := hW.at_ i
      have pl : ps.length = i := by rw [hR.len, List.length_map, List.length_range]
      have sz : (ps.map V.ref).length < sizeLine := by
        rw [List.length_map]
        exact small1000 (by omega)
      refine ⟨y, _, rfl, SqT.of upd_same, rfl, _, _, rfl, _, _, rfl, rfl, ?_⟩
      refine ⟨_, rfl, a, C_Node, dx, _, _, rfl, h1, T.cl_Node, T.n_Node_kind, nF_kind _ _, rfl, _, rfl, if_dec (fun z => ?_) (fun z => ?_)⟩
      · have k : (nodeAt d i).kind = 0 := by
          have := V.int.inj z
          omega
        refine ⟨_, rfl, .inl ⟨rfl, _, SqL.of h6⟩, _, rfl, (by show 1 ≤ sizeLine; decide), fun x hx => ?_⟩
        have sx := same_new (o := .lst [V.int (i : Int)]) hx
        have xt : x ≠ t := ne_of_none' h6 hx
        refine ⟨t, _, _, rfl, rfl, sx _ _ h6, sz, ?_⟩
        have nt : t ∉ ps ++ [x] := fun m => by
          rcases List.mem_append.mp m with m | m
          · exact tn m
          · exact xt (List.mem_singleton.mp m).symm
        refine ⟨_, _, _, _, ps ++ [x], rfl, fun b o e => ?_, ?_, nt, ?_⟩
        · rw [upd_ne (ne_of_none e ht)]
          exact sx _ _ (s6 b o e)
        · rw [upd_same, List.map_append]
          rfl
        · have r1 := (hR'.same sx).push (q := x) (r := [i]) upd_same
          rw [rows_more (proof_leaf hW i20 k).symm] at r1
          exact r1.else_ nt
      · have k : ¬ (nodeAt d i).kind = 0 := fun e => z (congrArg V.int (by rw [e]; rfl))
        refine ⟨_, rfl, _, rfl, _, rfl, b, _, _, _, rfl, rfl, SqL.of hb6, range_at lt, a, nodeAt d i, bitN d i, rfl, hN', _, rfl, if_dec (fun z => ?_) (fun z => ?_)⟩
        · have z' : (nodeAt d i).kind = 1 ↔ isTrue d i = true := z.trans bit_true
          have pa := (proof_all hW i20 k z').1
          have e : ((nodeAt d i).kids.flatMap fun k => ((List.range i).map (Kp365.proof d)).getD k []) = Kp365.proof d i := by rw [kids_rows hW, pa]
          refine ⟨_, rfl, .inl ⟨rfl, _, SqL.of h6⟩, _, rfl, _, rfl, a, t, nodeAt d i, ps, (List.range i).map (Kp365.proof d), rfl, hN', h6, hR', fun j hj => ?_, by rw [e]; exact proof_small hW i20, fun H3 x s3 hx h3 => ?_⟩
          · rw [List.length_map, List.length_range]
            exact o.kids j hj
          · have xt : x ≠ t := ne_of_none' h6 hx
            have nt : t ∉ ps ++ [x] := fun m => by
              rcases List.mem_append.mp m with m | m
              · exact tn m
              · exact xt (List.mem_singleton.mp m).symm
            refine ⟨t, _, _, rfl, rfl, s3 _ _ h6, sz, ?_⟩
            refine ⟨_, _, _, _, ps ++ [x], rfl, fun b o e => ?_, ?_, nt, ?_⟩
            · rw [upd_ne (ne_of_none e ht)]
              exact s3 _ _ (s6 b o e)
            · rw [upd_same, List.map_append]
              rfl
            · have r1 := (hR'.same s3).push h3
              rw [rows_more e] at r1
              exact r1.else_ nt
        · have z' : ¬ ((nodeAt d i).kind = 1 ↔ isTrue d i = true) := fun q => z (q.trans bit_true.symm)
          refine ⟨_, rfl, a, C_Node, dx, _, _, rfl, h1, T.cl_Node, T.n_Node_children, nF_children _ _, c, rfl, ⟨_, SqL.of h2⟩, fun D hD' => ?_⟩
          refine lc_list (K := K) (a := c) (xs := kidsV (nodeAt d i)) (fun j H6 => Same (upd H1 y (.tup [V.int (i : Int), V.ref a])) H6 ∧ H6 D = some (.lst (((((nodeAt d i).kids.take j).filter fun c => isTrue d c == isTrue d i).map fun k => ps.getD k t).map V.ref))) ⟨same_new hD', upd_same⟩ (fun j H6 _ ⟨s7, _⟩ => SqL.of (s7 _ _ h2)) ?_ ?_
          · rintro j v H6 hj ⟨s7, h7⟩
            obtain ⟨k', hk', rfl⟩ := kidsV_at hj
            have lk := o.kids k' (List.mem_of_getElem? hk')
            have fw := o.few
            have hq : ps[k']? = some (ps.getD k' t) := by
              rw [List.getD_eq_getElem?_getD, List.getElem?_eq_getElem (show k' < ps.length by omega)]
              rfl
            refine ⟨rfl, _, rfl, _, rfl, b, _, _, _, rfl, rfl, SqL.of (s7 _ _ hb6), range_at (Nat.lt_trans lk lt), _, rfl, _, rfl, b, _, _, _, rfl, rfl, SqL.of (s7 _ _ hb6), range_at lt, rfl, _, rfl, if_dec (fun z => ?_) (fun z => ?_)⟩
            · have te : (isTrue d k' == isTrue d i) = true := by
                have : bitN d k' = bitN d i := by
                  have := V.int.inj z
                  omega
                rw [bitN_eq.mp this]
                exact beq_self_eq_true _
              refine ⟨_, rfl, _, rfl, t, _, _, _, rfl, rfl, SqL.of (s7 _ _ h6), refs_at hq, _, h7, ?_, fun b o e => ?_, ?_⟩
              · rw [List.length_map, List.length_map]
                have l1 := List.length_filter_le (fun c => isTrue d c == isTrue d i) ((nodeAt d i).kids.take j)
                rw [List.length_take] at l1
                exact small1000 (by omega)
              · rw [upd_ne (ne_of_none e hD')]
                exact s7 b o e
              · rw [upd_same, filter_more hk', if_pos te, List.map_append, List.map_append]
                rfl
            · have te : ¬ (isTrue d k' == isTrue d i) = true := fun q => z (by rw [bitN_eq.mpr (eq_of_beq q)])
              refine ⟨s7, ?_⟩
              rw [h7, filter_more hk', if_neg te, List.append_nil]
          · rintro H6 ⟨s7, h7⟩
            have ek : (kidsV (nodeAt d i)).length = (nodeAt d i).kids.length := List.length_map ..
            rw [ek, List.take_length] at h7
            have some_ := alike_some hW i20 k z'
            have row_ : ∀ (j : Nat) (x : Addr), (((nodeAt d i).kids.filter fun c => isTrue d c == isTrue d i).map fun k => ps.getD k t)[j]? = some x → ∃ k', (((nodeAt d i).kids.filter fun c => isTrue d c == isTrue d i).map (Kp365.proof d))[j]? = some (Kp365.proof d k') ∧ x ∈ ps ∧ H6 x = some (.lst ((up (Kp365.proof d k')).map V.int)) := fun j x hj => by
              rw [List.getElem?_map] at hj
              cases e : ((nodeAt d i).kids.filter fun c => isTrue d c == isTrue d i)[j]? with
              | none =>
                rw [e] at hj
                cases hj
              | some k' =>
                rw [e] at hj
                have ex : ps.getD k' t = x := Option.some.inj hj
                have lk := o.kids k' (List.mem_filter.mp (List.mem_of_getElem? e)).1
                have hq : ps[k']? = some x := by
                  rw [← ex, List.getD_eq_getElem?_getD, List.getElem?_eq_getElem (show k' < ps.length by omega)]
                  rfl
                refine ⟨k', by rw [List.getElem?_map, e]; rfl, List.mem_of_getElem? hq, s7 _ _ (hR'.at_ k' x _ hq ?_)⟩
                rw [List.getElem?_map, List.getElem?_range lk]
                rfl
            refine ⟨_, rfl, .inl ⟨rfl, _, SqL.of (s7 _ _ h6)⟩, _, rfl, D, _, fun j => ((((nodeAt d i).kids.filter fun c => isTrue d c == isTrue d i).map (Kp365.proof d)).getD j []).length, rfl, SqL.of h7, by rw [List.length_map]; exact some_, fun j x hj => ?_, fun j x hj hm => ?_⟩
            · obtain ⟨k', e1, _, e2⟩ := row_ j x hj
              refine ⟨_, SqL.of e2, ?_⟩
              rw [List.length_map, up_len]
              dsimp only
              rw [List.getD_eq_getElem?_getD, e1]
              rfl
            · obtain ⟨k', e1, e3, e2⟩ := row_ j x hj
              have ep : Kp365.proof d k' = Kp365.proof d i := (proof_min hW i20 k z' e1 fun j' r' hj' => by
                have lt' : j' < (((nodeAt d i).kids.filter fun c => isTrue d c == isTrue d i).map fun k => ps.getD k t).length := by
                  have := (List.getElem?_eq_some_iff.mp hj').1
                  rw [List.length_map] at this ⊢
                  exact this
                have := hm j' lt'
                dsimp only at this
                rw [List.getD_eq_getElem?_getD, e1, List.getD_eq_getElem?_getD, hj'] at this
                exact this).symm
              refine ⟨t, _, _, rfl, rfl, s7 _ _ h6, sz, ?_⟩
              have xt : x ≠ t := fun e => tn (by rw [← e]; exact e3)
              have nt : t ∉ ps ++ [x] := fun m => by
                rcases List.mem_append.mp m with m | m
                · exact tn m
                · exact xt (List.mem_singleton.mp m).symm
              refine ⟨_, _, _, _, ps ++ [x], rfl, fun b o e => ?_, ?_, nt, ?_⟩
              · rw [upd_ne (ne_of_none e ht)]
                exact s7 _ _ (s6 b o e)
              · rw [upd_same, List.map_append]
                rfl
              · have r1 := (hR'.same s7).push e2
                rw [rows_more ep] at r1
                exact r1.else_ nt
    · rintro σ H' ⟨_, _, _, _, ps, rfl, s5, h5, _, hR⟩
      rw [el] at hR
      exact ⟨_, rfl, q H' t ps (s0.trans s5) (s0.free ht) h5 hR⟩
theorem ok_tell_proof {f : Addr} {fd : FuncData} (F : Fun K "tell_proof" "tell_proof" s_tell_proof f fd) (T : Txt K mg C_Node C_Session) (D_counted : Def P w K mg base "counted" 1 ["row"] (sp_counted K C_Node C_Session)) (D_proofs : Def P w K mg base "proofs" 3 ["nodes"] (sp_proofs K C_Node C_Session)) : FnOk P w K mg base CX0 4 f fd ["nodes", "i"] (sp_tell_proof K C_Node C_Session) := by
  refine F.ok sc_tell_proof (fun vs H Q E h => ?_) (fun cdv A outer s H vs Q E hr h => ?_)
  · obtain ⟨l, d, i, rfl, _⟩ := h
    rfl
  · obtain ⟨l, d, i, rfl, as, cs, hD, hW, q⟩ := h
    have el : (as.map V.ref).length = d.nodes.length := by rw [List.length_map, hD.len]
    refine ⟨_, (pss_cons (ps_if (pt_cmpR op_ge (pv 1) (pe_callB call_len_seq (by rfl) T.b_len (by decide +kernel) (pa_cons (pv 0) pa_nil)) (nomark _)) (pss_one (ps_ret (pe_lst (pa_cons (pgl T.c_NO_NODE) pa_nil)))) pss_nil)
      (pss_one (ps_ret (pe_def D_counted (hr.mono (by decide)) (pa_cons (pe_ix ix_list (pe_def D_proofs (hr.mono (by decide)) (pa_cons (pv 0) pa_nil)) (pv 1) (fun _ _ => rfl)) pa_nil))))), ?_⟩
    refine ⟨_, rfl, _, rfl, l, _, rfl, .inl (SqL.of hD.lst), _, _, rfl, rfl, _, rfl, if_dec (fun z => ?_) (fun z => ?_)⟩
    · rw [el] at z
      rw [of_no (c := .proof i) rfl (by omega)] at q
      exact ⟨(by show 1 ≤ sizeLine; decide), fun p hp => q _ p (same_new hp) hp upd_same⟩
    · rw [el] at z
      have lt : i < d.nodes.length := by omega
      have i20 : i ≤ 20 := by
        have := hW.len
        omega
      rw [proof_A lt] at q
      refine ⟨_, rfl, l, d, rfl, as, cs, hD, hW, fun H1 p ps s1 hp h1 hR => ?_⟩
      obtain ⟨x, hx, hx'⟩ := hR.get (i := i) (by unfold prfs; rw [List.length_map, List.length_range]; exact lt)
      unfold prfs at hx'
      rw [rows_get lt] at hx'
      exact ⟨_, rfl, p, _, _, _, rfl, rfl, SqL.of h1, refs_at hx, x, Kp365.proof d i, rfl, hx', proof_small hW i20, fun H2 p2 s2 hp2 h2 => q H2 p2 (s1.trans s2) (s1.free hp2) h2⟩
end
end Dp

namespace Dp
open PySem PySem.Spec PyProof.Rows L2
open Kp365 (Desk Node nodeAt isTrue)
open Dm Ml
theorem ixN_at {n j : Nat} (h : j < n) : ixN n (j : Int) = some j := by
  unfold ixN
  rw [if_pos (by omega), if_pos (by omega)]
  rfl
theorem wrong_len {d : Desk} {j v : Nat} : (Kp365.withWrong d j v).nodes.length = d.nodes.length := List.length_set ..
theorem so_len {d : Desk} {j : Nat} : (Kp365.withSo d j).nodes.length = d.nodes.length := List.length_set ..
section
variable {P : Program} {w : World} {K : PySem.W.Frag} {mg : Str → Option Value} {base : Heap} {C_Node C_Session : Addr}
theorem ok_with_misread {f : Addr} {fd : FuncData} (F : Fun K "with_misread" "with_misread" s_with_misread f fd) (T : Txt K mg C_Node C_Session) (Z_Node : Klass P w K mg base "Node" C_Node 1 ["self", "kind", "so", "misread", "children"] (sp_Node_init K C_Node C_Session)) : FnOk P w K mg base CX0 3 f fd ["nodes", "j", "misread"] (sp_with_misread K C_Node C_Session) := by
  refine F.ok sc_with_misread (fun vs H Q E h => ?_) (fun cdv A outer s H vs Q E hr h => ?_)
  · obtain ⟨l, as, cs, d, j, v, rfl, _⟩ := h
    rfl
  · obtain ⟨l, as, cs, d, j, v, rfl, hD, hW, jl, k, q⟩ := h
    have el : (as.map V.ref).length = d.nodes.length := by rw [List.length_map, hD.len]
    refine ⟨_, (pss_cons (ps_set (i := 3) sc_with_misread.nd rfl (Or.inl rfl) (pe_callTy call_list_of (by rfl) T.b_list (by decide +kernel) (pa_cons (pv 0) pa_nil)))
      (pss_cons (ps_asg (pe_new Z_Node (hr.mono (by decide)) (pa_cons (pgl T.c_LEAF) (pa_cons (pe_fld (pe_ix ix_list (pv 0) (pv 1) (fun _ _ => rfl)) rfl) (pa_cons (pv 2) (pa_cons (pe_lst pa_nil) pa_nil))))) (pg_sub (pv 3) (pv 1) set_list))
      (pss_one (ps_ret (pv 3))))), ?_⟩
    refine ⟨_, rfl, l, _, rfl, .inl (SqL.of hD.lst), fun t ht => ?_⟩
    have s0 := same_new (o := .lst (as.map V.ref)) ht
    have hD0 := hD.same s0
    obtain ⟨a, ha, hN⟩ := hD0.get jl
    obtain ⟨dx0, c0, h1, h2⟩ := hN.ex
    refine ⟨_, rfl, _, rfl, l, _, _, _, rfl, rfl, SqL.of hD0.lst, refs_at ha, a, C_Node, dx0, _, _, rfl, h1, T.cl_Node, T.n_Node_so, nF_so _ _, _, rfl, (by show 0 ≤ sizeLine; decide), fun c hc => ?_⟩
    have s1 := s0.trans (same_new (o := .lst []) hc)
    intro x dx nx nd ne
    refine ⟨x, dx, _, _, _, _, rfl, upd_same, fun H2 hx k2 => ⟨rfl, ?_⟩⟩
    have s2 := Same.made nx nd k2
    have s := s1.trans s2
    have ht2 : H2 t = some (.lst (as.map V.ref)) := s2 _ _ (same_new (o := .lst []) hc _ _ upd_same)
    have hc2 : H2 c = some (.lst []) := s2 _ _ upd_same
    have ct : c ≠ t := ne_of_none' (upd_same (H := H) (a := t) (o := .lst (as.map V.ref))) hc
    have xt : x ≠ t := ne_of hx ht2 fun e => by cases e
    have nk := (hW.at_ j).leaf k
    refine ⟨_, rfl, _, rfl, t, _, _, j, rfl, rfl, ht2, by rw [el]; exact ixN_at jl, ?_⟩
    refine ⟨_, rfl, ?_⟩
    have sf : Same H (upd H2 t (.lst ((as.map V.ref).set j (V.ref x)))) := fun b o e => by
      rw [upd_ne (ne_of_none e ht)]
      exact s b o e
    refine q _ t _ _ sf ht ((hD.same sf).alter (x := x) (c := c) (dx := dx) (m := { nodeAt d j with wrong := v }) upd_same ?_ ?_ ((hD.same s1).not_mem nx))
    · rw [upd_ne xt, hx]
      unfold nF
      rw [k]
      rfl
    · rw [upd_ne ct, hc2]
      unfold kidsV
      show _ = some (HO.lst ((nodeAt d j).kids.map fun (k : Nat) => V.int (k : Int)))
      rw [nk.1]
      rfl
theorem ok_with_flipped {f : Addr} {fd : FuncData} (F : Fun K "with_flipped" "with_flipped" s_with_flipped f fd) (T : Txt K mg C_Node C_Session) (Z_Node : Klass P w K mg base "Node" C_Node 1 ["self", "kind", "so", "misread", "children"] (sp_Node_init K C_Node C_Session)) : FnOk P w K mg base CX0 3 f fd ["nodes", "j"] (sp_with_flipped K C_Node C_Session) := by
  refine F.ok sc_with_flipped (fun vs H Q E h => ?_) (fun cdv A outer s H vs Q E hr h => ?_)
  · obtain ⟨l, as, cs, d, j, rfl, _⟩ := h
    rfl
  · obtain ⟨l, as, cs, d, j, rfl, hD, hW, jl, k, q⟩ := h
    have el : (as.map V.ref).length = d.nodes.length := by rw [List.length_map, hD.len]
    refine ⟨_, (pss_cons (ps_set (i := 2) sc_with_flipped.nd rfl (Or.inl rfl) (pe_callTy call_list_of (by rfl) T.b_list (by decide +kernel) (pa_cons (pv 0) pa_nil)))
      (pss_cons (ps_asg (pe_new Z_Node (hr.mono (by decide)) (pa_cons (pgl T.c_LEAF) (pa_cons (pe_op op_sub pe_int (pe_fld (pe_ix ix_list (pv 0) (pv 1) (fun _ _ => rfl)) rfl)) (pa_cons (pe_fld (pe_ix ix_list (pv 0) (pv 1) (fun _ _ => rfl)) rfl) (pa_cons (pe_lst pa_nil) pa_nil))))) (pg_sub (pv 2) (pv 1) set_list))
      (pss_one (ps_ret (pv 2))))), ?_⟩
    refine ⟨_, rfl, l, _, rfl, .inl (SqL.of hD.lst), fun t ht => ?_⟩
    have s0 := same_new (o := .lst (as.map V.ref)) ht
    have hD0 := hD.same s0
    obtain ⟨a, ha, hN⟩ := hD0.get jl
    obtain ⟨dx0, c0, h1, h2⟩ := hN.ex
    refine ⟨_, rfl, _, rfl, l, _, _, _, rfl, rfl, SqL.of hD0.lst, refs_at ha, a, C_Node, dx0, _, _, rfl, h1, T.cl_Node, T.n_Node_so, nF_so _ _, _, _, rfl, rfl, ?_⟩
    refine ⟨_, rfl, _, rfl, l, _, _, _, rfl, rfl, SqL.of hD0.lst, refs_at ha, a, C_Node, dx0, _, _, rfl, h1, T.cl_Node, T.n_Node_misread, nF_misread _ _, (by show 0 ≤ sizeLine; decide), fun c hc => ?_⟩
    have s1 := s0.trans (same_new (o := .lst []) hc)
    intro x dx nx nd ne
    refine ⟨x, dx, _, _, _, _, rfl, upd_same, fun H2 hx k2 => ⟨rfl, ?_⟩⟩
    have s2 := Same.made nx nd k2
    have s := s1.trans s2
    have ht2 : H2 t = some (.lst (as.map V.ref)) := s2 _ _ (same_new (o := .lst []) hc _ _ upd_same)
    have hc2 : H2 c = some (.lst []) := s2 _ _ upd_same
    have ct : c ≠ t := ne_of_none' (upd_same (H := H) (a := t) (o := .lst (as.map V.ref))) hc
    have xt : x ≠ t := ne_of hx ht2 fun e => by cases e
    have nk := (hW.at_ j).leaf k
    refine ⟨_, rfl, _, rfl, t, _, _, j, rfl, rfl, ht2, by rw [el]; exact ixN_at jl, ?_⟩
    refine ⟨_, rfl, ?_⟩
    have sf : Same H (upd H2 t (.lst ((as.map V.ref).set j (V.ref x)))) := fun b o e => by
      rw [upd_ne (ne_of_none e ht)]
      exact s b o e
    refine q _ t _ _ sf ht ((hD.same sf).alter (x := x) (c := c) (dx := dx) (m := { nodeAt d j with so := 1 - (nodeAt d j).so }) upd_same ?_ ?_ ((hD.same s1).not_mem nx))
    · have ev : (1 : Int) - ((nodeAt d j).so : Int) = ((1 - (nodeAt d j).so : Nat) : Int) := by
        have := nk.2
        omega
      rw [upd_ne xt, hx, show ((fun (i j : Int) => V.int (i - j)) 1 ((nodeAt d j).so : Int)) = V.int ((1 - (nodeAt d j).so : Nat) : Int) from congrArg V.int ev]
      unfold nF
      rw [k]
      rfl
    · rw [upd_ne ct, hc2]
      unfold kidsV
      show _ = some (HO.lst ((nodeAt d j).kids.map fun (k : Nat) => V.int (k : Int)))
      rw [nk.1]
      rfl
theorem ok_tell_if_misread {f : Addr} {fd : FuncData} (F : Fun K "tell_if_misread" "tell_if_misread" s_tell_if_misread f fd) (T : Txt K mg C_Node C_Session) (D_fraction : Def P w K mg base "fraction" 2 ["hundredths"] (sp_fraction K C_Node C_Session)) (D_right_hundredths : Def P w K mg base "right_hundredths" 3 ["nodes", "i"] (sp_right_hundredths K C_Node C_Session)) (D_with_misread : Def P w K mg base "with_misread" 3 ["nodes", "j", "misread"] (sp_with_misread K C_Node C_Session)) (D_leaves_below : Def P w K mg base "leaves_below" 2 ["nodes"] (sp_leaves_below K C_Node C_Session)) : FnOk P w K mg base CX0 4 f fd ["nodes", "i", "j", "misread"] (sp_tell_if_misread K C_Node C_Session) := by
  refine F.ok sc_tell_if_misread (fun vs H Q E h => ?_) (fun cdv A outer s H vs Q E hr h => ?_)
  · obtain ⟨l, d, i, j, v, rfl, _⟩ := h
    rfl
  · obtain ⟨l, d, i, j, v, rfl, as, cs, hD, hW, q⟩ := h
    have el : (as.map V.ref).length = d.nodes.length := by rw [List.length_map, hD.len]
    refine ⟨_, (pss_cons (ps_if (pt_cmpR op_gt (pv 3) (pgl T.c_WHOLE) (nomark _)) (pss_one (ps_ret (pe_lst (pa_cons (pgl T.c_BAD_NUMBERS) pa_nil)))) pss_nil)
      (pss_cons (ps_if (PW.pt (pw_or (pt_cmpR op_ge (pv 1) (pe_callB call_len_seq (by rfl) T.b_len (by decide +kernel) (pa_cons (pv 0) pa_nil)) (nomark _)) (pw_or1 (pt_cmpR op_ge (pv 2) (pe_callB call_len_seq (by rfl) T.b_len (by decide +kernel) (pa_cons (pv 0) pa_nil)) (nomark _))))) (pss_one (ps_ret (pe_lst (pa_cons (pgl T.c_NO_NODE) pa_nil)))) pss_nil)
      (pss_cons (ps_if (pt_cmpR op_notIn_seq (pv 2) (pe_ix ix_list (pe_def D_leaves_below (hr.mono (by decide)) (pa_cons (pv 0) pa_nil)) (pv 1) (fun _ _ => rfl)) (by rfl)) (pss_one (ps_ret (pe_lst (pa_cons (pgl T.c_UNFIT) pa_nil)))) pss_nil)
      (pss_one (ps_ret (pe_op op_cat (pe_lst (pa_cons pe_int pa_nil)) (pe_def D_fraction (hr.mono (by decide)) (pa_cons (pe_def D_right_hundredths (hr.mono (by decide)) (pa_cons (pe_def D_with_misread (hr.mono (by decide)) (pa_cons (pv 0) (pa_cons (pv 2) (pa_cons (pv 3) pa_nil)))) (pa_cons (pv 1) pa_nil))) pa_nil)))))))), ?_⟩
    refine ⟨_, rfl, _, _, rfl, rfl, _, rfl, if_dec (fun z => ?_) (fun z => ?_)⟩
    · rw [ifWrong_bad (by omega)] at q
      exact ⟨(by show 1 ≤ sizeLine; decide), fun p hp => q _ p (same_new hp) hp upd_same⟩
    have v100 : ¬ 100 < v := by omega
    refine ⟨_, rfl, _, rfl, l, _, rfl, .inl (SqL.of hD.lst), _, _, rfl, rfl, _, rfl, if_dec (fun z => ?_) (fun z => ?_)⟩
    · rw [el] at z
      rw [ifWrong_no v100 (.inl (by omega))] at q
      exact ⟨(by show 1 ≤ sizeLine; decide), fun p hp => q _ p (same_new hp) hp upd_same⟩
    rw [el] at z
    have lt : i < d.nodes.length := by omega
    refine ⟨_, rfl, _, rfl, l, _, rfl, .inl (SqL.of hD.lst), _, _, rfl, rfl, _, rfl, if_dec (fun z => ?_) (fun z => ?_)⟩
    · rw [el] at z
      rw [ifWrong_no v100 (.inr (by omega))] at q
      exact ⟨(by show 1 ≤ sizeLine; decide), fun p hp => q _ p (same_new hp) hp upd_same⟩
    rw [el] at z
    have jl : j < d.nodes.length := by omega
    have i20 : i ≤ 20 := by
      have := hW.len
      omega
    refine ⟨_, rfl, _, rfl, l, d, rfl, as, cs, hD, hW, fun H1 p ps s1 hp h1 hR => ?_⟩
    obtain ⟨x, hx, hx'⟩ := hR.get (i := i) (by unfold lvs; rw [List.length_map, List.length_range]; exact lt)
    unfold lvs at hx'
    rw [rows_get lt] at hx'
    refine ⟨_, rfl, p, _, _, _, rfl, rfl, SqL.of h1, refs_at hx, x, _, rfl, .inl (SqL.of hx'), rfl, flat_ints _, _, rfl, ?_⟩
    show if (!inV (.int (j : Int)) ((up (Kp365.leaves d i)).map V.int)) = true then _ else _
    rw [inV_int]
    by_cases m : j ∈ Kp365.leaves d i
    · refine if_false_of (by rw [decide_eq_true (mem_up.mpr m)]; rfl) ?_
      have kj := leaves_leaf hW i i20 m
      rw [ifWrong_in hW v100 lt jl m] at q
      have wj := wf_wrong (v := v) hW jl (by omega)
      refine ⟨(by show 1 ≤ sizeLine; decide), fun z0 hz0 => ?_⟩
      have s2 := s1.trans (same_new (o := .lst [V.int 0]) hz0)
      refine ⟨_, rfl, _, rfl, _, rfl, l, as, cs, d, j, v, rfl, hD.same s2, hW, jl, kj, fun H3 p3 as' cs' s3 hp3 hD3 => ?_⟩
      refine ⟨_, rfl, p3, as', cs', Kp365.withWrong d j v, i, rfl, hD3, wj, by rw [wrong_len]; exact lt, fun H4 s4 => ?_⟩
      refine ⟨right100 (Kp365.withWrong d j v) i, rfl, right100_le wj.mild i, fun H5 t2 s5 ht2 h5 => ?_⟩
      refine ⟨z0, t2, _, _, rfl, rfl, s5 _ _ (s4 _ _ (s3 _ _ upd_same)), h5, (by show 1 + 2 ≤ sizeLine; decide), fun p hp => ?_⟩
      have s := ((s2.trans s3).trans s4).trans s5
      exact q _ p (s.trans (same_new hp)) (s.free hp) upd_same
    · refine if_true_of (by rw [decide_eq_false (fun z => m (mem_up.mp z))]; rfl) ?_
      rw [ifWrong_out v100 lt jl m] at q
      exact ⟨(by show 1 ≤ sizeLine; decide), fun p hp => q _ p (s1.trans (same_new hp)) (s1.free hp) upd_same⟩
theorem ok_tell_if_flipped {f : Addr} {fd : FuncData} (F : Fun K "tell_if_flipped" "tell_if_flipped" s_tell_if_flipped f fd) (T : Txt K mg C_Node C_Session) (D_truths : Def P w K mg base "truths" 2 ["nodes"] (sp_truths K C_Node C_Session)) (D_with_flipped : Def P w K mg base "with_flipped" 3 ["nodes", "j"] (sp_with_flipped K C_Node C_Session)) (D_leaves_below : Def P w K mg base "leaves_below" 2 ["nodes"] (sp_leaves_below K C_Node C_Session)) : FnOk P w K mg base CX0 4 f fd ["nodes", "i", "j"] (sp_tell_if_flipped K C_Node C_Session) := by
  refine F.ok sc_tell_if_flipped (fun vs H Q E h => ?_) (fun cdv A outer s H vs Q E hr h => ?_)
  · obtain ⟨l, d, i, j, rfl, _⟩ := h
    rfl
  · obtain ⟨l, d, i, j, rfl, as, cs, hD, hW, q⟩ := h
    have el : (as.map V.ref).length = d.nodes.length := by rw [List.length_map, hD.len]
    refine ⟨_, (pss_cons (ps_if (PW.pt (pw_or (pt_cmpR op_ge (pv 1) (pe_callB call_len_seq (by rfl) T.b_len (by decide +kernel) (pa_cons (pv 0) pa_nil)) (nomark _)) (pw_or1 (pt_cmpR op_ge (pv 2) (pe_callB call_len_seq (by rfl) T.b_len (by decide +kernel) (pa_cons (pv 0) pa_nil)) (nomark _))))) (pss_one (ps_ret (pe_lst (pa_cons (pgl T.c_NO_NODE) pa_nil)))) pss_nil)
      (pss_cons (ps_if (pt_cmpR op_notIn_seq (pv 2) (pe_ix ix_list (pe_def D_leaves_below (hr.mono (by decide)) (pa_cons (pv 0) pa_nil)) (pv 1) (fun _ _ => rfl)) (by rfl)) (pss_one (ps_ret (pe_lst (pa_cons (pgl T.c_UNFIT) pa_nil)))) pss_nil)
      (pss_one (ps_ret (pe_lst (pa_cons (pe_ix ix_list (pe_def D_truths (hr.mono (by decide)) (pa_cons (pe_def D_with_flipped (hr.mono (by decide)) (pa_cons (pv 0) (pa_cons (pv 2) pa_nil))) pa_nil)) (pv 1) (fun _ _ => rfl)) pa_nil)))))), ?_⟩
    refine ⟨_, rfl, _, rfl, l, _, rfl, .inl (SqL.of hD.lst), _, _, rfl, rfl, _, rfl, if_dec (fun z => ?_) (fun z => ?_)⟩
    · rw [el] at z
      rw [ifFlip_no (.inl (by omega))] at q
      exact ⟨(by show 1 ≤ sizeLine; decide), fun p hp => q _ p (same_new hp) hp upd_same⟩
    rw [el] at z
    have lt : i < d.nodes.length := by omega
    refine ⟨_, rfl, _, rfl, l, _, rfl, .inl (SqL.of hD.lst), _, _, rfl, rfl, _, rfl, if_dec (fun z => ?_) (fun z => ?_)⟩
    · rw [el] at z
      rw [ifFlip_no (.inr (by omega))] at q
      exact ⟨(by show 1 ≤ sizeLine; decide), fun p hp => q _ p (same_new hp) hp upd_same⟩
    rw [el] at z
    have jl : j < d.nodes.length := by omega
    have i20 : i ≤ 20 := by
      have := hW.len
      omega
    refine ⟨_, rfl, _, rfl, l, d, rfl, as, cs, hD, hW, fun H1 p ps s1 hp h1 hR => ?_⟩
    obtain ⟨x, hx, hx'⟩ := hR.get (i := i) (by unfold lvs; rw [List.length_map, List.length_range]; exact lt)
    unfold lvs at hx'
    rw [rows_get lt] at hx'
    refine ⟨_, rfl, p, _, _, _, rfl, rfl, SqL.of h1, refs_at hx, x, _, rfl, .inl (SqL.of hx'), rfl, flat_ints _, _, rfl, ?_⟩
    show if (!inV (.int (j : Int)) ((up (Kp365.leaves d i)).map V.int)) = true then _ else _
    rw [inV_int]
    by_cases m : j ∈ Kp365.leaves d i
    · refine if_false_of (by rw [decide_eq_true (mem_up.mpr m)]; rfl) ?_
      have kj := leaves_leaf hW i i20 m
      rw [ifFlip_in lt jl m] at q
      refine ⟨_, rfl, _, rfl, l, as, cs, d, j, rfl, hD.same s1, hW, jl, kj, fun H3 p3 as' cs' s3 hp3 hD3 => ?_⟩
      refine ⟨p3, Kp365.withSo d j, rfl, as', cs', hD3, wf_so hW jl kj, fun H4 t s4 ht h4 => ?_⟩
      have lt' : i < (Kp365.withSo d j).nodes.length := by rw [so_len]; exact lt
      refine ⟨_, rfl, t, _, _, _, rfl, rfl, SqL.of h4, range_at lt', (by show 1 ≤ sizeLine; decide), fun p hp => ?_⟩
      have s := (s1.trans s3).trans s4
      exact q _ p (s.trans (same_new hp)) (s.free hp) upd_same
    · refine if_true_of (by rw [decide_eq_false (fun z => m (mem_up.mp z))]; rfl) ?_
      rw [ifFlip_out lt jl m] at q
      exact ⟨(by show 1 ≤ sizeLine; decide), fun p hp => q _ p (s1.trans (same_new hp)) (s1.free hp) upd_same⟩
end
end Dp

namespace Dp
open PySem PySem.Spec PyProof.Rows L2
open Kp365 (Desk Node nodeAt isTrue)
open Dm Ml
theorem leaves_pos {d : Desk} (w : WF d) : ∀ i, i ≤ 20 → 0 < (Kp365.leaves d i).length := by
  intro i
  induction i using Nat.strongRecOn with
  | ind i ih =>
    intro hi
    rw [leaves_eq w.down hi]
    by_cases k : (nodeAt d i).kind = 0
    · rw [if_pos k]
      exact Nat.succ_pos _
    · rw [if_neg k]
      have jn := (w.at_ i).joint k
      match e : (nodeAt d i).kids, jn with
      | x :: l, _ =>
        have hx : x ∈ (nodeAt d i).kids := by rw [e]; exact List.mem_cons_self ..
        have lt := w.down i x hx
        have h1 := ih x lt (by omega)
        have h2 := flat_one (g := Kp365.leaves d) (l := x :: l) (List.mem_cons_self ..)
        omega
section
variable {P : Program} {w : World} {K : PySem.W.Frag} {mg : Str → Option Value} {base : Heap} {C_Node C_Session : Addr}
theorem ok_tell_matter {f : Addr} {fd : FuncData} (F : Fun K "tell_matter" "tell_matter" s_tell_matter f fd) (T : Txt K mg C_Node C_Session) (D_counted : Def P w K mg base "counted" 1 ["row"] (sp_counted K C_Node C_Session)) (D_truths : Def P w K mg base "truths" 2 ["nodes"] (sp_truths K C_Node C_Session)) (D_with_flipped : Def P w K mg base "with_flipped" 3 ["nodes", "j"] (sp_with_flipped K C_Node C_Session)) (D_leaves_below : Def P w K mg base "leaves_below" 2 ["nodes"] (sp_leaves_below K C_Node C_Session)) : FnOk P w K mg base CX0 4 f fd ["nodes", "i"] (sp_tell_matter K C_Node C_Session) := by
  refine F.ok sc_tell_matter (fun vs H Q E h => ?_) (fun cdv A outer s H vs Q E hr h => ?_)
  · obtain ⟨l, d, i, rfl, _⟩ := h
    rfl
  · obtain ⟨l, d, i, rfl, as, cs, hD, hW, q⟩ := h
    have el : (as.map V.ref).length = d.nodes.length := by rw [List.length_map, hD.len]
    refine ⟨_, (pss_cons (ps_if (pt_cmpR op_ge (pv 1) (pe_callB call_len_seq (by rfl) T.b_len (by decide +kernel) (pa_cons (pv 0) pa_nil)) (nomark _)) (pss_one (ps_ret (pe_lst (pa_cons (pgl T.c_NO_NODE) pa_nil)))) pss_nil)
      (pss_cons (ps_set (i := 2) sc_tell_matter.nd rfl (Or.inr rfl) (pe_ix ix_list (pe_def D_truths (hr.mono (by decide)) (pa_cons (pv 0) pa_nil)) (pv 1) (fun _ _ => rfl)))
      (pss_one (ps_ret (pe_def D_counted (hr.mono (by decide)) (pa_cons (pe_lc (own := [("leaf", 3)]) (g := gName 3) (te := (tVar 3)) (tt := (tTest (tOp rNe (tOp (rIxL K) (tCall (sp_truths K C_Node C_Session) [] E0 (tCons (tCall (sp_with_flipped K C_Node C_Session) [] E0 (tCons (tVar 0) (tCons (tVar 3) tNil))) tNil)) (tVar 1)) (tVar 2)))) (by rfl) sc_tell_matter.nd (pi_list (pe_ix ix_list (pe_def D_leaves_below (hr.mono (by decide)) (pa_cons (pv 0) pa_nil)) (pv 1) (fun _ _ => rfl))) (blkOk_by (own := [("leaf", 3)]) (N := ["nodes", "i", "now", "leaf"]) (sc := defScope s_tell_matter) (by decide +kernel)) (fun _ _ _ _ _ => pg_name (i := 3) sc_tell_matter.nd rfl (Or.inl rfl)) (fun _ _ _ _ _ => (pts_one (pt_cmpR op_ne (pe_ix ix_list (pe_def D_truths (hr.mono (by decide)) (pa_cons (pe_def D_with_flipped (hr.mono (by decide)) (pa_cons (pv 0) (pa_cons (pv 3) pa_nil))) pa_nil)) (pv 1) (fun _ _ => rfl)) (pv 2) (nomark _)))) (fun _ _ _ _ _ => (pv 3))) pa_nil)))))), ?_⟩
    refine ⟨_, rfl, _, rfl, l, _, rfl, .inl (SqL.of hD.lst), _, _, rfl, rfl, _, rfl, if_dec (fun z => ?_) (fun z => ?_)⟩
    · rw [el] at z
      rw [of_no (c := .matter i) rfl (by omega)] at q
      exact ⟨(by show 1 ≤ sizeLine; decide), fun p hp => q _ p (same_new hp) hp upd_same⟩
    rw [el] at z
    have lt : i < d.nodes.length := by omega
    have i20 : i ≤ 20 := by
      have := hW.len
      omega
    have ll := leaves_len hW i20
    rw [matter_A lt] at q
    refine ⟨_, rfl, l, d, rfl, as, cs, hD, hW, fun H0 b s0 hb hbits => ?_⟩
    refine ⟨_, rfl, b, _, _, _, rfl, rfl, SqL.of hbits, range_at lt, ?_⟩
    refine ⟨_, rfl, l, d, rfl, as, cs, hD.same s0, hW, fun H1 p ps s1 hp h1 hR => ?_⟩
    obtain ⟨x, hx, hx'⟩ := hR.get (i := i) (by unfold lvs; rw [List.length_map, List.length_range]; exact lt)
    unfold lvs at hx'
    rw [rows_get lt] at hx'
    have hD1 := (hD.same s0).same s1
    refine ⟨_, rfl, p, _, _, _, rfl, rfl, SqL.of h1, refs_at hx, x, rfl, ⟨_, SqL.of hx'⟩, fun D hD' => ?_⟩
    refine lc_list (K := K) (a := x) (xs := (up (Kp365.leaves d i)).map V.int) (fun j H6 => Same H1 H6 ∧ H6 D = some (.lst ((up (((Kp365.leaves d i).take j).filter fun j => isTrue (Kp365.withSo d j) i != isTrue d i)).map V.int))) ⟨same_new hD', upd_same⟩ (fun j H6 _ ⟨s6, _⟩ => SqL.of (s6 _ _ hx')) ?_ ?_
    · rintro j v H6 hj ⟨s6, h6⟩
      obtain ⟨k, hk, rfl⟩ := upV_at hj
      have mk := List.mem_of_getElem? hk
      have kl : k < d.nodes.length := by
        have := leaves_le hW i20 mk
        omega
      have kj := leaves_leaf hW i i20 mk
      refine ⟨rfl, _, rfl, _, rfl, l, as, cs, d, k, rfl, hD1.same s6, hW, kl, kj, fun H7 p7 as' cs' s7 hp7 hD7 => ?_⟩
      refine ⟨p7, Kp365.withSo d k, rfl, as', cs', hD7, wf_so hW kl kj, fun H8 t8 s8 ht8 h8 => ?_⟩
      have lt' : i < (Kp365.withSo d k).nodes.length := by rw [so_len]; exact lt
      have s9 := s7.trans s8
      refine ⟨_, rfl, t8, _, _, _, rfl, rfl, SqL.of h8, range_at lt', _, rfl, rfl, _, rfl, ?_⟩
      by_cases e : isTrue (Kp365.withSo d k) i = isTrue d i
      · refine if_false_of (by rw [bitN_eq.mpr e]; simp) ⟨s6.trans s9, ?_⟩
        have ne : ¬ (isTrue (Kp365.withSo d k) i != isTrue d i) = true := by rw [e]; simp
        rw [s9 _ _ h6, filter_more hk, if_neg ne, List.append_nil]
      · have yes : (isTrue (Kp365.withSo d k) i != isTrue d i) = true := by simpa using e
        refine if_true_of ?_ ⟨_, rfl, _, s9 _ _ h6, ?_, fun b o e => ?_, ?_⟩
        · have z : decide (V.int (bitN (Kp365.withSo d k) i : Int) = V.int (bitN d i : Int)) = false := decide_eq_false fun z => e (bitN_eq.mp (by have := V.int.inj z; omega))
          rw [z]
          rfl
        · have l1 := List.length_filter_le (fun j => isTrue (Kp365.withSo d j) i != isTrue d i) ((Kp365.leaves d i).take j)
          rw [List.length_take] at l1
          rw [List.length_map, up_len]
          exact small1000 (by omega)
        · rw [upd_ne (ne_of_none e hD')]
          exact s9 _ _ (s6 b o e)
        · rw [upd_same, filter_more hk, if_pos yes, up_append, List.map_append]
          rfl
    · rintro H6 ⟨s6, h6⟩
      have ek : ((up (Kp365.leaves d i)).map V.int).length = (Kp365.leaves d i).length := by rw [List.length_map, up_len]
      rw [ek, List.take_length] at h6
      have l1 := List.length_filter_le (fun j => isTrue (Kp365.withSo d j) i != isTrue d i) (Kp365.leaves d i)
      have s := (s0.trans s1).trans s6
      exact ⟨D, _, rfl, h6, by omega, fun H2 p2 s2 hp2 h2 => q H2 p2 (s.trans s2) (s.free hp2) h2⟩
theorem ok_tell_best {f : Addr} {fd : FuncData} (F : Fun K "tell_best" "tell_best" s_tell_best f fd) (T : Txt K mg C_Node C_Session) (D_fraction : Def P w K mg base "fraction" 2 ["hundredths"] (sp_fraction K C_Node C_Session)) (D_right_hundredths : Def P w K mg base "right_hundredths" 3 ["nodes", "i"] (sp_right_hundredths K C_Node C_Session)) (D_with_misread : Def P w K mg base "with_misread" 3 ["nodes", "j", "misread"] (sp_with_misread K C_Node C_Session)) (D_leaves_below : Def P w K mg base "leaves_below" 2 ["nodes"] (sp_leaves_below K C_Node C_Session)) : FnOk P w K mg base CX0 4 f fd ["nodes", "i"] (sp_tell_best K C_Node C_Session) := by
  refine F.ok sc_tell_best (fun vs H Q E h => ?_) (fun cdv A outer s H vs Q E hr h => ?_)
  · obtain ⟨l, d, i, rfl, _⟩ := h
    rfl
  · obtain ⟨l, d, i, rfl, as, cs, hD, hW, q⟩ := h
    have el : (as.map V.ref).length = d.nodes.length := by rw [List.length_map, hD.len]
    refine ⟨_, (pss_cons (ps_if (pt_cmpR op_ge (pv 1) (pe_callB call_len_seq (by rfl) T.b_len (by decide +kernel) (pa_cons (pv 0) pa_nil)) (nomark _)) (pss_one (ps_ret (pe_lst (pa_cons (pgl T.c_NO_NODE) pa_nil)))) pss_nil)
      (pss_cons (ps_set (i := 2) sc_tell_best.nd rfl (Or.inl rfl) (pe_ix ix_list (pe_def D_leaves_below (hr.mono (by decide)) (pa_cons (pv 0) pa_nil)) (pv 1) (fun _ _ => rfl)))
      (pss_cons (ps_setLc (i := 3) (own := [("leaf", 5)]) (g := gName 5) (te := (tCall (sp_right_hundredths K C_Node C_Session) [] E0 (tCons (tCall (sp_with_misread K C_Node C_Session) [] E0 (tCons (tVar 0) (tCons (tVar 5) (tCons (tC (.int 0)) tNil)))) (tCons (tVar 1) tNil)))) (tt := tYes) (by rfl) sc_tell_best.nd rfl rfl (sw_true rfl rfl rfl (by decide +kernel)) (pi_list (pv 2)) (blkOk_by (own := [("leaf", 5)]) (N := ["nodes", "i", "below", "wins", "most", "leaf"]) (sc := defScope s_tell_best) (by decide +kernel)) (fun _ _ _ _ _ => pg_name (i := 5) sc_tell_best.nd rfl (Or.inl rfl)) (fun _ _ _ _ _ => pts_nil) (fun _ _ _ _ _ => (pe_def D_right_hundredths (hr.mono (by decide)) (pa_cons (pe_def D_with_misread (hr.mono (by decide)) (pa_cons (pv 0) (pa_cons (pv 5) (pa_cons pe_int pa_nil)))) (pa_cons (pv 1) pa_nil)))))
      (pss_cons (ps_set (i := 4) sc_tell_best.nd rfl (Or.inl rfl) (pe_callB (cr_max rfl) (by rfl) T.b_max (by decide +kernel) (pa_cons (pv 3) pa_nil)))
      (pss_cons (ps_if (pt_cmpR op_le (pv 4) (pe_def D_right_hundredths (hr.mono (by decide)) (pa_cons (pv 0) (pa_cons (pv 1) pa_nil))) (nomark _)) (pss_one (ps_ret (pe_lst (pa_cons (pgl T.c_UNFIT) pa_nil)))) pss_nil)
      (pss_one (ps_ret (pe_op op_cat (pe_lst (pa_cons (pe_ix ix_list (pv 2) (pe_bm PySem.F.plainAttrs_list PySem.F.slot_list_index PySem.F.type_list_index mt_index (pv 3) (pa_cons (pv 4) pa_nil)) (fun _ _ => rfl)) pa_nil)) (pe_def D_fraction (hr.mono (by decide)) (pa_cons (pv 4) pa_nil)))))))))), ?_⟩
    refine ⟨_, rfl, _, rfl, l, _, rfl, .inl (SqL.of hD.lst), _, _, rfl, rfl, _, rfl, if_dec (fun z => ?_) (fun z => ?_)⟩
    · rw [el] at z
      rw [of_no (c := .best i) rfl (by omega)] at q
      exact ⟨(by show 1 ≤ sizeLine; decide), fun p hp => q _ p (same_new hp) hp upd_same⟩
    rw [el] at z
    have lt : i < d.nodes.length := by omega
    have i20 : i ≤ 20 := by
      have := hW.len
      omega
    have ll := leaves_len hW i20
    have lp := leaves_pos hW i i20
    rw [best_A hW lt] at q
    refine ⟨_, rfl, l, d, rfl, as, cs, hD, hW, fun H1 p ps s1 hp h1 hR => ?_⟩
    obtain ⟨x, hx, hx'⟩ := hR.get (i := i) (by unfold lvs; rw [List.length_map, List.length_range]; exact lt)
    unfold lvs at hx'
    rw [rows_get lt] at hx'
    have hD1 := hD.same s1
    refine ⟨_, rfl, p, _, _, _, rfl, rfl, SqL.of h1, refs_at hx, ?_⟩
    refine ⟨_, rfl, x, rfl, ⟨_, SqL.of hx'⟩, fun D hD' => ?_⟩
    refine lc_list (K := K) (a := x) (xs := (up (Kp365.leaves d i)).map V.int) (fun j H6 => Same H1 H6 ∧ H6 D = some (.lst ((up (((Kp365.leaves d i).take j).map fun j => right100 (Kp365.withWrong d j 0) i)).map V.int))) ⟨same_new hD', upd_same⟩ (fun j H6 _ ⟨s6, _⟩ => SqL.of (s6 _ _ hx')) ?_ ?_
    · rintro j v H6 hj ⟨s6, h6⟩
      obtain ⟨k, hk, rfl⟩ := upV_at hj
      have mk := List.mem_of_getElem? hk
      have kl : k < d.nodes.length := by
        have := leaves_le hW i20 mk
        omega
      have kj := leaves_leaf hW i i20 mk
      refine ⟨rfl, _, rfl, _, rfl, l, as, cs, d, k, 0, rfl, hD1.same s6, hW, kl, kj, fun H7 p7 as' cs' s7 hp7 hD7 => ?_⟩
      refine ⟨_, rfl, p7, as', cs', Kp365.withWrong d k 0, i, rfl, hD7, wf_wrong hW kl (Nat.zero_le _), by rw [wrong_len]; exact lt, fun H8 s8 => ?_⟩
      have s9 := s7.trans s8
      refine ⟨_, s9 _ _ h6, ?_, fun b o e => ?_, ?_⟩
      · rw [List.length_map, up_len, List.length_map, List.length_take]
        exact small1000 (by omega)
      · rw [upd_ne (ne_of_none e hD')]
        exact s9 _ _ (s6 b o e)
      · rw [upd_same, take_more hk, List.map_append, up_append, List.map_append]
        rfl
    · rintro H6 ⟨s6, h6⟩
      have ek : ((up (Kp365.leaves d i)).map V.int).length = (Kp365.leaves d i).length := by rw [List.length_map, up_len]
      rw [ek, List.take_length] at h6
      have ne : 0 < (up ((Kp365.leaves d i).map fun j => right100 (Kp365.withWrong d j 0) i)).length := by
        rw [up_len, List.length_map]
        exact lp
      refine ⟨_, rfl, D, _, rfl, SqL.of h6, ne, fun m hm le => ?_⟩
      obtain ⟨m', hm', rfl⟩ := List.mem_map.mp hm
      have le' : ∀ y ∈ Kp365.leaves d i, right100 (Kp365.withWrong d y 0) i ≤ m' := fun y hy => by
        have := le (right100 (Kp365.withWrong d y 0) i : Int) (List.mem_map.mpr ⟨_, List.mem_map.mpr ⟨y, hy, rfl⟩, rfl⟩)
        omega
      obtain ⟨y, hy, ey⟩ := List.mem_map.mp hm'
      have yl : y < d.nodes.length := by
        have := leaves_le hW i20 hy
        omega
      have m100 : m' ≤ 100 := by
        rw [← ey]
        exact right100_le (wf_wrong hW yl (Nat.zero_le _)).mild i
      have s7 := s1.trans s6
      refine ⟨_, rfl, _, rfl, _, rfl, l, as, cs, d, i, rfl, hD.same s7, hW, lt, fun H8 s8 => ?_⟩
      have s9 := s7.trans s8
      refine ⟨_, _, rfl, rfl, _, rfl, if_dec (fun z => ?_) (fun z => ?_)⟩
      · rw [if_pos (best100_none fun j hj => by have := le' j hj; omega)] at q
        exact ⟨(by show 1 ≤ sizeLine; decide), fun p hp => q _ p (s9.trans (same_new hp)) (s9.free hp) upd_same⟩
      · obtain ⟨r, e1, e2, hf⟩ := best100_some hW i20 ⟨y, hy, ey⟩ le' (by omega)
        rw [e1, if_neg e2] at q
        obtain ⟨j, hj, hpj, hbj⟩ := find_at hf
        refine ⟨_, rfl, _, rfl, .inl ⟨rfl, _, SqL.of (s8 _ _ h6)⟩, _, rfl, ?_⟩
        refine ⟨D, _, _, j, V.int (right100 (Kp365.withWrong d r 0) i : Int), rfl, rfl, SqL.of (s8 _ _ h6), rfl, flat_ints _, ?_, ?_, fun m z' hm hz => ?_, ?_⟩
        · unfold up
          rw [List.map_map, List.map_map, List.getElem?_map, hj]
          rfl
        · show ((right100 (Kp365.withWrong d r 0) i : Int) == (m' : Int)) = true
          rw [eq_of_beq hpj]
          exact beq_self_eq_true _
        · obtain ⟨k, hk, rfl⟩ := upV_at hz
          rw [List.getElem?_map] at hk
          cases e : (Kp365.leaves d i)[m]? with
          | none =>
            rw [e] at hk
            cases hk
          | some c' =>
            rw [e] at hk
            have ec : right100 (Kp365.withWrong d c' 0) i = k := Option.some.inj hk
            have nb := hbj m c' hm e
            rw [ec] at nb
            show ((k : Int) == (m' : Int)) = false
            have ne2 : ¬ k = m' := fun z => by
              rw [z, beq_self_eq_true] at nb
              cases nb
            cases z : ((k : Int) == (m' : Int)) with
            | false => rfl
            | true =>
              have := eq_of_beq z
              exact absurd (by omega) ne2
        · refine ⟨x, _, _, _, rfl, rfl, SqL.of (s8 _ _ (s6 _ _ hx')), up_get hj, (by show 1 ≤ sizeLine; decide), fun z0 hz0 => ?_⟩
          have s10 := s9.trans (same_new (o := .lst [V.int (r : Int)]) hz0)
          refine ⟨_, rfl, m', rfl, m100, fun H9 t2 s11 ht2 h9 => ?_⟩
          refine ⟨z0, t2, _, _, rfl, rfl, s11 _ _ upd_same, h9, (by show 1 + 2 ≤ sizeLine; decide), fun p hp => ?_⟩
          have s := s10.trans s11
          exact q _ p (s.trans (same_new hp)) (s.free hp) upd_same
end
end Dp

namespace Dp
open PySem PySem.Spec PyProof.Rows L2
open Kp365 (Desk Node nodeAt isTrue)
open Dm Ml
theorem cut_tail (v : V) (vs : List V) : cutV (v :: vs) (some 1) none = vs := by
  have e1 : HT.sIx (v :: vs).length 0 (some (1 : Int)) = 1 := by
    rw [show (1 : Int) = ((1 : Nat) : Int) from rfl, HT.sIx_nat]
    exact Nat.min_eq_left (Nat.succ_le_succ (Nat.zero_le _))
  have e2 : HT.sIx (v :: vs).length (v :: vs).length none = (v :: vs).length := rfl
  unfold cutV
  rw [e1, e2]
  show (vs.take (vs.length + 1 - 1)) = vs
  rw [Nat.add_sub_cancel, List.take_length]
section
variable {P : Program} {w : World} {K : PySem.W.Frag} {mg : Str → Option Value} {base : Heap} {C_Node C_Session : Addr}
theorem ok_answer_about_dispute {f : Addr} {fd : FuncData} (F : Fun K "answer_about_dispute" "answer_about_dispute" s_answer_about_dispute f fd) (T : Txt K mg C_Node C_Session) (D_tell_by_told_picks : Def P w K mg base "tell_by_told_picks" 3 ["nodes", "kind", "i", "row"] (sp_tell_by_told_picks K C_Node C_Session)) (D_tell_way : Def P w K mg base "tell_way" 3 ["nodes", "i"] (sp_tell_way K C_Node C_Session)) (D_tell_pick : Def P w K mg base "tell_pick" 3 ["nodes", "i"] (sp_tell_pick K C_Node C_Session)) (D_tell_right : Def P w K mg base "tell_right" 4 ["nodes", "i"] (sp_tell_right K C_Node C_Session)) (D_tell_held : Def P w K mg base "tell_held" 3 ["nodes", "i"] (sp_tell_held K C_Node C_Session)) (D_tell_true : Def P w K mg base "tell_true" 3 ["nodes", "i"] (sp_tell_true K C_Node C_Session)) : FnOk P w K mg base CX0 5 f fd ["nodes", "call", "numbers"] (sp_answer_about_dispute K C_Node C_Session) := by
  refine F.ok sc_answer_about_dispute (fun vs H Q E h => ?_) (fun cdv A outer s H vs Q E hr h => ?_)
  · obtain ⟨l, r, d, c, nums, cl, rfl, _⟩ := h
    rfl
  · obtain ⟨l, r, d, c, nums, cl, rfl, hr', hrl, sh, h1, h7, hd⟩ := h
    refine ⟨_, (pss_cons (ps_if (pt_cmpR op_eq (pv 1) (pgl T.c_CALL_TRUE) (nomark _)) (pss_one (ps_ret (pe_def D_tell_true (hr.mono (by decide)) (pa_cons (pv 0) (pa_cons (pe_ix ix_list (pv 2) pe_int (fun _ _ => rfl)) pa_nil))))) pss_nil)
      (pss_cons (ps_if (pt_cmpR op_eq (pv 1) (pgl T.c_CALL_HELD) (nomark _)) (pss_one (ps_ret (pe_def D_tell_held (hr.mono (by decide)) (pa_cons (pv 0) (pa_cons (pe_ix ix_list (pv 2) pe_int (fun _ _ => rfl)) pa_nil))))) pss_nil)
      (pss_cons (ps_if (pt_cmpR op_eq (pv 1) (pgl T.c_CALL_RIGHT) (nomark _)) (pss_one (ps_ret (pe_def D_tell_right (hr.mono (by decide)) (pa_cons (pv 0) (pa_cons (pe_ix ix_list (pv 2) pe_int (fun _ _ => rfl)) pa_nil))))) pss_nil)
      (pss_cons (ps_if (pt_cmpR op_eq (pv 1) (pgl T.c_CALL_PICK) (nomark _)) (pss_one (ps_ret (pe_def D_tell_pick (hr.mono (by decide)) (pa_cons (pv 0) (pa_cons (pe_ix ix_list (pv 2) pe_int (fun _ _ => rfl)) pa_nil))))) pss_nil)
      (pss_cons (ps_if (pt_cmpR op_eq (pv 1) (pgl T.c_CALL_WAY) (nomark _)) (pss_one (ps_ret (pe_def D_tell_way (hr.mono (by decide)) (pa_cons (pv 0) (pa_cons (pe_ix ix_list (pv 2) pe_int (fun _ _ => rfl)) pa_nil))))) pss_nil)
      (pss_cons (ps_set (i := 3) sc_answer_about_dispute.nd rfl (Or.inl rfl) (pe_ifExp (pt_cmpR op_eq (pv 1) (pgl T.c_CALL_BYSAY) (nomark _)) (pgl T.c_SOME_OF) (pgl T.c_ALL_OF)))
      (pss_one (ps_ret (pe_def D_tell_by_told_picks (hr.mono (by decide)) (pa_cons (pv 0) (pa_cons (pv 3) (pa_cons (pe_ix ix_list (pv 2) pe_int (fun _ _ => rfl)) (pa_cons (pe_slice sl_list (pv 2) (po_some pe_int) po_none) pa_nil))))))))))))), ?_⟩
    cases sh with
    | true_ a =>
      refine ⟨_, rfl, rfl, _, rfl, if_true_of rfl ?_⟩
      exact ⟨_, rfl, _, rfl, r, _, _, _, rfl, rfl, SqL.of hr', rfl, l, d, a, rfl, hd⟩
    | held a =>
      refine ⟨_, rfl, rfl, _, rfl, if_false_of rfl ?_⟩
      refine ⟨_, rfl, rfl, _, rfl, if_true_of rfl ?_⟩
      exact ⟨_, rfl, _, rfl, r, _, _, _, rfl, rfl, SqL.of hr', rfl, l, d, a, rfl, hd⟩
    | right a =>
      refine ⟨_, rfl, rfl, _, rfl, if_false_of rfl ?_⟩
      refine ⟨_, rfl, rfl, _, rfl, if_false_of rfl ?_⟩
      refine ⟨_, rfl, rfl, _, rfl, if_true_of rfl ?_⟩
      exact ⟨_, rfl, _, rfl, r, _, _, _, rfl, rfl, SqL.of hr', rfl, l, d, a, rfl, hd⟩
    | pick a =>
      refine ⟨_, rfl, rfl, _, rfl, if_false_of rfl ?_⟩
      refine ⟨_, rfl, rfl, _, rfl, if_false_of rfl ?_⟩
      refine ⟨_, rfl, rfl, _, rfl, if_false_of rfl ?_⟩
      refine ⟨_, rfl, rfl, _, rfl, if_true_of rfl ?_⟩
      exact ⟨_, rfl, _, rfl, r, _, _, _, rfl, rfl, SqL.of hr', rfl, l, d, a, rfl, hd⟩
    | way a =>
      refine ⟨_, rfl, rfl, _, rfl, if_false_of rfl ?_⟩
      refine ⟨_, rfl, rfl, _, rfl, if_false_of rfl ?_⟩
      refine ⟨_, rfl, rfl, _, rfl, if_false_of rfl ?_⟩
      refine ⟨_, rfl, rfl, _, rfl, if_false_of rfl ?_⟩
      refine ⟨_, rfl, rfl, _, rfl, if_true_of rfl ?_⟩
      exact ⟨_, rfl, _, rfl, r, _, _, _, rfl, rfl, SqL.of hr', rfl, l, d, a, rfl, hd⟩
    | bySay a row hl =>
      refine ⟨_, rfl, rfl, _, rfl, if_false_of rfl ?_⟩
      refine ⟨_, rfl, rfl, _, rfl, if_false_of rfl ?_⟩
      refine ⟨_, rfl, rfl, _, rfl, if_false_of rfl ?_⟩
      refine ⟨_, rfl, rfl, _, rfl, if_false_of rfl ?_⟩
      refine ⟨_, rfl, rfl, _, rfl, if_false_of rfl ?_⟩
      refine ⟨_, rfl, rfl, _, rfl, if_true_of rfl ?_⟩
      obtain ⟨as, cs, hD, hW, q⟩ := hd
      refine ⟨_, rfl, _, rfl, _, rfl, r, _, _, _, rfl, rfl, SqL.of hr', at_int (j := 0) rfl rfl, _, rfl, _, rfl, r, _, rfl, SqL.of hr', fun p hp => ?_⟩
      rw [List.map_cons, cut_tail]
      have s0 := same_new (o := .lst ((up row).map V.int)) hp
      exact ⟨l, p, d, 2, a, row, rfl, .inr rfl, upd_same, as, cs, hD.same s0, hW, fun H2 p2 s2 hp2 h2 => q H2 p2 (s0.trans s2) (s0.free hp2) h2⟩
    | byDoubt a row hl =>
      refine ⟨_, rfl, rfl, _, rfl, if_false_of rfl ?_⟩
      refine ⟨_, rfl, rfl, _, rfl, if_false_of rfl ?_⟩
      refine ⟨_, rfl, rfl, _, rfl, if_false_of rfl ?_⟩
      refine ⟨_, rfl, rfl, _, rfl, if_false_of rfl ?_⟩
      refine ⟨_, rfl, rfl, _, rfl, if_false_of rfl ?_⟩
      refine ⟨_, rfl, rfl, _, rfl, if_false_of rfl ?_⟩
      obtain ⟨as, cs, hD, hW, q⟩ := hd
      refine ⟨_, rfl, _, rfl, _, rfl, r, _, _, _, rfl, rfl, SqL.of hr', at_int (j := 0) rfl rfl, _, rfl, _, rfl, r, _, rfl, SqL.of hr', fun p hp => ?_⟩
      rw [List.map_cons, cut_tail]
      have s0 := same_new (o := .lst ((up row).map V.int)) hp
      exact ⟨l, p, d, 1, a, row, rfl, .inl rfl, upd_same, as, cs, hD.same s0, hW, fun H2 p2 s2 hp2 h2 => q H2 p2 (s0.trans s2) (s0.free hp2) h2⟩
    | _ => exfalso; omega
theorem ok_answer_about_leaves {f : Addr} {fd : FuncData} (F : Fun K "answer_about_leaves" "answer_about_leaves" s_answer_about_leaves f fd) (T : Txt K mg C_Node C_Session) (D_tell_depth : Def P w K mg base "tell_depth" 2 ["nodes", "i"] (sp_tell_depth K C_Node C_Session)) (D_tell_best : Def P w K mg base "tell_best" 4 ["nodes", "i"] (sp_tell_best K C_Node C_Session)) (D_tell_if_flipped : Def P w K mg base "tell_if_flipped" 4 ["nodes", "i", "j"] (sp_tell_if_flipped K C_Node C_Session)) (D_tell_if_misread : Def P w K mg base "tell_if_misread" 4 ["nodes", "i", "j", "misread"] (sp_tell_if_misread K C_Node C_Session)) (D_tell_matter : Def P w K mg base "tell_matter" 4 ["nodes", "i"] (sp_tell_matter K C_Node C_Session)) (D_tell_leaves : Def P w K mg base "tell_leaves" 3 ["nodes", "i"] (sp_tell_leaves K C_Node C_Session)) (D_tell_proof : Def P w K mg base "tell_proof" 4 ["nodes", "i"] (sp_tell_proof K C_Node C_Session)) : FnOk P w K mg base CX0 5 f fd ["nodes", "call", "numbers"] (sp_answer_about_leaves K C_Node C_Session) := by
  refine F.ok sc_answer_about_leaves (fun vs H Q E h => ?_) (fun cdv A outer s H vs Q E hr h => ?_)
  · obtain ⟨l, r, d, c, nums, cl, rfl, _⟩ := h
    rfl
  · obtain ⟨l, r, d, c, nums, cl, rfl, hr', hrl, sh, h1, hd⟩ := h
    refine ⟨_, (pss_cons (ps_if (pt_cmpR op_eq (pv 1) (pgl T.c_CALL_PROOF) (nomark _)) (pss_one (ps_ret (pe_def D_tell_proof (hr.mono (by decide)) (pa_cons (pv 0) (pa_cons (pe_ix ix_list (pv 2) pe_int (fun _ _ => rfl)) pa_nil))))) pss_nil)
      (pss_cons (ps_if (pt_cmpR op_eq (pv 1) (pgl T.c_CALL_LEAVES) (nomark _)) (pss_one (ps_ret (pe_def D_tell_leaves (hr.mono (by decide)) (pa_cons (pv 0) (pa_cons (pe_ix ix_list (pv 2) pe_int (fun _ _ => rfl)) pa_nil))))) pss_nil)
      (pss_cons (ps_if (pt_cmpR op_eq (pv 1) (pgl T.c_CALL_MATTER) (nomark _)) (pss_one (ps_ret (pe_def D_tell_matter (hr.mono (by decide)) (pa_cons (pv 0) (pa_cons (pe_ix ix_list (pv 2) pe_int (fun _ _ => rfl)) pa_nil))))) pss_nil)
      (pss_cons (ps_if (pt_cmpR op_eq (pv 1) (pgl T.c_CALL_IFWRONG) (nomark _)) (pss_one (ps_ret (pe_def D_tell_if_misread (hr.mono (by decide)) (pa_cons (pv 0) (pa_cons (pe_ix ix_list (pv 2) pe_int (fun _ _ => rfl)) (pa_cons (pe_ix ix_list (pv 2) pe_int (fun _ _ => rfl)) (pa_cons (pe_ix ix_list (pv 2) pe_int (fun _ _ => rfl)) pa_nil))))))) pss_nil)
      (pss_cons (ps_if (pt_cmpR op_eq (pv 1) (pgl T.c_CALL_IFFLIP) (nomark _)) (pss_one (ps_ret (pe_def D_tell_if_flipped (hr.mono (by decide)) (pa_cons (pv 0) (pa_cons (pe_ix ix_list (pv 2) pe_int (fun _ _ => rfl)) (pa_cons (pe_ix ix_list (pv 2) pe_int (fun _ _ => rfl)) pa_nil)))))) pss_nil)
      (pss_cons (ps_if (pt_cmpR op_eq (pv 1) (pgl T.c_CALL_BEST) (nomark _)) (pss_one (ps_ret (pe_def D_tell_best (hr.mono (by decide)) (pa_cons (pv 0) (pa_cons (pe_ix ix_list (pv 2) pe_int (fun _ _ => rfl)) pa_nil))))) pss_nil)
      (pss_one (ps_ret (pe_def D_tell_depth (hr.mono (by decide)) (pa_cons (pv 0) (pa_cons (pe_ix ix_list (pv 2) pe_int (fun _ _ => rfl)) pa_nil))))))))))), ?_⟩
    cases sh with
    | proof a =>
      refine ⟨_, rfl, rfl, _, rfl, if_true_of rfl ?_⟩
      exact ⟨_, rfl, _, rfl, r, _, _, _, rfl, rfl, SqL.of hr', rfl, l, d, a, rfl, hd⟩
    | leaves a =>
      refine ⟨_, rfl, rfl, _, rfl, if_false_of rfl ?_⟩
      refine ⟨_, rfl, rfl, _, rfl, if_true_of rfl ?_⟩
      exact ⟨_, rfl, _, rfl, r, _, _, _, rfl, rfl, SqL.of hr', rfl, l, d, a, rfl, hd⟩
    | matter a =>
      refine ⟨_, rfl, rfl, _, rfl, if_false_of rfl ?_⟩
      refine ⟨_, rfl, rfl, _, rfl, if_false_of rfl ?_⟩
      refine ⟨_, rfl, rfl, _, rfl, if_true_of rfl ?_⟩
      exact ⟨_, rfl, _, rfl, r, _, _, _, rfl, rfl, SqL.of hr', rfl, l, d, a, rfl, hd⟩
    | ifWrong a b c =>
      refine ⟨_, rfl, rfl, _, rfl, if_false_of rfl ?_⟩
      refine ⟨_, rfl, rfl, _, rfl, if_false_of rfl ?_⟩
      refine ⟨_, rfl, rfl, _, rfl, if_false_of rfl ?_⟩
      refine ⟨_, rfl, rfl, _, rfl, if_true_of rfl ?_⟩
      exact ⟨_, rfl, _, rfl, r, _, _, _, rfl, rfl, SqL.of hr', rfl, _, rfl, r, _, _, _, rfl, rfl, SqL.of hr', rfl, _, rfl, r, _, _, _, rfl, rfl, SqL.of hr', rfl, l, d, a, b, c, rfl, hd⟩
    | ifFlip a b =>
      refine ⟨_, rfl, rfl, _, rfl, if_false_of rfl ?_⟩
      refine ⟨_, rfl, rfl, _, rfl, if_false_of rfl ?_⟩
      refine ⟨_, rfl, rfl, _, rfl, if_false_of rfl ?_⟩
      refine ⟨_, rfl, rfl, _, rfl, if_false_of rfl ?_⟩
      refine ⟨_, rfl, rfl, _, rfl, if_true_of rfl ?_⟩
      exact ⟨_, rfl, _, rfl, r, _, _, _, rfl, rfl, SqL.of hr', rfl, _, rfl, r, _, _, _, rfl, rfl, SqL.of hr', rfl, l, d, a, b, rfl, hd⟩
    | best a =>
      refine ⟨_, rfl, rfl, _, rfl, if_false_of rfl ?_⟩
      refine ⟨_, rfl, rfl, _, rfl, if_false_of rfl ?_⟩
      refine ⟨_, rfl, rfl, _, rfl, if_false_of rfl ?_⟩
      refine ⟨_, rfl, rfl, _, rfl, if_false_of rfl ?_⟩
      refine ⟨_, rfl, rfl, _, rfl, if_false_of rfl ?_⟩
      refine ⟨_, rfl, rfl, _, rfl, if_true_of rfl ?_⟩
      exact ⟨_, rfl, _, rfl, r, _, _, _, rfl, rfl, SqL.of hr', rfl, l, d, a, rfl, hd⟩
    | depth a =>
      refine ⟨_, rfl, rfl, _, rfl, if_false_of rfl ?_⟩
      refine ⟨_, rfl, rfl, _, rfl, if_false_of rfl ?_⟩
      refine ⟨_, rfl, rfl, _, rfl, if_false_of rfl ?_⟩
      refine ⟨_, rfl, rfl, _, rfl, if_false_of rfl ?_⟩
      refine ⟨_, rfl, rfl, _, rfl, if_false_of rfl ?_⟩
      refine ⟨_, rfl, rfl, _, rfl, if_false_of rfl ?_⟩
      exact ⟨_, rfl, _, rfl, r, _, _, _, rfl, rfl, SqL.of hr', rfl, l, d, a, rfl, hd⟩
    | _ => exfalso; omega
end
end Dp

namespace Dp
open PySem PySem.Spec PyProof.Rows L2
open Kp365 (Desk Node nodeAt isTrue)
open Dm Ml
section
variable {P : Program} {w : World} {K : PySem.W.Frag} {mg : Str → Option Value} {base : Heap} {C_Node C_Session : Addr}
theorem eq_no {a b : Int} (h : ¬ a = b) : decide (V.int a = V.int b) = false := decide_eq_false fun e => h (V.int.inj e)
theorem ok_answer_about_nodes {f : Addr} {fd : FuncData} (F : Fun K "answer_about_nodes" "answer_about_nodes" s_answer_about_nodes f fd) (T : Txt K mg C_Node C_Session) (D_change_misread : Def P w K mg base "change_misread" 1 ["nodes", "i", "misread"] (sp_change_misread K C_Node C_Session)) (D_flip_leaf : Def P w K mg base "flip_leaf" 1 ["nodes", "i"] (sp_flip_leaf K C_Node C_Session)) (D_tell_node : Def P w K mg base "tell_node" 1 ["nodes", "i"] (sp_tell_node K C_Node C_Session)) (D_pop_last : Def P w K mg base "pop_last" 1 ["nodes"] (sp_pop_last K C_Node C_Session)) (D_add_joint : Def P w K mg base "add_joint" 3 ["nodes", "kind", "row"] (sp_add_joint K C_Node C_Session)) (D_add_leaf : Def P w K mg base "add_leaf" 3 ["nodes", "so", "misread"] (sp_add_leaf K C_Node C_Session)) : FnOk P w K mg base CX0 4 f fd ["nodes", "call", "numbers"] (sp_answer_about_nodes K C_Node C_Session) := by
  refine F.ok sc_answer_about_nodes (fun vs H Q E h => ?_) (fun cdv A outer s H vs Q E hr h => ?_)
  · obtain ⟨l, r, d, c, nums, cl, rfl, _⟩ := h
    rfl
  · obtain ⟨l, r, d, c, nums, cl, rfl, hr', hrl, sh, h1, h7, hd⟩ := h
    refine ⟨_, (pss_cons (ps_if (pt_cmpR op_eq (pv 1) (pgl T.c_CALL_LEAF) (nomark _)) (pss_one (ps_ret (pe_def D_add_leaf (hr.mono (by decide)) (pa_cons (pv 0) (pa_cons (pe_ix ix_list (pv 2) pe_int (fun _ _ => rfl)) (pa_cons (pe_ix ix_list (pv 2) pe_int (fun _ _ => rfl)) pa_nil)))))) pss_nil)
      (pss_cons (ps_if (pt_cmpR op_eq (pv 1) (pgl T.c_CALL_ALL_OF) (nomark _)) (pss_one (ps_ret (pe_def D_add_joint (hr.mono (by decide)) (pa_cons (pv 0) (pa_cons (pgl T.c_ALL_OF) (pa_cons (pv 2) pa_nil)))))) pss_nil)
      (pss_cons (ps_if (pt_cmpR op_eq (pv 1) (pgl T.c_CALL_SOME) (nomark _)) (pss_one (ps_ret (pe_def D_add_joint (hr.mono (by decide)) (pa_cons (pv 0) (pa_cons (pgl T.c_SOME_OF) (pa_cons (pv 2) pa_nil)))))) pss_nil)
      (pss_cons (ps_if (pt_cmpR op_eq (pv 1) (pgl T.c_CALL_POP) (nomark _)) (pss_one (ps_ret (pe_def D_pop_last (hr.mono (by decide)) (pa_cons (pv 0) pa_nil)))) pss_nil)
      (pss_cons (ps_if (pt_cmpR op_eq (pv 1) (pgl T.c_CALL_NODEIS) (nomark _)) (pss_one (ps_ret (pe_def D_tell_node (hr.mono (by decide)) (pa_cons (pv 0) (pa_cons (pe_ix ix_list (pv 2) pe_int (fun _ _ => rfl)) pa_nil))))) pss_nil)
      (pss_cons (ps_if (pt_cmpR op_eq (pv 1) (pgl T.c_CALL_FLIP) (nomark _)) (pss_one (ps_ret (pe_def D_flip_leaf (hr.mono (by decide)) (pa_cons (pv 0) (pa_cons (pe_ix ix_list (pv 2) pe_int (fun _ _ => rfl)) pa_nil))))) pss_nil)
      (pss_one (ps_ret (pe_def D_change_misread (hr.mono (by decide)) (pa_cons (pv 0) (pa_cons (pe_ix ix_list (pv 2) pe_int (fun _ _ => rfl)) (pa_cons (pe_ix ix_list (pv 2) pe_int (fun _ _ => rfl)) pa_nil)))))))))))), ?_⟩
    cases sh with
    | begin_ => exfalso; omega
    | leaf a b =>
      refine ⟨_, rfl, rfl, _, rfl, if_true_of rfl ?_⟩
      exact ⟨_, rfl, _, rfl, r, _, _, _, rfl, rfl, SqL.of hr', rfl, _, rfl, r, _, _, _, rfl, rfl, SqL.of hr', rfl, l, d, a, b, rfl, hd⟩
    | all_ row hl =>
      refine ⟨_, rfl, rfl, _, rfl, if_false_of rfl ?_⟩
      refine ⟨_, rfl, rfl, _, rfl, if_true_of rfl ?_⟩
      exact ⟨_, rfl, _, rfl, l, r, d, 1, row, rfl, .inl rfl, hl, hr', hrl, hd⟩
    | some_ row hl =>
      refine ⟨_, rfl, rfl, _, rfl, if_false_of rfl ?_⟩
      refine ⟨_, rfl, rfl, _, rfl, if_false_of rfl ?_⟩
      refine ⟨_, rfl, rfl, _, rfl, if_true_of rfl ?_⟩
      exact ⟨_, rfl, _, rfl, l, r, d, 2, row, rfl, .inr rfl, hl, hr', hrl, hd⟩
    | pop =>
      refine ⟨_, rfl, rfl, _, rfl, if_false_of rfl ?_⟩
      refine ⟨_, rfl, rfl, _, rfl, if_false_of rfl ?_⟩
      refine ⟨_, rfl, rfl, _, rfl, if_false_of rfl ?_⟩
      refine ⟨_, rfl, rfl, _, rfl, if_true_of rfl ?_⟩
      exact ⟨_, rfl, l, d, rfl, hd⟩
    | nodeIs a =>
      refine ⟨_, rfl, rfl, _, rfl, if_false_of rfl ?_⟩
      refine ⟨_, rfl, rfl, _, rfl, if_false_of rfl ?_⟩
      refine ⟨_, rfl, rfl, _, rfl, if_false_of rfl ?_⟩
      refine ⟨_, rfl, rfl, _, rfl, if_false_of rfl ?_⟩
      refine ⟨_, rfl, rfl, _, rfl, if_true_of rfl ?_⟩
      exact ⟨_, rfl, _, rfl, r, _, _, _, rfl, rfl, SqL.of hr', rfl, l, d, a, rfl, hd.ask⟩
    | flip a =>
      refine ⟨_, rfl, rfl, _, rfl, if_false_of rfl ?_⟩
      refine ⟨_, rfl, rfl, _, rfl, if_false_of rfl ?_⟩
      refine ⟨_, rfl, rfl, _, rfl, if_false_of rfl ?_⟩
      refine ⟨_, rfl, rfl, _, rfl, if_false_of rfl ?_⟩
      refine ⟨_, rfl, rfl, _, rfl, if_false_of rfl ?_⟩
      refine ⟨_, rfl, rfl, _, rfl, if_true_of rfl ?_⟩
      exact ⟨_, rfl, _, rfl, r, _, _, _, rfl, rfl, SqL.of hr', rfl, l, d, a, rfl, hd⟩
    | wrong a b =>
      refine ⟨_, rfl, rfl, _, rfl, if_false_of rfl ?_⟩
      refine ⟨_, rfl, rfl, _, rfl, if_false_of rfl ?_⟩
      refine ⟨_, rfl, rfl, _, rfl, if_false_of rfl ?_⟩
      refine ⟨_, rfl, rfl, _, rfl, if_false_of rfl ?_⟩
      refine ⟨_, rfl, rfl, _, rfl, if_false_of rfl ?_⟩
      refine ⟨_, rfl, rfl, _, rfl, if_false_of rfl ?_⟩
      exact ⟨_, rfl, _, rfl, r, _, _, _, rfl, rfl, SqL.of hr', rfl, _, rfl, r, _, _, _, rfl, rfl, SqL.of hr', rfl, l, d, a, b, rfl, hd⟩
    | _ => exfalso; omega
theorem ok_answer_call {f : Addr} {fd : FuncData} (F : Fun K "answer_call" "answer_call" s_answer_call f fd) (T : Txt K mg C_Node C_Session) (D_answer_about_leaves : Def P w K mg base "answer_about_leaves" 5 ["nodes", "call", "numbers"] (sp_answer_about_leaves K C_Node C_Session)) (D_answer_about_dispute : Def P w K mg base "answer_about_dispute" 5 ["nodes", "call", "numbers"] (sp_answer_about_dispute K C_Node C_Session)) (D_answer_about_nodes : Def P w K mg base "answer_about_nodes" 4 ["nodes", "call", "numbers"] (sp_answer_about_nodes K C_Node C_Session)) (D_begin : Def P w K mg base "begin" 1 ["session"] (sp_begin K C_Node C_Session)) : FnOk P w K mg base CX0 6 f fd ["session", "call", "numbers"] (sp_answer_call K C_Node C_Session) := by
  refine F.ok sc_answer_call (fun vs H Q E h => ?_) (fun cdv A outer s H vs Q E hr h => ?_)
  · obtain ⟨x, l, r, cs, st, c, nums, cl, rfl, _⟩ := h
    rfl
  · obtain ⟨x, l, r, cs, st, c, nums, cl, rfl, hS, hr', hrl, sh, q⟩ := h
    obtain ⟨dx, hx⟩ := hS.obj
    refine ⟨_, (pss_cons (ps_if (pt_cmpR op_eq (pv 1) (pgl T.c_CALL_BEGIN) (nomark _)) (pss_one (ps_ret (pe_def D_begin (hr.mono (by decide)) (pa_cons (pv 0) pa_nil)))) pss_nil)
      (pss_cons (ps_if (pt_not (pt_val (pe_fld (pv 0) rfl))) (pss_one (ps_ret (pe_lst (pa_cons (pgl T.c_NOT_BEGUN) pa_nil)))) pss_nil)
      (pss_cons (ps_if (pt_cmpR op_le (pv 1) (pgl T.c_CALL_WRONG) (nomark _)) (pss_one (ps_ret (pe_def D_answer_about_nodes (hr.mono (by decide)) (pa_cons (pe_fld (pv 0) rfl) (pa_cons (pv 1) (pa_cons (pv 2) pa_nil)))))) pss_nil)
      (pss_cons (ps_if (pt_cmpR op_le (pv 1) (pgl T.c_CALL_BYDOUBT) (nomark _)) (pss_one (ps_ret (pe_def D_answer_about_dispute (hr.mono (by decide)) (pa_cons (pe_fld (pv 0) rfl) (pa_cons (pv 1) (pa_cons (pv 2) pa_nil)))))) pss_nil)
      (pss_one (ps_ret (pe_def D_answer_about_leaves (hr.mono (by decide)) (pa_cons (pe_fld (pv 0) rfl) (pa_cons (pv 1) (pa_cons (pv 2) pa_nil)))))))))), ?_⟩
    by_cases c0 : c = 0
    · subst c0
      have e : cl = .begin_ := by cases sh; rfl
      subst e
      rw [stepL_begin] at q
      refine ⟨_, rfl, rfl, _, rfl, if_true_of rfl ?_⟩
      exact ⟨_, rfl, x, l, cs, st, rfl, hS, fun H' p l' hp hl' hp' hS' kp => q H' p l' [] hp (.inr hl') (fun _ h => nomatch h) hp' hS' fun b o e _ ho => kp b o e ho⟩
    have ne : cl ≠ .begin_ := fun e => by
      subst e
      cases sh
      exact c0 rfl
    have cpos : 1 ≤ c := by cases sh <;> first | exact absurd rfl c0 | decide
    refine ⟨_, rfl, rfl, _, rfl, if_false_of (eq_no c0) ?_⟩
    refine ⟨_, rfl, x, C_Session, dx, _, _, rfl, hx, T.cl_Session, T.n_Session_begun, sesF_begun _ _, _, rfl, ?_⟩
    cases st with
    | none =>
      rw [stepL_none ne] at q
      refine if_true_of rfl ⟨(by show 1 ≤ sizeLine; decide), fun p hp => ?_⟩
      exact q _ p l cs hp (.inl rfl) New.refl upd_same (hS.same (same_new hp)) fun b o e _ _ => same_new hp b o e
    | some d =>
      rw [stepL_some] at q
      refine if_false_of rfl ?_
      obtain ⟨hW, as, hD⟩ := hS.desk d rfl
      have fin : Done C_Node H l d (stepD d cl) (stepA d cl) Q := ⟨as, cs, hD, hW, fun H' p as' cs' kp nw hp hp' hD' hW' => by
        refine q H' p l cs' hp (.inl rfl) nw hp' ⟨⟨dx, kp x _ hx (hD.ne hx) (ses_not_mem hD hx)⟩, (fun e => by cases e), fun d0 e => ?_⟩ fun b o e hb ho => kp b o e hb (hD.lst_not_mem e ho)
        cases e
        exact ⟨hW', as', hD'⟩⟩
      refine ⟨_, rfl, _, _, rfl, rfl, _, rfl, if_dec (fun z => ?_) (fun z => ?_)⟩
      · exact ⟨_, rfl, x, C_Session, dx, _, _, rfl, hx, T.cl_Session, T.n_Session_nodes, sesF_nodes _ _, _, rfl, _, rfl, l, r, d, c, nums, cl, rfl, hr', hrl, sh, cpos, z, fin⟩
      have c8 : 8 ≤ c := by omega
      rw [asked_same sh c8] at fin
      refine ⟨_, rfl, _, _, rfl, rfl, _, rfl, if_dec (fun z => ?_) (fun z => ?_)⟩
      · exact ⟨_, rfl, x, C_Session, dx, _, _, rfl, hx, T.cl_Session, T.n_Session_nodes, sesF_nodes _ _, _, rfl, _, rfl, l, r, d, c, nums, cl, rfl, hr', hrl, sh, c8, z, fin.ask⟩
      · exact ⟨_, rfl, x, C_Session, dx, _, _, rfl, hx, T.cl_Session, T.n_Session_nodes, sesF_nodes _ _, _, rfl, _, rfl, l, r, d, c, nums, cl, rfl, hr', hrl, sh, by omega, fin.ask⟩
end
end Dp

namespace Dp
open PySem PySem.Spec PyProof.Rows L2
open Kp365 (Desk Node nodeAt isTrue)
open Dm Ml
section
variable {P : Program} {w : World} {K : PySem.W.Frag} {mg : Str → Option Value} {base : Heap} {C_Node C_Session : Addr}
/-- the list that was handed in stands, and is neither the desk's nor the answers' -/
def CallsAt (K : PySem.W.Frag) (H : Hp) (a l t : Addr) (xs : List V) : Prop := (∀ H', SqL K H' a xs) ∨ ∃ u, H a = some u ∧ NoIns u ∧ a ≠ l ∧ a ≠ t ∧ ∀ H' : Hp, H' a = some u → SqL K H' a xs
theorem CallsAt.sq {H : Hp} {a l t : Addr} {xs : List V} (h : CallsAt K H a l t xs) : SqL K H a xs := by
  rcases h with h | ⟨u, e, _, _, _, h⟩
  · exact h H
  · exact h H e
theorem CallsAt.keep {H H' : Hp} {a l l' t : Addr} {xs : List V} (h : CallsAt K H a l t xs) (kp : ∀ b o, H b = some o → b ≠ l → b ≠ t → NoIns o → H' b = some o) (nw : l' = l ∨ H l' = none) : CallsAt K H' a l' t xs := by
  rcases h with h | ⟨u, e, n1, n2, n3, h⟩
  · exact .inl h
  · refine .inr ⟨u, kp a u e n2 n3 n1, n1, ?_, n3, h⟩
    rcases nw with rfl | nw
    · exact n2
    · exact ne_of_none e nw
theorem CallsAt.start {H H' : Hp} {a l t : Addr} {xs : List V} (h : SqL K H a xs) (s : Same H H') (hl : H l = none) (ht : H t = none) : CallsAt K H' a l t xs := by
  rcases h with (h | ⟨o, h⟩) | h
  · exact .inr ⟨_, s _ _ h, (fun _ _ _ e => by cases e), ne_of_none h hl, ne_of_none h ht, fun H' e => .inl (.inl e)⟩
  · exact .inr ⟨_, s _ _ h, (fun _ _ _ e => by cases e), ne_of_none h hl, ne_of_none h ht, fun H' e => .inl (.inr ⟨o, e⟩)⟩
  · exact .inl fun H' => .inr h
theorem ok_answers {f : Addr} {fd : FuncData} (F : Fun K "answers" "answers" s_answers f fd) (T : Txt K mg C_Node C_Session) (D_answer_call : Def P w K mg base "answer_call" 6 ["session", "call", "numbers"] (sp_answer_call K C_Node C_Session)) (Z_Session : Klass P w K mg base "Session" C_Session 1 ["self"] (sp_Session_init K C_Node C_Session)) : FnOk P w K mg base CX0 7 f fd ["calls"] (sp_answers K C_Node C_Session) := by
  refine F.ok sc_answers (fun vs H Q E h => ?_) (fun cdv A outer s H vs Q E hr h => ?_)
  · obtain ⟨a, ns, rfl, _⟩ := h
    rfl
  · obtain ⟨a, ns, rfl, hC, hlen, hask, q⟩ := h
    refine ⟨_, (pss_cons (ps_set (i := 1) sc_answers.nd rfl (Or.inl rfl) (pe_new0 Z_Session (hr.mono (by decide))))
      (pss_cons (ps_set (i := 2) sc_answers.nd rfl (Or.inl rfl) (pe_lst pa_nil))
      (pss_cons (ps_set (i := 3) sc_answers.nd rfl (Or.inl rfl) pe_int)
      (pss_cons (ps_while PassesOwn.never (pt_cmpR op_lt (pv 3) (pe_callB call_len_seq (by rfl) T.b_len (by decide +kernel) (pa_cons (pv 0) pa_nil)) (nomark _)) (pss_cons (ps_set (i := 4) sc_answers.nd rfl (Or.inl rfl) (pe_op op_add (pv 3) pe_int))
      (pss_cons (ps_set (i := 5) sc_answers.nd rfl (Or.inl rfl) (pe_op op_add (pv 4) (pe_ix ix_list (pv 0) (pe_op op_add (pv 3) pe_int) (fun _ _ => rfl))))
      (pss_cons (ps_set (i := 6) sc_answers.nd rfl (Or.inl rfl) (pe_def D_answer_call (hr.mono (by decide)) (pa_cons (pv 1) (pa_cons (pe_ix ix_list (pv 0) (pv 3) (fun _ _ => rfl)) (pa_cons (pe_slice sl_list (pv 0) (po_some (pv 4)) (po_some (pv 5))) pa_nil)))))
      (pss_cons (ps_expr (pe_bm PySem.F.plainAttrs_list PySem.F.slot_list_append PySem.F.type_list_append mt_append (pv 2) (pa_cons (pe_callB call_len_seq (by rfl) T.b_len (by decide +kernel) (pa_cons (pv 6) pa_nil)) pa_nil)))
      (pss_cons (ps_expr (pe_bm PySem.F.plainAttrs_list PySem.F.slot_list_extend PySem.F.type_list_extend mt_extend (pv 2) (pa_cons (pv 6) pa_nil)))
      (pss_one (ps_set (i := 3) sc_answers.nd rfl (Or.inl rfl) (pe_op op_add (pv 5) pe_int)))))))))
      (pss_one (ps_ret (pv 2))))))), ?_⟩
    have short := asked_short hask
    intro x dx nx nd ne
    refine ⟨x, dx, rfl, upd_same, fun H1 l0 hl0 hS1 k1 => ⟨rfl, ?_⟩⟩
    have s1 : Same H H1 := Same.made nx nd k1
    have hl00 : H l0 = none := by
      have xl : l0 ≠ x := fun e => by
        rw [e, upd_same] at hl0
        cases hl0
      have dl : l0 ≠ dx := fun e => by
        rw [upd_ne xl, e, upd_same] at hl0
        cases hl0
      rw [← hl0, upd_ne xl, upd_ne dl]
    refine ⟨(by show 0 ≤ sizeLine; decide), fun t ht => ?_⟩
    have s2 := same_new (o := .lst []) ht
    have tl0 : t ≠ l0 := ne_of_none' (hS1.new rfl).1 ht
    refine while_by (fun σ H' => ∃ (i : Nat) (st : Kp365.State) (told : List Int) (l : Addr) (cs : List Addr) (v4 v5 v6 : Option V), σ = [some (.ref a), some (.ref x), some (.ref t), some (.int (i : Int)), v4, v5, v6] ∧ Walked ns i st told ∧ SessAt C_Node C_Session H' x l cs st ∧ H' t = some (.lst (told.map V.int)) ∧ t ≠ l ∧ t ∉ cs ∧ CallsAt K H' a l t (ns.map V.int))
      (fun σ _ => ns.length - slotN σ 3) ⟨0, none, [], l0, [], none, none, none, rfl, walked_start hask, hS1.same s2, upd_same, tl0, List.not_mem_nil, CallsAt.start hC (s1.trans s2) hl00 (s1.free ht)⟩ ?_
      (fun σ H Q Q' m ⟨v, h1, v', h2, p, ys, h3, h4, i, j, h5, h6, k, h7, h8⟩ => ⟨v, h1, v', h2, p, ys, h3, h4, i, j, h5, h6, k, h7, m _ _ h8⟩)
    rintro σ H' ⟨i, st, told, l, cs, v4, v5, v6, rfl, hw, hS, hT, htl, htc, hA⟩
    refine ⟨_, rfl, _, rfl, a, _, rfl, .inl hA.sq, _, _, rfl, rfl, _, rfl, if_dec (fun z => ?_) (fun z => ?_)⟩
    · rw [List.length_map] at z
      obtain ⟨p, nums, c, h0, hn, hcut, hin, sh, hw'⟩ := hw.turn (by omega)
      refine ⟨_, rfl, _, _, rfl, rfl, ?_⟩
      refine ⟨_, rfl, _, rfl, _, rfl, _, _, rfl, rfl, a, _, _, _, rfl, rfl, hA.sq, at_int (j := i + 1) (by omega) (ints_at hn), _, _, rfl, rfl, ?_⟩
      refine ⟨_, rfl, _, rfl, _, rfl, a, _, _, _, rfl, rfl, hA.sq, at_int (j := i) rfl (ints_at h0), _, rfl, _, rfl, _, rfl, _, rfl, _, rfl, a, _, rfl, hA.sq, fun r hr' => ?_⟩
      rw [cut_ints (i := i + 2) (nums := nums) (by omega) (by omega) (by omega) hcut]
      have s3 := same_new (o := .lst (nums.map V.int)) hr'
      obtain ⟨xs, hl⟩ := hS.lst_at
      refine ⟨x, l, r, cs, st, p, nums, c, rfl, hS.same s3, upd_same, ne_of_none' hl hr', sh, fun H4 b l' cs' hb hl' nw hb' hS' kp => ?_⟩
      have tr : t ≠ r := ne_of_none hT hr'
      have hT3 := s3 _ _ hT
      have hT4 : H4 t = some (.lst (told.map V.int)) := kp t _ hT3 htl fun _ _ _ e => by cases e
      have bt : b ≠ t := ne_of_none' hT3 hb
      have tl' : t ≠ l' := by
        rcases hl' with rfl | hl'
        · exact htl
        · exact ne_of_none hT3 hl'
      have tc' : t ∉ cs' := fun m => by
        rcases nw t m with h | h
        · exact htc h
        · rw [hT3] at h
          cases h
      have len2 := hw'.len
      rw [List.length_append, List.length_cons] at len2
      have size : (10000000 : Nat) < sizeLine := by decide
      refine ⟨_, rfl, .inl ⟨rfl, _, SqL.of hT4⟩, _, rfl, b, _, rfl, .inl (SqL.of hb'), t, _, _, rfl, rfl, hT4, by rw [List.length_map]; omega, ?_⟩
      refine ⟨_, rfl, .inl ⟨rfl, _, SqL.of upd_same⟩, _, rfl, t, b, _, _, rfl, rfl, upd_same, (upd_ne bt).trans hb', by rw [List.length_append, List.length_map, List.length_map]; show told.length + 1 + _ ≤ _; omega, ?_⟩
      rw [upd_upd]
      refine ⟨_, rfl, _, _, rfl, rfl, ⟨i + 3 + nums.length, _, _, l', cs', some (.int ((i : Int) + 2)), some (.int ((i : Int) + 2 + (nums.length : Int))), some (.ref b), ?_, hw', hS'.else_ hT4 tl' tc', ?_, tl', tc', ?_⟩, ?_⟩
      · show [_, _, _, some (V.int ((i : Int) + 2 + (nums.length : Int) + 1)), _, _, _] = _
        rw [show (i : Int) + 2 + (nums.length : Int) + 1 = ((i + 3 + nums.length : Nat) : Int) by omega]
      · rw [upd_same, List.map_append, List.append_assoc, List.length_map]
        rfl
      · refine hA.keep (fun b' o e n1 n2 n3 => ?_) ?_
        · rw [upd_ne n2]
          exact kp b' o (s3 _ _ e) n1 n3
        · rcases hl' with h | h
          · exact .inl h
          · exact .inr (s3.free h)
      · show ns.length - ((i : Int) + 2 + (nums.length : Int) + 1).toNat < ns.length - ((i : Int)).toNat
        omega
    · rw [List.length_map] at z
      have e : i = ns.length := by
        have := hw.le
        omega
      subst e
      rw [hw.done] at hT
      exact ⟨_, rfl, q H' t hT⟩
end
end Dp

namespace Dp
open PySem PySem.Spec PyProof.Rows L2
open PySem.W (Codec)
open Kp365 (Desk Node nodeAt isTrue)
open Dm

theorem all_mk {P : Program} {w : World} {K : PySem.W.Frag} {h : Heap} {mg : Str → Option Value} {fa C_Node C_Session f1 f2 f3 f4 f5 f6 f7 f8 f9 f10 f11 f12 f13 f14 f15 f16 f17 f18 f19 f20 f21 f22 f23 f24 f25 f26 f27 f28 f29 f30 f31 f32 f33 f34 f35 f36 f37 f38 f39 f40 f41 f42 f43 f44 f45 f46 f47 f48 : Addr} (X : K.In h) (G : h.Ns mainGlobals mg) (hfa : mg "answers" = some (.ref fa))
    {od1 an1 od2 an2 od3 an3 od4 an4 od5 an5 od6 an6 od7 an7 od8 an8 od9 an9 od10 an10 od11 an11 od12 an12 od13 an13 od14 an14 od15 an15 od16 an16 od17 an17 od18 an18 od19 an19 od20 an20 od21 an21 od22 an22 od23 an23 od24 an24 od25 an25 od26 an26 od27 an27 od28 an28 od29 an29 od30 an30 od31 an31 od32 an32 od33 an33 od34 an34 od35 an35 od36 an36 od37 an37 od38 an38 od39 an39 od40 an40 od41 an41 od42 an42 od43 an43 od44 an44 od45 an45 od46 an46 od47 an47 od48 an48 : Option Addr} {sl1 sl2 sl3 sl4 sl5 sl6 sl7 sl8 sl9 sl10 sl11 sl12 sl13 sl14 sl15 sl16 sl17 sl18 sl19 sl20 sl21 sl22 sl23 sl24 sl25 sl26 sl27 sl28 sl29 sl30 sl31 sl32 sl33 sl34 sl35 sl36 sl37 sl38 sl39 sl40 sl41 sl42 sl43 sl44 sl45 sl46 sl47 sl48 : Array (Option Value)} {oc1 kV1 dc1 pm1 cd1 ct1 oc2 kV2 dc2 pm2 cd2 ct2 oc3 kV3 dc3 pm3 cd3 ct3 oc4 kV4 dc4 pm4 cd4 ct4 oc5 kV5 dc5 pm5 cd5 ct5 oc6 kV6 dc6 pm6 cd6 ct6 oc7 kV7 dc7 pm7 cd7 ct7 oc8 kV8 dc8 pm8 cd8 ct8 oc9 kV9 dc9 pm9 cd9 ct9 oc10 kV10 dc10 pm10 cd10 ct10 oc11 kV11 dc11 pm11 cd11 ct11 oc12 kV12 dc12 pm12 cd12 ct12 oc13 kV13 dc13 pm13 cd13 ct13 oc14 kV14 dc14 pm14 cd14 ct14 oc15 kV15 dc15 pm15 cd15 ct15 oc16 kV16 dc16 pm16 cd16 ct16 oc17 kV17 dc17 pm17 cd17 ct17 oc18 kV18 dc18 pm18 cd18 ct18 oc19 kV19 dc19 pm19 cd19 ct19 oc20 kV20 dc20 pm20 cd20 ct20 oc21 kV21 dc21 pm21 cd21 ct21 oc22 kV22 dc22 pm22 cd22 ct22 oc23 kV23 dc23 pm23 cd23 ct23 oc24 kV24 dc24 pm24 cd24 ct24 oc25 kV25 dc25 pm25 cd25 ct25 oc26 kV26 dc26 pm26 cd26 ct26 oc27 kV27 dc27 pm27 cd27 ct27 oc28 kV28 dc28 pm28 cd28 ct28 oc29 kV29 dc29 pm29 cd29 ct29 oc30 kV30 dc30 pm30 cd30 ct30 oc31 kV31 dc31 pm31 cd31 ct31 oc32 kV32 dc32 pm32 cd32 ct32 oc33 kV33 dc33 pm33 cd33 ct33 oc34 kV34 dc34 pm34 cd34 ct34 oc35 kV35 dc35 pm35 cd35 ct35 oc36 kV36 dc36 pm36 cd36 ct36 oc37 kV37 dc37 pm37 cd37 ct37 oc38 kV38 dc38 pm38 cd38 ct38 oc39 kV39 dc39 pm39 cd39 ct39 oc40 kV40 dc40 pm40 cd40 ct40 oc41 kV41 dc41 pm41 cd41 ct41 oc42 kV42 dc42 pm42 cd42 ct42 oc43 kV43 dc43 pm43 cd43 ct43 oc44 kV44 dc44 pm44 cd44 ct44 oc45 kV45 dc45 pm45 cd45 ct45 oc46 kV46 dc46 pm46 cd46 ct46 oc47 kV47 dc47 pm47 cd47 ct47 oc48 kV48 dc48 pm48 cd48 ct48 : Value} {tLEAF tWHOLE tBAD_NUMBERS tMOST_NODES tTOO_MANY tMOST_CHILDREN tNONE_LEFT tNO_NODE tUNFIT tALL_OF tCALL_BYDOUBT tCALL_WRONG tNOT_BEGUN tCALL_BEGIN tCALL_FLIP tCALL_NODEIS tCALL_POP tCALL_SOME tSOME_OF tCALL_ALL_OF tCALL_LEAF tCALL_BYSAY tCALL_WAY tCALL_PICK tCALL_RIGHT tCALL_HELD tCALL_TRUE tCALL_BEST tCALL_IFFLIP tCALL_IFWRONG tCALL_MATTER tCALL_LEAVES tCALL_PROOF : _}
    (aNode : PySem.W.nsIn K mainGlobals "Node" = some (some (.ref C_Node)))
    (aSession : PySem.W.nsIn K mainGlobals "Session" = some (some (.ref C_Session)))
    (a1 : PySem.W.findIn K (.ref C_Node) "__init__" = some (some (.ref f1)))
    (i1 : PySem.W.isFn K (.ref f1) = true)
    (l1 : K.lookup f1 = some ⟨oc1, od1, .func (PySem.W.fnOf "__init__" "Node.__init__" (defArgs s_Node_init) (defBody s_Node_init) (defScope s_Node_init) .none kV1 dc1 pm1 an1 cd1 ct1), sl1⟩)
    (c1 : PySem.W.codeIn K cd1 "Node.__init__" = true)
    (k1 : PySem.W.keepIn K (.ref f1) = true)
    (a2 : PySem.W.nsIn K mainGlobals "add_node" = some (some (.ref f2)))
    (l2 : K.lookup f2 = some ⟨oc2, od2, .func (PySem.W.fnOf "add_node" "add_node" (defArgs s_add_node) (defBody s_add_node) (defScope s_add_node) .none kV2 dc2 pm2 an2 cd2 ct2), sl2⟩)
    (c2 : PySem.W.codeIn K cd2 "add_node" = true)
    (k2 : PySem.W.keepIn K (.ref f2) = true)
    (a3 : PySem.W.nsIn K mainGlobals "add_leaf" = some (some (.ref f3)))
    (l3 : K.lookup f3 = some ⟨oc3, od3, .func (PySem.W.fnOf "add_leaf" "add_leaf" (defArgs s_add_leaf) (defBody s_add_leaf) (defScope s_add_leaf) .none kV3 dc3 pm3 an3 cd3 ct3), sl3⟩)
    (c3 : PySem.W.codeIn K cd3 "add_leaf" = true)
    (k3 : PySem.W.keepIn K (.ref f3) = true)
    (a4 : PySem.W.nsIn K mainGlobals "children_of_all" = some (some (.ref f4)))
    (l4 : K.lookup f4 = some ⟨oc4, od4, .func (PySem.W.fnOf "children_of_all" "children_of_all" (defArgs s_children_of_all) (defBody s_children_of_all) (defScope s_children_of_all) .none kV4 dc4 pm4 an4 cd4 ct4), sl4⟩)
    (c4 : PySem.W.codeIn K cd4 "children_of_all" = true)
    (k4 : PySem.W.keepIn K (.ref f4) = true)
    (a5 : PySem.W.nsIn K mainGlobals "can_be_children" = some (some (.ref f5)))
    (l5 : K.lookup f5 = some ⟨oc5, od5, .func (PySem.W.fnOf "can_be_children" "can_be_children" (defArgs s_can_be_children) (defBody s_can_be_children) (defScope s_can_be_children) .none kV5 dc5 pm5 an5 cd5 ct5), sl5⟩)
    (c5 : PySem.W.codeIn K cd5 "can_be_children" = true)
    (k5 : PySem.W.keepIn K (.ref f5) = true)
    (a6 : PySem.W.nsIn K mainGlobals "add_joint" = some (some (.ref f6)))
    (l6 : K.lookup f6 = some ⟨oc6, od6, .func (PySem.W.fnOf "add_joint" "add_joint" (defArgs s_add_joint) (defBody s_add_joint) (defScope s_add_joint) .none kV6 dc6 pm6 an6 cd6 ct6), sl6⟩)
    (c6 : PySem.W.codeIn K cd6 "add_joint" = true)
    (k6 : PySem.W.keepIn K (.ref f6) = true)
    (a7 : PySem.W.nsIn K mainGlobals "pop_last" = some (some (.ref f7)))
    (l7 : K.lookup f7 = some ⟨oc7, od7, .func (PySem.W.fnOf "pop_last" "pop_last" (defArgs s_pop_last) (defBody s_pop_last) (defScope s_pop_last) .none kV7 dc7 pm7 an7 cd7 ct7), sl7⟩)
    (c7 : PySem.W.codeIn K cd7 "pop_last" = true)
    (k7 : PySem.W.keepIn K (.ref f7) = true)
    (a8 : PySem.W.nsIn K mainGlobals "tell_node" = some (some (.ref f8)))
    (l8 : K.lookup f8 = some ⟨oc8, od8, .func (PySem.W.fnOf "tell_node" "tell_node" (defArgs s_tell_node) (defBody s_tell_node) (defScope s_tell_node) .none kV8 dc8 pm8 an8 cd8 ct8), sl8⟩)
    (c8 : PySem.W.codeIn K cd8 "tell_node" = true)
    (k8 : PySem.W.keepIn K (.ref f8) = true)
    (a9 : PySem.W.nsIn K mainGlobals "flip_leaf" = some (some (.ref f9)))
    (l9 : K.lookup f9 = some ⟨oc9, od9, .func (PySem.W.fnOf "flip_leaf" "flip_leaf" (defArgs s_flip_leaf) (defBody s_flip_leaf) (defScope s_flip_leaf) .none kV9 dc9 pm9 an9 cd9 ct9), sl9⟩)
    (c9 : PySem.W.codeIn K cd9 "flip_leaf" = true)
    (k9 : PySem.W.keepIn K (.ref f9) = true)
    (a10 : PySem.W.nsIn K mainGlobals "change_misread" = some (some (.ref f10)))
    (l10 : K.lookup f10 = some ⟨oc10, od10, .func (PySem.W.fnOf "change_misread" "change_misread" (defArgs s_change_misread) (defBody s_change_misread) (defScope s_change_misread) .none kV10 dc10 pm10 an10 cd10 ct10), sl10⟩)
    (c10 : PySem.W.codeIn K cd10 "change_misread" = true)
    (k10 : PySem.W.keepIn K (.ref f10) = true)
    (a11 : PySem.W.nsIn K mainGlobals "picked_value" = some (some (.ref f11)))
    (l11 : K.lookup f11 = some ⟨oc11, od11, .func (PySem.W.fnOf "picked_value" "picked_value" (defArgs s_picked_value) (defBody s_picked_value) (defScope s_picked_value) .none kV11 dc11 pm11 an11 cd11 ct11), sl11⟩)
    (c11 : PySem.W.codeIn K cd11 "picked_value" = true)
    (k11 : PySem.W.keepIn K (.ref f11) = true)
    (a12 : PySem.W.nsIn K mainGlobals "truths" = some (some (.ref f12)))
    (l12 : K.lookup f12 = some ⟨oc12, od12, .func (PySem.W.fnOf "truths" "truths" (defArgs s_truths) (defBody s_truths) (defScope s_truths) .none kV12 dc12 pm12 an12 cd12 ct12), sl12⟩)
    (c12 : PySem.W.codeIn K cd12 "truths" = true)
    (k12 : PySem.W.keepIn K (.ref f12) = true)
    (a13 : PySem.W.nsIn K mainGlobals "tell_true" = some (some (.ref f13)))
    (l13 : K.lookup f13 = some ⟨oc13, od13, .func (PySem.W.fnOf "tell_true" "tell_true" (defArgs s_tell_true) (defBody s_tell_true) (defScope s_tell_true) .none kV13 dc13 pm13 an13 cd13 ct13), sl13⟩)
    (c13 : PySem.W.codeIn K cd13 "tell_true" = true)
    (k13 : PySem.W.keepIn K (.ref f13) = true)
    (a14 : PySem.W.nsIn K mainGlobals "common_part" = some (some (.ref f14)))
    (l14 : K.lookup f14 = some ⟨oc14, od14, .func (PySem.W.fnOf "common_part" "common_part" (defArgs s_common_part) (defBody s_common_part) (defScope s_common_part) .none kV14 dc14 pm14 an14 cd14 ct14), sl14⟩)
    (c14 : PySem.W.codeIn K cd14 "common_part" = true)
    (k14 : PySem.W.keepIn K (.ref f14) = true)
    (a15 : PySem.W.nsIn K mainGlobals "fraction" = some (some (.ref f15)))
    (l15 : K.lookup f15 = some ⟨oc15, od15, .func (PySem.W.fnOf "fraction" "fraction" (defArgs s_fraction) (defBody s_fraction) (defScope s_fraction) .none kV15 dc15 pm15 an15 cd15 ct15), sl15⟩)
    (c15 : PySem.W.codeIn K cd15 "fraction" = true)
    (k15 : PySem.W.keepIn K (.ref f15) = true)
    (a16 : PySem.W.nsIn K mainGlobals "read_as_so" = some (some (.ref f16)))
    (l16 : K.lookup f16 = some ⟨oc16, od16, .func (PySem.W.fnOf "read_as_so" "read_as_so" (defArgs s_read_as_so) (defBody s_read_as_so) (defScope s_read_as_so) .none kV16 dc16 pm16 an16 cd16 ct16), sl16⟩)
    (c16 : PySem.W.codeIn K cd16 "read_as_so" = true)
    (k16 : PySem.W.keepIn K (.ref f16) = true)
    (a17 : PySem.W.nsIn K mainGlobals "held_hundredths" = some (some (.ref f17)))
    (l17 : K.lookup f17 = some ⟨oc17, od17, .func (PySem.W.fnOf "held_hundredths" "held_hundredths" (defArgs s_held_hundredths) (defBody s_held_hundredths) (defScope s_held_hundredths) .none kV17 dc17 pm17 an17 cd17 ct17), sl17⟩)
    (c17 : PySem.W.codeIn K cd17 "held_hundredths" = true)
    (k17 : PySem.W.keepIn K (.ref f17) = true)
    (a18 : PySem.W.nsIn K mainGlobals "tell_held" = some (some (.ref f18)))
    (l18 : K.lookup f18 = some ⟨oc18, od18, .func (PySem.W.fnOf "tell_held" "tell_held" (defArgs s_tell_held) (defBody s_tell_held) (defScope s_tell_held) .none kV18 dc18 pm18 an18 cd18 ct18), sl18⟩)
    (c18 : PySem.W.codeIn K cd18 "tell_held" = true)
    (k18 : PySem.W.keepIn K (.ref f18) = true)
    (a19 : PySem.W.nsIn K mainGlobals "right_hundredths" = some (some (.ref f19)))
    (l19 : K.lookup f19 = some ⟨oc19, od19, .func (PySem.W.fnOf "right_hundredths" "right_hundredths" (defArgs s_right_hundredths) (defBody s_right_hundredths) (defScope s_right_hundredths) .none kV19 dc19 pm19 an19 cd19 ct19), sl19⟩)
    (c19 : PySem.W.codeIn K cd19 "right_hundredths" = true)
    (k19 : PySem.W.keepIn K (.ref f19) = true)
    (a20 : PySem.W.nsIn K mainGlobals "tell_right" = some (some (.ref f20)))
    (l20 : K.lookup f20 = some ⟨oc20, od20, .func (PySem.W.fnOf "tell_right" "tell_right" (defArgs s_tell_right) (defBody s_tell_right) (defScope s_tell_right) .none kV20 dc20 pm20 an20 cd20 ct20), sl20⟩)
    (c20 : PySem.W.codeIn K cd20 "tell_right" = true)
    (k20 : PySem.W.keepIn K (.ref f20) = true)
    (a21 : PySem.W.nsIn K mainGlobals "picked_child" = some (some (.ref f21)))
    (l21 : K.lookup f21 = some ⟨oc21, od21, .func (PySem.W.fnOf "picked_child" "picked_child" (defArgs s_picked_child) (defBody s_picked_child) (defScope s_picked_child) .none kV21 dc21 pm21 an21 cd21 ct21), sl21⟩)
    (c21 : PySem.W.codeIn K cd21 "picked_child" = true)
    (k21 : PySem.W.keepIn K (.ref f21) = true)
    (a22 : PySem.W.nsIn K mainGlobals "tell_pick" = some (some (.ref f22)))
    (l22 : K.lookup f22 = some ⟨oc22, od22, .func (PySem.W.fnOf "tell_pick" "tell_pick" (defArgs s_tell_pick) (defBody s_tell_pick) (defScope s_tell_pick) .none kV22 dc22 pm22 an22 cd22 ct22), sl22⟩)
    (c22 : PySem.W.codeIn K cd22 "tell_pick" = true)
    (k22 : PySem.W.keepIn K (.ref f22) = true)
    (a23 : PySem.W.nsIn K mainGlobals "tell_way" = some (some (.ref f23)))
    (l23 : K.lookup f23 = some ⟨oc23, od23, .func (PySem.W.fnOf "tell_way" "tell_way" (defArgs s_tell_way) (defBody s_tell_way) (defScope s_tell_way) .none kV23 dc23 pm23 an23 cd23 ct23), sl23⟩)
    (c23 : PySem.W.codeIn K cd23 "tell_way" = true)
    (k23 : PySem.W.keepIn K (.ref f23) = true)
    (a24 : PySem.W.nsIn K mainGlobals "held_by_told_picks" = some (some (.ref f24)))
    (l24 : K.lookup f24 = some ⟨oc24, od24, .func (PySem.W.fnOf "held_by_told_picks" "held_by_told_picks" (defArgs s_held_by_told_picks) (defBody s_held_by_told_picks) (defScope s_held_by_told_picks) .none kV24 dc24 pm24 an24 cd24 ct24), sl24⟩)
    (c24 : PySem.W.codeIn K cd24 "held_by_told_picks" = true)
    (k24 : PySem.W.keepIn K (.ref f24) = true)
    (a25 : PySem.W.nsIn K mainGlobals "are_picks" = some (some (.ref f25)))
    (l25 : K.lookup f25 = some ⟨oc25, od25, .func (PySem.W.fnOf "are_picks" "are_picks" (defArgs s_are_picks) (defBody s_are_picks) (defScope s_are_picks) .none kV25 dc25 pm25 an25 cd25 ct25), sl25⟩)
    (c25 : PySem.W.codeIn K cd25 "are_picks" = true)
    (k25 : PySem.W.keepIn K (.ref f25) = true)
    (a26 : PySem.W.nsIn K mainGlobals "tell_by_told_picks" = some (some (.ref f26)))
    (l26 : K.lookup f26 = some ⟨oc26, od26, .func (PySem.W.fnOf "tell_by_told_picks" "tell_by_told_picks" (defArgs s_tell_by_told_picks) (defBody s_tell_by_told_picks) (defScope s_tell_by_told_picks) .none kV26 dc26 pm26 an26 cd26 ct26), sl26⟩)
    (c26 : PySem.W.codeIn K cd26 "tell_by_told_picks" = true)
    (k26 : PySem.W.keepIn K (.ref f26) = true)
    (a27 : PySem.W.nsIn K mainGlobals "counted" = some (some (.ref f27)))
    (l27 : K.lookup f27 = some ⟨oc27, od27, .func (PySem.W.fnOf "counted" "counted" (defArgs s_counted) (defBody s_counted) (defScope s_counted) .none kV27 dc27 pm27 an27 cd27 ct27), sl27⟩)
    (c27 : PySem.W.codeIn K cd27 "counted" = true)
    (k27 : PySem.W.keepIn K (.ref f27) = true)
    (a28 : PySem.W.nsIn K mainGlobals "needs_all" = some (some (.ref f28)))
    (l28 : K.lookup f28 = some ⟨oc28, od28, .func (PySem.W.fnOf "needs_all" "needs_all" (defArgs s_needs_all) (defBody s_needs_all) (defScope s_needs_all) .none kV28 dc28 pm28 an28 cd28 ct28), sl28⟩)
    (c28 : PySem.W.codeIn K cd28 "needs_all" = true)
    (k28 : PySem.W.keepIn K (.ref f28) = true)
    (a29 : PySem.W.nsIn K mainGlobals "joined" = some (some (.ref f29)))
    (l29 : K.lookup f29 = some ⟨oc29, od29, .func (PySem.W.fnOf "joined" "joined" (defArgs s_joined) (defBody s_joined) (defScope s_joined) .none kV29 dc29 pm29 an29 cd29 ct29), sl29⟩)
    (c29 : PySem.W.codeIn K cd29 "joined" = true)
    (k29 : PySem.W.keepIn K (.ref f29) = true)
    (a30 : PySem.W.nsIn K mainGlobals "proofs" = some (some (.ref f30)))
    (l30 : K.lookup f30 = some ⟨oc30, od30, .func (PySem.W.fnOf "proofs" "proofs" (defArgs s_proofs) (defBody s_proofs) (defScope s_proofs) .none kV30 dc30 pm30 an30 cd30 ct30), sl30⟩)
    (c30 : PySem.W.codeIn K cd30 "proofs" = true)
    (k30 : PySem.W.keepIn K (.ref f30) = true)
    (a31 : PySem.W.nsIn K mainGlobals "tell_proof" = some (some (.ref f31)))
    (l31 : K.lookup f31 = some ⟨oc31, od31, .func (PySem.W.fnOf "tell_proof" "tell_proof" (defArgs s_tell_proof) (defBody s_tell_proof) (defScope s_tell_proof) .none kV31 dc31 pm31 an31 cd31 ct31), sl31⟩)
    (c31 : PySem.W.codeIn K cd31 "tell_proof" = true)
    (k31 : PySem.W.keepIn K (.ref f31) = true)
    (a32 : PySem.W.nsIn K mainGlobals "leaves_below" = some (some (.ref f32)))
    (l32 : K.lookup f32 = some ⟨oc32, od32, .func (PySem.W.fnOf "leaves_below" "leaves_below" (defArgs s_leaves_below) (defBody s_leaves_below) (defScope s_leaves_below) .none kV32 dc32 pm32 an32 cd32 ct32), sl32⟩)
    (c32 : PySem.W.codeIn K cd32 "leaves_below" = true)
    (k32 : PySem.W.keepIn K (.ref f32) = true)
    (a33 : PySem.W.nsIn K mainGlobals "tell_leaves" = some (some (.ref f33)))
    (l33 : K.lookup f33 = some ⟨oc33, od33, .func (PySem.W.fnOf "tell_leaves" "tell_leaves" (defArgs s_tell_leaves) (defBody s_tell_leaves) (defScope s_tell_leaves) .none kV33 dc33 pm33 an33 cd33 ct33), sl33⟩)
    (c33 : PySem.W.codeIn K cd33 "tell_leaves" = true)
    (k33 : PySem.W.keepIn K (.ref f33) = true)
    (a34 : PySem.W.nsIn K mainGlobals "with_flipped" = some (some (.ref f34)))
    (l34 : K.lookup f34 = some ⟨oc34, od34, .func (PySem.W.fnOf "with_flipped" "with_flipped" (defArgs s_with_flipped) (defBody s_with_flipped) (defScope s_with_flipped) .none kV34 dc34 pm34 an34 cd34 ct34), sl34⟩)
    (c34 : PySem.W.codeIn K cd34 "with_flipped" = true)
    (k34 : PySem.W.keepIn K (.ref f34) = true)
    (a35 : PySem.W.nsIn K mainGlobals "tell_matter" = some (some (.ref f35)))
    (l35 : K.lookup f35 = some ⟨oc35, od35, .func (PySem.W.fnOf "tell_matter" "tell_matter" (defArgs s_tell_matter) (defBody s_tell_matter) (defScope s_tell_matter) .none kV35 dc35 pm35 an35 cd35 ct35), sl35⟩)
    (c35 : PySem.W.codeIn K cd35 "tell_matter" = true)
    (k35 : PySem.W.keepIn K (.ref f35) = true)
    (a36 : PySem.W.nsIn K mainGlobals "with_misread" = some (some (.ref f36)))
    (l36 : K.lookup f36 = some ⟨oc36, od36, .func (PySem.W.fnOf "with_misread" "with_misread" (defArgs s_with_misread) (defBody s_with_misread) (defScope s_with_misread) .none kV36 dc36 pm36 an36 cd36 ct36), sl36⟩)
    (c36 : PySem.W.codeIn K cd36 "with_misread" = true)
    (k36 : PySem.W.keepIn K (.ref f36) = true)
    (a37 : PySem.W.nsIn K mainGlobals "tell_if_misread" = some (some (.ref f37)))
    (l37 : K.lookup f37 = some ⟨oc37, od37, .func (PySem.W.fnOf "tell_if_misread" "tell_if_misread" (defArgs s_tell_if_misread) (defBody s_tell_if_misread) (defScope s_tell_if_misread) .none kV37 dc37 pm37 an37 cd37 ct37), sl37⟩)
    (c37 : PySem.W.codeIn K cd37 "tell_if_misread" = true)
    (k37 : PySem.W.keepIn K (.ref f37) = true)
    (a38 : PySem.W.nsIn K mainGlobals "tell_if_flipped" = some (some (.ref f38)))
    (l38 : K.lookup f38 = some ⟨oc38, od38, .func (PySem.W.fnOf "tell_if_flipped" "tell_if_flipped" (defArgs s_tell_if_flipped) (defBody s_tell_if_flipped) (defScope s_tell_if_flipped) .none kV38 dc38 pm38 an38 cd38 ct38), sl38⟩)
    (c38 : PySem.W.codeIn K cd38 "tell_if_flipped" = true)
    (k38 : PySem.W.keepIn K (.ref f38) = true)
    (a39 : PySem.W.nsIn K mainGlobals "tell_best" = some (some (.ref f39)))
    (l39 : K.lookup f39 = some ⟨oc39, od39, .func (PySem.W.fnOf "tell_best" "tell_best" (defArgs s_tell_best) (defBody s_tell_best) (defScope s_tell_best) .none kV39 dc39 pm39 an39 cd39 ct39), sl39⟩)
    (c39 : PySem.W.codeIn K cd39 "tell_best" = true)
    (k39 : PySem.W.keepIn K (.ref f39) = true)
    (a40 : PySem.W.nsIn K mainGlobals "depths" = some (some (.ref f40)))
    (l40 : K.lookup f40 = some ⟨oc40, od40, .func (PySem.W.fnOf "depths" "depths" (defArgs s_depths) (defBody s_depths) (defScope s_depths) .none kV40 dc40 pm40 an40 cd40 ct40), sl40⟩)
    (c40 : PySem.W.codeIn K cd40 "depths" = true)
    (k40 : PySem.W.keepIn K (.ref f40) = true)
    (a41 : PySem.W.nsIn K mainGlobals "tell_depth" = some (some (.ref f41)))
    (l41 : K.lookup f41 = some ⟨oc41, od41, .func (PySem.W.fnOf "tell_depth" "tell_depth" (defArgs s_tell_depth) (defBody s_tell_depth) (defScope s_tell_depth) .none kV41 dc41 pm41 an41 cd41 ct41), sl41⟩)
    (c41 : PySem.W.codeIn K cd41 "tell_depth" = true)
    (k41 : PySem.W.keepIn K (.ref f41) = true)
    (a42 : PySem.W.findIn K (.ref C_Session) "__init__" = some (some (.ref f42)))
    (i42 : PySem.W.isFn K (.ref f42) = true)
    (l42 : K.lookup f42 = some ⟨oc42, od42, .func (PySem.W.fnOf "__init__" "Session.__init__" (defArgs s_Session_init) (defBody s_Session_init) (defScope s_Session_init) .none kV42 dc42 pm42 an42 cd42 ct42), sl42⟩)
    (c42 : PySem.W.codeIn K cd42 "Session.__init__" = true)
    (k42 : PySem.W.keepIn K (.ref f42) = true)
    (a43 : PySem.W.nsIn K mainGlobals "answer_about_leaves" = some (some (.ref f43)))
    (l43 : K.lookup f43 = some ⟨oc43, od43, .func (PySem.W.fnOf "answer_about_leaves" "answer_about_leaves" (defArgs s_answer_about_leaves) (defBody s_answer_about_leaves) (defScope s_answer_about_leaves) .none kV43 dc43 pm43 an43 cd43 ct43), sl43⟩)
    (c43 : PySem.W.codeIn K cd43 "answer_about_leaves" = true)
    (k43 : PySem.W.keepIn K (.ref f43) = true)
    (a44 : PySem.W.nsIn K mainGlobals "answer_about_dispute" = some (some (.ref f44)))
    (l44 : K.lookup f44 = some ⟨oc44, od44, .func (PySem.W.fnOf "answer_about_dispute" "answer_about_dispute" (defArgs s_answer_about_dispute) (defBody s_answer_about_dispute) (defScope s_answer_about_dispute) .none kV44 dc44 pm44 an44 cd44 ct44), sl44⟩)
    (c44 : PySem.W.codeIn K cd44 "answer_about_dispute" = true)
    (k44 : PySem.W.keepIn K (.ref f44) = true)
    (a45 : PySem.W.nsIn K mainGlobals "answer_about_nodes" = some (some (.ref f45)))
    (l45 : K.lookup f45 = some ⟨oc45, od45, .func (PySem.W.fnOf "answer_about_nodes" "answer_about_nodes" (defArgs s_answer_about_nodes) (defBody s_answer_about_nodes) (defScope s_answer_about_nodes) .none kV45 dc45 pm45 an45 cd45 ct45), sl45⟩)
    (c45 : PySem.W.codeIn K cd45 "answer_about_nodes" = true)
    (k45 : PySem.W.keepIn K (.ref f45) = true)
    (a46 : PySem.W.nsIn K mainGlobals "begin" = some (some (.ref f46)))
    (l46 : K.lookup f46 = some ⟨oc46, od46, .func (PySem.W.fnOf "begin" "begin" (defArgs s_begin) (defBody s_begin) (defScope s_begin) .none kV46 dc46 pm46 an46 cd46 ct46), sl46⟩)
    (c46 : PySem.W.codeIn K cd46 "begin" = true)
    (k46 : PySem.W.keepIn K (.ref f46) = true)
    (a47 : PySem.W.nsIn K mainGlobals "answer_call" = some (some (.ref f47)))
    (l47 : K.lookup f47 = some ⟨oc47, od47, .func (PySem.W.fnOf "answer_call" "answer_call" (defArgs s_answer_call) (defBody s_answer_call) (defScope s_answer_call) .none kV47 dc47 pm47 an47 cd47 ct47), sl47⟩)
    (c47 : PySem.W.codeIn K cd47 "answer_call" = true)
    (k47 : PySem.W.keepIn K (.ref f47) = true)
    (a48 : PySem.W.nsIn K mainGlobals "answers" = some (some (.ref f48)))
    (l48 : K.lookup f48 = some ⟨oc48, od48, .func (PySem.W.fnOf "answers" "answers" (defArgs s_answers) (defBody s_answers) (defScope s_answers) .none kV48 dc48 pm48 an48 cd48 ct48), sl48⟩)
    (c48 : PySem.W.codeIn K cd48 "answers" = true)
    (k48 : PySem.W.keepIn K (.ref f48) = true)
    (pgNode : PySem.W.plainGet K C_Node Str.empty = true)
    (hdNode : PySem.W.hasDictIn K C_Node = true)
    (poNode : PySem.W.plainOver K C_Node = true)
    (saNode : PySem.W.findIn K (.ref C_Node) "__setattr__" = some (some (.builtin "object.__setattr__")))
    (mkNode : PySem.W.makesIn K C_Node = true)
    (kcNode : PySem.W.keepIn K (.ref C_Node) = true)
    (nNodekind : PySem.W.findIn K (.ref C_Node) "kind" = some none)
    (nNodeso : PySem.W.findIn K (.ref C_Node) "so" = some none)
    (nNodemisread : PySem.W.findIn K (.ref C_Node) "misread" = some none)
    (nNodechildren : PySem.W.findIn K (.ref C_Node) "children" = some none)
    (pgSession : PySem.W.plainGet K C_Session Str.empty = true)
    (hdSession : PySem.W.hasDictIn K C_Session = true)
    (poSession : PySem.W.plainOver K C_Session = true)
    (saSession : PySem.W.findIn K (.ref C_Session) "__setattr__" = some (some (.builtin "object.__setattr__")))
    (mkSession : PySem.W.makesIn K C_Session = true)
    (kcSession : PySem.W.keepIn K (.ref C_Session) = true)
    (nSessionbegun : PySem.W.findIn K (.ref C_Session) "begun" = some none)
    (nSessionnodes : PySem.W.findIn K (.ref C_Session) "nodes" = some none)
    (gLEAF : PySem.W.nsIn K mainGlobals "LEAF" = some (some (.int (0) tLEAF)))
    (gWHOLE : PySem.W.nsIn K mainGlobals "WHOLE" = some (some (.int (100) tWHOLE)))
    (gBAD_NUMBERS : PySem.W.nsIn K mainGlobals "BAD_NUMBERS" = some (some (.int (-22) tBAD_NUMBERS)))
    (gMOST_NODES : PySem.W.nsIn K mainGlobals "MOST_NODES" = some (some (.int (20) tMOST_NODES)))
    (gTOO_MANY : PySem.W.nsIn K mainGlobals "TOO_MANY" = some (some (.int (-28) tTOO_MANY)))
    (gMOST_CHILDREN : PySem.W.nsIn K mainGlobals "MOST_CHILDREN" = some (some (.int (4) tMOST_CHILDREN)))
    (gNONE_LEFT : PySem.W.nsIn K mainGlobals "NONE_LEFT" = some (some (.int (-6) tNONE_LEFT)))
    (gNO_NODE : PySem.W.nsIn K mainGlobals "NO_NODE" = some (some (.int (-2) tNO_NODE)))
    (gUNFIT : PySem.W.nsIn K mainGlobals "UNFIT" = some (some (.int (-33) tUNFIT)))
    (gALL_OF : PySem.W.nsIn K mainGlobals "ALL_OF" = some (some (.int (1) tALL_OF)))
    (gCALL_BYDOUBT : PySem.W.nsIn K mainGlobals "CALL_BYDOUBT" = some (some (.int (14) tCALL_BYDOUBT)))
    (gCALL_WRONG : PySem.W.nsIn K mainGlobals "CALL_WRONG" = some (some (.int (7) tCALL_WRONG)))
    (gNOT_BEGUN : PySem.W.nsIn K mainGlobals "NOT_BEGUN" = some (some (.int (-11) tNOT_BEGUN)))
    (gCALL_BEGIN : PySem.W.nsIn K mainGlobals "CALL_BEGIN" = some (some (.int (0) tCALL_BEGIN)))
    (gCALL_FLIP : PySem.W.nsIn K mainGlobals "CALL_FLIP" = some (some (.int (6) tCALL_FLIP)))
    (gCALL_NODEIS : PySem.W.nsIn K mainGlobals "CALL_NODEIS" = some (some (.int (5) tCALL_NODEIS)))
    (gCALL_POP : PySem.W.nsIn K mainGlobals "CALL_POP" = some (some (.int (4) tCALL_POP)))
    (gCALL_SOME : PySem.W.nsIn K mainGlobals "CALL_SOME" = some (some (.int (3) tCALL_SOME)))
    (gSOME_OF : PySem.W.nsIn K mainGlobals "SOME_OF" = some (some (.int (2) tSOME_OF)))
    (gCALL_ALL_OF : PySem.W.nsIn K mainGlobals "CALL_ALL_OF" = some (some (.int (2) tCALL_ALL_OF)))
    (gCALL_LEAF : PySem.W.nsIn K mainGlobals "CALL_LEAF" = some (some (.int (1) tCALL_LEAF)))
    (gCALL_BYSAY : PySem.W.nsIn K mainGlobals "CALL_BYSAY" = some (some (.int (13) tCALL_BYSAY)))
    (gCALL_WAY : PySem.W.nsIn K mainGlobals "CALL_WAY" = some (some (.int (12) tCALL_WAY)))
    (gCALL_PICK : PySem.W.nsIn K mainGlobals "CALL_PICK" = some (some (.int (11) tCALL_PICK)))
    (gCALL_RIGHT : PySem.W.nsIn K mainGlobals "CALL_RIGHT" = some (some (.int (10) tCALL_RIGHT)))
    (gCALL_HELD : PySem.W.nsIn K mainGlobals "CALL_HELD" = some (some (.int (9) tCALL_HELD)))
    (gCALL_TRUE : PySem.W.nsIn K mainGlobals "CALL_TRUE" = some (some (.int (8) tCALL_TRUE)))
    (gCALL_BEST : PySem.W.nsIn K mainGlobals "CALL_BEST" = some (some (.int (20) tCALL_BEST)))
    (gCALL_IFFLIP : PySem.W.nsIn K mainGlobals "CALL_IFFLIP" = some (some (.int (19) tCALL_IFFLIP)))
    (gCALL_IFWRONG : PySem.W.nsIn K mainGlobals "CALL_IFWRONG" = some (some (.int (18) tCALL_IFWRONG)))
    (gCALL_MATTER : PySem.W.nsIn K mainGlobals "CALL_MATTER" = some (some (.int (17) tCALL_MATTER)))
    (gCALL_LEAVES : PySem.W.nsIn K mainGlobals "CALL_LEAVES" = some (some (.int (16) tCALL_LEAVES)))
    (gCALL_PROOF : PySem.W.nsIn K mainGlobals "CALL_PROOF" = some (some (.int (15) tCALL_PROOF)))
    (blist : PySem.W.nsIn K mainGlobals "list" = some none)
    (blen : PySem.W.nsIn K mainGlobals "len" = some none)
    (benumerate : PySem.W.nsIn K mainGlobals "enumerate" = some none)
    (bmax : PySem.W.nsIn K mainGlobals "max" = some none)
    (bmin : PySem.W.nsIn K mainGlobals "min" = some none) :
    ∃ fd : FuncData, (∀ (s : Shared) (us : List Value), us.length = (["calls"] : List Str).length → BindsTo s fd ⟨us, []⟩ ((["calls"] : List Str).zip us)) ∧ ∀ base : Heap, K.In base → base.Ns mainGlobals mg → FnOk P w K mg base CX0 7 fa fd ["calls"] (spA K) := by
  have e := hfa.symm.trans (PySem.W.mg_of X G a48)
  cases e
  have T : Txt K mg C_Node C_Session := ⟨⟨pgNode, hdNode, poNode, saNode⟩, nNodekind, nNodeso, nNodemisread, nNodechildren, ⟨pgSession, hdSession, poSession, saSession⟩, nSessionbegun, nSessionnodes, ⟨_, PySem.W.mg_of X G gLEAF, ⟨_, rfl⟩⟩, ⟨_, PySem.W.mg_of X G gWHOLE, ⟨_, rfl⟩⟩, ⟨_, PySem.W.mg_of X G gBAD_NUMBERS, ⟨_, rfl⟩⟩, ⟨_, PySem.W.mg_of X G gMOST_NODES, ⟨_, rfl⟩⟩, ⟨_, PySem.W.mg_of X G gTOO_MANY, ⟨_, rfl⟩⟩, ⟨_, PySem.W.mg_of X G gMOST_CHILDREN, ⟨_, rfl⟩⟩, ⟨_, PySem.W.mg_of X G gNONE_LEFT, ⟨_, rfl⟩⟩, ⟨_, PySem.W.mg_of X G gNO_NODE, ⟨_, rfl⟩⟩, ⟨_, PySem.W.mg_of X G gUNFIT, ⟨_, rfl⟩⟩, ⟨_, PySem.W.mg_of X G gALL_OF, ⟨_, rfl⟩⟩, ⟨_, PySem.W.mg_of X G gCALL_BYDOUBT, ⟨_, rfl⟩⟩, ⟨_, PySem.W.mg_of X G gCALL_WRONG, ⟨_, rfl⟩⟩, ⟨_, PySem.W.mg_of X G gNOT_BEGUN, ⟨_, rfl⟩⟩, ⟨_, PySem.W.mg_of X G gCALL_BEGIN, ⟨_, rfl⟩⟩, ⟨_, PySem.W.mg_of X G gCALL_FLIP, ⟨_, rfl⟩⟩, ⟨_, PySem.W.mg_of X G gCALL_NODEIS, ⟨_, rfl⟩⟩, ⟨_, PySem.W.mg_of X G gCALL_POP, ⟨_, rfl⟩⟩, ⟨_, PySem.W.mg_of X G gCALL_SOME, ⟨_, rfl⟩⟩, ⟨_, PySem.W.mg_of X G gSOME_OF, ⟨_, rfl⟩⟩, ⟨_, PySem.W.mg_of X G gCALL_ALL_OF, ⟨_, rfl⟩⟩, ⟨_, PySem.W.mg_of X G gCALL_LEAF, ⟨_, rfl⟩⟩, ⟨_, PySem.W.mg_of X G gCALL_BYSAY, ⟨_, rfl⟩⟩, ⟨_, PySem.W.mg_of X G gCALL_WAY, ⟨_, rfl⟩⟩, ⟨_, PySem.W.mg_of X G gCALL_PICK, ⟨_, rfl⟩⟩, ⟨_, PySem.W.mg_of X G gCALL_RIGHT, ⟨_, rfl⟩⟩, ⟨_, PySem.W.mg_of X G gCALL_HELD, ⟨_, rfl⟩⟩, ⟨_, PySem.W.mg_of X G gCALL_TRUE, ⟨_, rfl⟩⟩, ⟨_, PySem.W.mg_of X G gCALL_BEST, ⟨_, rfl⟩⟩, ⟨_, PySem.W.mg_of X G gCALL_IFFLIP, ⟨_, rfl⟩⟩, ⟨_, PySem.W.mg_of X G gCALL_IFWRONG, ⟨_, rfl⟩⟩, ⟨_, PySem.W.mg_of X G gCALL_MATTER, ⟨_, rfl⟩⟩, ⟨_, PySem.W.mg_of X G gCALL_LEAVES, ⟨_, rfl⟩⟩, ⟨_, PySem.W.mg_of X G gCALL_PROOF, ⟨_, rfl⟩⟩, PySem.W.mg_none_of X G blist, PySem.W.mg_none_of X G blen, PySem.W.mg_none_of X G benumerate, PySem.W.mg_none_of X G bmax, PySem.W.mg_none_of X G bmin⟩
  have F1 := fun_mk (st := s_Node_init) l1 c1 k1
  have b1 := F1.binds (ps := ["self", "kind", "so", "misread", "children"]) fun _ _ _ _ _ _ us hl => match us, hl with | [_, _, _, _, _], _ => rfl
  have F2 := fun_mk (st := s_add_node) l2 c2 k2
  have b2 := F2.binds (ps := ["nodes", "node"]) fun _ _ _ _ _ _ us hl => match us, hl with | [_, _], _ => rfl
  have F3 := fun_mk (st := s_add_leaf) l3 c3 k3
  have b3 := F3.binds (ps := ["nodes", "so", "misread"]) fun _ _ _ _ _ _ us hl => match us, hl with | [_, _, _], _ => rfl
  have F4 := fun_mk (st := s_children_of_all) l4 c4 k4
  have b4 := F4.binds (ps := ["nodes"]) fun _ _ _ _ _ _ us hl => match us, hl with | [_], _ => rfl
  have F5 := fun_mk (st := s_can_be_children) l5 c5 k5
  have b5 := F5.binds (ps := ["nodes", "row"]) fun _ _ _ _ _ _ us hl => match us, hl with | [_, _], _ => rfl
  have F6 := fun_mk (st := s_add_joint) l6 c6 k6
  have b6 := F6.binds (ps := ["nodes", "kind", "row"]) fun _ _ _ _ _ _ us hl => match us, hl with | [_, _, _], _ => rfl
  have F7 := fun_mk (st := s_pop_last) l7 c7 k7
  have b7 := F7.binds (ps := ["nodes"]) fun _ _ _ _ _ _ us hl => match us, hl with | [_], _ => rfl
  have F8 := fun_mk (st := s_tell_node) l8 c8 k8
  have b8 := F8.binds (ps := ["nodes", "i"]) fun _ _ _ _ _ _ us hl => match us, hl with | [_, _], _ => rfl
  have F9 := fun_mk (st := s_flip_leaf) l9 c9 k9
  have b9 := F9.binds (ps := ["nodes", "i"]) fun _ _ _ _ _ _ us hl => match us, hl with | [_, _], _ => rfl
  have F10 := fun_mk (st := s_change_misread) l10 c10 k10
  have b10 := F10.binds (ps := ["nodes", "i", "misread"]) fun _ _ _ _ _ _ us hl => match us, hl with | [_, _, _], _ => rfl
  have F11 := fun_mk (st := s_picked_value) l11 c11 k11
  have b11 := F11.binds (ps := ["node", "values"]) fun _ _ _ _ _ _ us hl => match us, hl with | [_, _], _ => rfl
  have F12 := fun_mk (st := s_truths) l12 c12 k12
  have b12 := F12.binds (ps := ["nodes"]) fun _ _ _ _ _ _ us hl => match us, hl with | [_], _ => rfl
  have F13 := fun_mk (st := s_tell_true) l13 c13 k13
  have b13 := F13.binds (ps := ["nodes", "i"]) fun _ _ _ _ _ _ us hl => match us, hl with | [_, _], _ => rfl
  have F14 := fun_mk (st := s_common_part) l14 c14 k14
  have b14 := F14.binds (ps := ["one", "other"]) fun _ _ _ _ _ _ us hl => match us, hl with | [_, _], _ => rfl
  have F15 := fun_mk (st := s_fraction) l15 c15 k15
  have b15 := F15.binds (ps := ["hundredths"]) fun _ _ _ _ _ _ us hl => match us, hl with | [_], _ => rfl
  have F16 := fun_mk (st := s_read_as_so) l16 c16 k16
  have b16 := F16.binds (ps := ["leaf"]) fun _ _ _ _ _ _ us hl => match us, hl with | [_], _ => rfl
  have F17 := fun_mk (st := s_held_hundredths) l17 c17 k17
  have b17 := F17.binds (ps := ["nodes"]) fun _ _ _ _ _ _ us hl => match us, hl with | [_], _ => rfl
  have F18 := fun_mk (st := s_tell_held) l18 c18 k18
  have b18 := F18.binds (ps := ["nodes", "i"]) fun _ _ _ _ _ _ us hl => match us, hl with | [_, _], _ => rfl
  have F19 := fun_mk (st := s_right_hundredths) l19 c19 k19
  have b19 := F19.binds (ps := ["nodes", "i"]) fun _ _ _ _ _ _ us hl => match us, hl with | [_, _], _ => rfl
  have F20 := fun_mk (st := s_tell_right) l20 c20 k20
  have b20 := F20.binds (ps := ["nodes", "i"]) fun _ _ _ _ _ _ us hl => match us, hl with | [_, _], _ => rfl
  have F21 := fun_mk (st := s_picked_child) l21 c21 k21
  have b21 := F21.binds (ps := ["node", "values"]) fun _ _ _ _ _ _ us hl => match us, hl with | [_, _], _ => rfl
  have F22 := fun_mk (st := s_tell_pick) l22 c22 k22
  have b22 := F22.binds (ps := ["nodes", "i"]) fun _ _ _ _ _ _ us hl => match us, hl with | [_, _], _ => rfl
  have F23 := fun_mk (st := s_tell_way) l23 c23 k23
  have b23 := F23.binds (ps := ["nodes", "i"]) fun _ _ _ _ _ _ us hl => match us, hl with | [_, _], _ => rfl
  have F24 := fun_mk (st := s_held_by_told_picks) l24 c24 k24
  have b24 := F24.binds (ps := ["nodes", "kind", "row"]) fun _ _ _ _ _ _ us hl => match us, hl with | [_, _, _], _ => rfl
  have F25 := fun_mk (st := s_are_picks) l25 c25 k25
  have b25 := F25.binds (ps := ["nodes", "kind", "row"]) fun _ _ _ _ _ _ us hl => match us, hl with | [_, _, _], _ => rfl
  have F26 := fun_mk (st := s_tell_by_told_picks) l26 c26 k26
  have b26 := F26.binds (ps := ["nodes", "kind", "i", "row"]) fun _ _ _ _ _ _ us hl => match us, hl with | [_, _, _, _], _ => rfl
  have F27 := fun_mk (st := s_counted) l27 c27 k27
  have b27 := F27.binds (ps := ["row"]) fun _ _ _ _ _ _ us hl => match us, hl with | [_], _ => rfl
  have F28 := fun_mk (st := s_needs_all) l28 c28 k28
  have b28 := F28.binds (ps := ["node", "true"]) fun _ _ _ _ _ _ us hl => match us, hl with | [_, _], _ => rfl
  have F29 := fun_mk (st := s_joined) l29 c29 k29
  have b29 := F29.binds (ps := ["node", "rows"]) fun _ _ _ _ _ _ us hl => match us, hl with | [_, _], _ => rfl
  have F30 := fun_mk (st := s_proofs) l30 c30 k30
  have b30 := F30.binds (ps := ["nodes"]) fun _ _ _ _ _ _ us hl => match us, hl with | [_], _ => rfl
  have F31 := fun_mk (st := s_tell_proof) l31 c31 k31
  have b31 := F31.binds (ps := ["nodes", "i"]) fun _ _ _ _ _ _ us hl => match us, hl with | [_, _], _ => rfl
  have F32 := fun_mk (st := s_leaves_below) l32 c32 k32
  have b32 := F32.binds (ps := ["nodes"]) fun _ _ _ _ _ _ us hl => match us, hl with | [_], _ => rfl
  have F33 := fun_mk (st := s_tell_leaves) l33 c33 k33
  have b33 := F33.binds (ps := ["nodes", "i"]) fun _ _ _ _ _ _ us hl => match us, hl with | [_, _], _ => rfl
  have F34 := fun_mk (st := s_with_flipped) l34 c34 k34
  have b34 := F34.binds (ps := ["nodes", "j"]) fun _ _ _ _ _ _ us hl => match us, hl with | [_, _], _ => rfl
  have F35 := fun_mk (st := s_tell_matter) l35 c35 k35
  have b35 := F35.binds (ps := ["nodes", "i"]) fun _ _ _ _ _ _ us hl => match us, hl with | [_, _], _ => rfl
  have F36 := fun_mk (st := s_with_misread) l36 c36 k36
  have b36 := F36.binds (ps := ["nodes", "j", "misread"]) fun _ _ _ _ _ _ us hl => match us, hl with | [_, _, _], _ => rfl
  have F37 := fun_mk (st := s_tell_if_misread) l37 c37 k37
  have b37 := F37.binds (ps := ["nodes", "i", "j", "misread"]) fun _ _ _ _ _ _ us hl => match us, hl with | [_, _, _, _], _ => rfl
  have F38 := fun_mk (st := s_tell_if_flipped) l38 c38 k38
  have b38 := F38.binds (ps := ["nodes", "i", "j"]) fun _ _ _ _ _ _ us hl => match us, hl with | [_, _, _], _ => rfl
  have F39 := fun_mk (st := s_tell_best) l39 c39 k39
  have b39 := F39.binds (ps := ["nodes", "i"]) fun _ _ _ _ _ _ us hl => match us, hl with | [_, _], _ => rfl
  have F40 := fun_mk (st := s_depths) l40 c40 k40
  have b40 := F40.binds (ps := ["nodes"]) fun _ _ _ _ _ _ us hl => match us, hl with | [_], _ => rfl
  have F41 := fun_mk (st := s_tell_depth) l41 c41 k41
  have b41 := F41.binds (ps := ["nodes", "i"]) fun _ _ _ _ _ _ us hl => match us, hl with | [_, _], _ => rfl
  have F42 := fun_mk (st := s_Session_init) l42 c42 k42
  have b42 := F42.binds (ps := ["self"]) fun _ _ _ _ _ _ us hl => match us, hl with | [_], _ => rfl
  have F43 := fun_mk (st := s_answer_about_leaves) l43 c43 k43
  have b43 := F43.binds (ps := ["nodes", "call", "numbers"]) fun _ _ _ _ _ _ us hl => match us, hl with | [_, _, _], _ => rfl
  have F44 := fun_mk (st := s_answer_about_dispute) l44 c44 k44
  have b44 := F44.binds (ps := ["nodes", "call", "numbers"]) fun _ _ _ _ _ _ us hl => match us, hl with | [_, _, _], _ => rfl
  have F45 := fun_mk (st := s_answer_about_nodes) l45 c45 k45
  have b45 := F45.binds (ps := ["nodes", "call", "numbers"]) fun _ _ _ _ _ _ us hl => match us, hl with | [_, _, _], _ => rfl
  have F46 := fun_mk (st := s_begin) l46 c46 k46
  have b46 := F46.binds (ps := ["session"]) fun _ _ _ _ _ _ us hl => match us, hl with | [_], _ => rfl
  have F47 := fun_mk (st := s_answer_call) l47 c47 k47
  have b47 := F47.binds (ps := ["session", "call", "numbers"]) fun _ _ _ _ _ _ us hl => match us, hl with | [_, _, _], _ => rfl
  have F48 := fun_mk (st := s_answers) l48 c48 k48
  refine ⟨PySem.W.fnOf "answers" "answers" (defArgs s_answers) (defBody s_answers) (defScope s_answers) .none kV48 dc48 pm48 an48 cd48 ct48, fun s us hu => match us, hu with | [_], _ => .of_eq rfl, fun base _ _ => ?_⟩
  have Z_Node : Klass P w K mg base "Node" C_Node 1 ["self", "kind", "so", "misread", "children"] (sp_Node_init K C_Node C_Session) := ⟨⟨_, _, ⟨mkNode, a1, i1, kcNode⟩, ok_Node_init F1 T , b1⟩, PySem.W.mg_of X G aNode⟩
  have D_add_node : Def P w K mg base "add_node" 1 ["nodes", "node"] (sp_add_node K C_Node C_Session) := ⟨⟨_, _, ok_add_node F2 T , PySem.W.mg_of X G a2, k2, b2⟩⟩
  have D_add_leaf : Def P w K mg base "add_leaf" 3 ["nodes", "so", "misread"] (sp_add_leaf K C_Node C_Session) := ⟨⟨_, _, ok_add_leaf F3 T D_add_node Z_Node, PySem.W.mg_of X G a3, k3, b3⟩⟩
  have D_children_of_all : Def P w K mg base "children_of_all" 1 ["nodes"] (sp_children_of_all K C_Node C_Session) := ⟨⟨_, _, ok_children_of_all F4 T , PySem.W.mg_of X G a4, k4, b4⟩⟩
  have D_can_be_children : Def P w K mg base "can_be_children" 2 ["nodes", "row"] (sp_can_be_children K C_Node C_Session) := ⟨⟨_, _, ok_can_be_children F5 T D_children_of_all, PySem.W.mg_of X G a5, k5, b5⟩⟩
  have D_add_joint : Def P w K mg base "add_joint" 3 ["nodes", "kind", "row"] (sp_add_joint K C_Node C_Session) := ⟨⟨_, _, ok_add_joint F6 T D_add_node D_can_be_children Z_Node, PySem.W.mg_of X G a6, k6, b6⟩⟩
  have D_pop_last : Def P w K mg base "pop_last" 1 ["nodes"] (sp_pop_last K C_Node C_Session) := ⟨⟨_, _, ok_pop_last F7 T , PySem.W.mg_of X G a7, k7, b7⟩⟩
  have D_tell_node : Def P w K mg base "tell_node" 1 ["nodes", "i"] (sp_tell_node K C_Node C_Session) := ⟨⟨_, _, ok_tell_node F8 T , PySem.W.mg_of X G a8, k8, b8⟩⟩
  have D_flip_leaf : Def P w K mg base "flip_leaf" 1 ["nodes", "i"] (sp_flip_leaf K C_Node C_Session) := ⟨⟨_, _, ok_flip_leaf F9 T , PySem.W.mg_of X G a9, k9, b9⟩⟩
  have D_change_misread : Def P w K mg base "change_misread" 1 ["nodes", "i", "misread"] (sp_change_misread K C_Node C_Session) := ⟨⟨_, _, ok_change_misread F10 T , PySem.W.mg_of X G a10, k10, b10⟩⟩
  have D_picked_value : Def P w K mg base "picked_value" 1 ["node", "values"] (sp_picked_value K C_Node C_Session) := ⟨⟨_, _, ok_picked_value F11 T , PySem.W.mg_of X G a11, k11, b11⟩⟩
  have D_truths : Def P w K mg base "truths" 2 ["nodes"] (sp_truths K C_Node C_Session) := ⟨⟨_, _, ok_truths F12 T D_picked_value, PySem.W.mg_of X G a12, k12, b12⟩⟩
  have D_tell_true : Def P w K mg base "tell_true" 3 ["nodes", "i"] (sp_tell_true K C_Node C_Session) := ⟨⟨_, _, ok_tell_true F13 T D_truths, PySem.W.mg_of X G a13, k13, b13⟩⟩
  have D_common_part : Def P w K mg base "common_part" 1 ["one", "other"] (sp_common_part K C_Node C_Session) := ⟨⟨_, _, ok_common_part F14 T , PySem.W.mg_of X G a14, k14, b14⟩⟩
  have D_fraction : Def P w K mg base "fraction" 2 ["hundredths"] (sp_fraction K C_Node C_Session) := ⟨⟨_, _, ok_fraction F15 T D_common_part, PySem.W.mg_of X G a15, k15, b15⟩⟩
  have D_read_as_so : Def P w K mg base "read_as_so" 1 ["leaf"] (sp_read_as_so K C_Node C_Session) := ⟨⟨_, _, ok_read_as_so F16 T , PySem.W.mg_of X G a16, k16, b16⟩⟩
  have D_held_hundredths : Def P w K mg base "held_hundredths" 2 ["nodes"] (sp_held_hundredths K C_Node C_Session) := ⟨⟨_, _, ok_held_hundredths F17 T D_read_as_so D_picked_value, PySem.W.mg_of X G a17, k17, b17⟩⟩
  have D_tell_held : Def P w K mg base "tell_held" 3 ["nodes", "i"] (sp_tell_held K C_Node C_Session) := ⟨⟨_, _, ok_tell_held F18 T D_fraction D_held_hundredths, PySem.W.mg_of X G a18, k18, b18⟩⟩
  have D_right_hundredths : Def P w K mg base "right_hundredths" 3 ["nodes", "i"] (sp_right_hundredths K C_Node C_Session) := ⟨⟨_, _, ok_right_hundredths F19 T D_truths D_held_hundredths, PySem.W.mg_of X G a19, k19, b19⟩⟩
  have D_tell_right : Def P w K mg base "tell_right" 4 ["nodes", "i"] (sp_tell_right K C_Node C_Session) := ⟨⟨_, _, ok_tell_right F20 T D_fraction D_right_hundredths, PySem.W.mg_of X G a20, k20, b20⟩⟩
  have D_picked_child : Def P w K mg base "picked_child" 2 ["node", "values"] (sp_picked_child K C_Node C_Session) := ⟨⟨_, _, ok_picked_child F21 T D_picked_value, PySem.W.mg_of X G a21, k21, b21⟩⟩
  have D_tell_pick : Def P w K mg base "tell_pick" 3 ["nodes", "i"] (sp_tell_pick K C_Node C_Session) := ⟨⟨_, _, ok_tell_pick F22 T D_picked_child D_held_hundredths, PySem.W.mg_of X G a22, k22, b22⟩⟩
  have D_tell_way : Def P w K mg base "tell_way" 3 ["nodes", "i"] (sp_tell_way K C_Node C_Session) := ⟨⟨_, _, ok_tell_way F23 T D_picked_child D_held_hundredths, PySem.W.mg_of X G a23, k23, b23⟩⟩
  have D_held_by_told_picks : Def P w K mg base "held_by_told_picks" 2 ["nodes", "kind", "row"] (sp_held_by_told_picks K C_Node C_Session) := ⟨⟨_, _, ok_held_by_told_picks F24 T D_read_as_so D_picked_value, PySem.W.mg_of X G a24, k24, b24⟩⟩
  have D_are_picks : Def P w K mg base "are_picks" 1 ["nodes", "kind", "row"] (sp_are_picks K C_Node C_Session) := ⟨⟨_, _, ok_are_picks F25 T , PySem.W.mg_of X G a25, k25, b25⟩⟩
  have D_tell_by_told_picks : Def P w K mg base "tell_by_told_picks" 3 ["nodes", "kind", "i", "row"] (sp_tell_by_told_picks K C_Node C_Session) := ⟨⟨_, _, ok_tell_by_told_picks F26 T D_fraction D_held_by_told_picks D_are_picks, PySem.W.mg_of X G a26, k26, b26⟩⟩
  have D_counted : Def P w K mg base "counted" 1 ["row"] (sp_counted K C_Node C_Session) := ⟨⟨_, _, ok_counted F27 T , PySem.W.mg_of X G a27, k27, b27⟩⟩
  have D_needs_all : Def P w K mg base "needs_all" 1 ["node", "true"] (sp_needs_all K C_Node C_Session) := ⟨⟨_, _, ok_needs_all F28 T , PySem.W.mg_of X G a28, k28, b28⟩⟩
  have D_joined : Def P w K mg base "joined" 1 ["node", "rows"] (sp_joined K C_Node C_Session) := ⟨⟨_, _, ok_joined F29 T , PySem.W.mg_of X G a29, k29, b29⟩⟩
  have D_proofs : Def P w K mg base "proofs" 3 ["nodes"] (sp_proofs K C_Node C_Session) := ⟨⟨_, _, ok_proofs F30 T D_needs_all D_joined D_truths, PySem.W.mg_of X G a30, k30, b30⟩⟩
  have D_tell_proof : Def P w K mg base "tell_proof" 4 ["nodes", "i"] (sp_tell_proof K C_Node C_Session) := ⟨⟨_, _, ok_tell_proof F31 T D_counted D_proofs, PySem.W.mg_of X G a31, k31, b31⟩⟩
  have D_leaves_below : Def P w K mg base "leaves_below" 2 ["nodes"] (sp_leaves_below K C_Node C_Session) := ⟨⟨_, _, ok_leaves_below F32 T D_joined, PySem.W.mg_of X G a32, k32, b32⟩⟩
  have D_tell_leaves : Def P w K mg base "tell_leaves" 3 ["nodes", "i"] (sp_tell_leaves K C_Node C_Session) := ⟨⟨_, _, ok_tell_leaves F33 T D_counted D_leaves_below, PySem.W.mg_of X G a33, k33, b33⟩⟩
  have D_with_flipped : Def P w K mg base "with_flipped" 3 ["nodes", "j"] (sp_with_flipped K C_Node C_Session) := ⟨⟨_, _, ok_with_flipped F34 T Z_Node, PySem.W.mg_of X G a34, k34, b34⟩⟩
  have D_tell_matter : Def P w K mg base "tell_matter" 4 ["nodes", "i"] (sp_tell_matter K C_Node C_Session) := ⟨⟨_, _, ok_tell_matter F35 T D_counted D_truths D_with_flipped D_leaves_below, PySem.W.mg_of X G a35, k35, b35⟩⟩
  have D_with_misread : Def P w K mg base "with_misread" 3 ["nodes", "j", "misread"] (sp_with_misread K C_Node C_Session) := ⟨⟨_, _, ok_with_misread F36 T Z_Node, PySem.W.mg_of X G a36, k36, b36⟩⟩
  have D_tell_if_misread : Def P w K mg base "tell_if_misread" 4 ["nodes", "i", "j", "misread"] (sp_tell_if_misread K C_Node C_Session) := ⟨⟨_, _, ok_tell_if_misread F37 T D_fraction D_right_hundredths D_with_misread D_leaves_below, PySem.W.mg_of X G a37, k37, b37⟩⟩
  have D_tell_if_flipped : Def P w K mg base "tell_if_flipped" 4 ["nodes", "i", "j"] (sp_tell_if_flipped K C_Node C_Session) := ⟨⟨_, _, ok_tell_if_flipped F38 T D_truths D_with_flipped D_leaves_below, PySem.W.mg_of X G a38, k38, b38⟩⟩
  have D_tell_best : Def P w K mg base "tell_best" 4 ["nodes", "i"] (sp_tell_best K C_Node C_Session) := ⟨⟨_, _, ok_tell_best F39 T D_fraction D_right_hundredths D_with_misread D_leaves_below, PySem.W.mg_of X G a39, k39, b39⟩⟩
  have D_depths : Def P w K mg base "depths" 1 ["nodes"] (sp_depths K C_Node C_Session) := ⟨⟨_, _, ok_depths F40 T , PySem.W.mg_of X G a40, k40, b40⟩⟩
  have D_tell_depth : Def P w K mg base "tell_depth" 2 ["nodes", "i"] (sp_tell_depth K C_Node C_Session) := ⟨⟨_, _, ok_tell_depth F41 T D_depths, PySem.W.mg_of X G a41, k41, b41⟩⟩
  have Z_Session : Klass P w K mg base "Session" C_Session 1 ["self"] (sp_Session_init K C_Node C_Session) := ⟨⟨_, _, ⟨mkSession, a42, i42, kcSession⟩, ok_Session_init F42 T , b42⟩, PySem.W.mg_of X G aSession⟩
  have D_answer_about_leaves : Def P w K mg base "answer_about_leaves" 5 ["nodes", "call", "numbers"] (sp_answer_about_leaves K C_Node C_Session) := ⟨⟨_, _, ok_answer_about_leaves F43 T D_tell_depth D_tell_best D_tell_if_flipped D_tell_if_misread D_tell_matter D_tell_leaves D_tell_proof, PySem.W.mg_of X G a43, k43, b43⟩⟩
  have D_answer_about_dispute : Def P w K mg base "answer_about_dispute" 5 ["nodes", "call", "numbers"] (sp_answer_about_dispute K C_Node C_Session) := ⟨⟨_, _, ok_answer_about_dispute F44 T D_tell_by_told_picks D_tell_way D_tell_pick D_tell_right D_tell_held D_tell_true, PySem.W.mg_of X G a44, k44, b44⟩⟩
  have D_answer_about_nodes : Def P w K mg base "answer_about_nodes" 4 ["nodes", "call", "numbers"] (sp_answer_about_nodes K C_Node C_Session) := ⟨⟨_, _, ok_answer_about_nodes F45 T D_change_misread D_flip_leaf D_tell_node D_pop_last D_add_joint D_add_leaf, PySem.W.mg_of X G a45, k45, b45⟩⟩
  have D_begin : Def P w K mg base "begin" 1 ["session"] (sp_begin K C_Node C_Session) := ⟨⟨_, _, ok_begin F46 T , PySem.W.mg_of X G a46, k46, b46⟩⟩
  have D_answer_call : Def P w K mg base "answer_call" 6 ["session", "call", "numbers"] (sp_answer_call K C_Node C_Session) := ⟨⟨_, _, ok_answer_call F47 T D_answer_about_leaves D_answer_about_dispute D_answer_about_nodes D_begin, PySem.W.mg_of X G a47, k47, b47⟩⟩
  exact ok_answers F48 T D_answer_call Z_Session
end Dp
open PySem PySem.W PyProof.Rows
set_option maxRecDepth 100000 in
set_option maxHeartbeats 8000000 in
set_option pp.maxSteps 300 in
set_option pp.deepTerms false in
theorem PySem.Challenge.cw_disputed_s01_answers_holds : PySem.Challenge.rw_disputed_s01_answers.Holds := by
  w_on; k_headS; (case hw => exact ⟨[.list [.int 0, .int 0, .int 0]], by decide +kernel, by decide +kernel⟩)
  k_fillS
  refine L2.walk_specK (r := PySem.Challenge.rw_disputed_s01_answers) (k := 7) (CX := L2.CX0) (ps := ["calls"]) (sp := Dp.spA) (by decide +kernel) rfl rfl ⟨rfl, by decide, by decide⟩ (fun w h Y => PySem.W.kIn_of Y) ?F ?S (fun _ _ _ _ z => z)
  case F =>
    intro w mg fa h Y KX G hmg
    refine' Dp.all_mk  KX G hmg ?aNode ?aSession ?a1 ?i1 ?l1 ?c1 ?k1 ?a2 ?l2 ?c2 ?k2 ?a3 ?l3 ?c3 ?k3 ?a4 ?l4 ?c4 ?k4 ?a5 ?l5 ?c5 ?k5 ?a6 ?l6 ?c6 ?k6 ?a7 ?l7 ?c7 ?k7 ?a8 ?l8 ?c8 ?k8 ?a9 ?l9 ?c9 ?k9 ?a10 ?l10 ?c10 ?k10 ?a11 ?l11 ?c11 ?k11 ?a12 ?l12 ?c12 ?k12 ?a13 ?l13 ?c13 ?k13 ?a14 ?l14 ?c14 ?k14 ?a15 ?l15 ?c15 ?k15 ?a16 ?l16 ?c16 ?k16 ?a17 ?l17 ?c17 ?k17 ?a18 ?l18 ?c18 ?k18 ?a19 ?l19 ?c19 ?k19 ?a20 ?l20 ?c20 ?k20 ?a21 ?l21 ?c21 ?k21 ?a22 ?l22 ?c22 ?k22 ?a23 ?l23 ?c23 ?k23 ?a24 ?l24 ?c24 ?k24 ?a25 ?l25 ?c25 ?k25 ?a26 ?l26 ?c26 ?k26 ?a27 ?l27 ?c27 ?k27 ?a28 ?l28 ?c28 ?k28 ?a29 ?l29 ?c29 ?k29 ?a30 ?l30 ?c30 ?k30 ?a31 ?l31 ?c31 ?k31 ?a32 ?l32 ?c32 ?k32 ?a33 ?l33 ?c33 ?k33 ?a34 ?l34 ?c34 ?k34 ?a35 ?l35 ?c35 ?k35 ?a36 ?l36 ?c36 ?k36 ?a37 ?l37 ?c37 ?k37 ?a38 ?l38 ?c38 ?k38 ?a39 ?l39 ?c39 ?k39 ?a40 ?l40 ?c40 ?k40 ?a41 ?l41 ?c41 ?k41 ?a42 ?i42 ?l42 ?c42 ?k42 ?a43 ?l43 ?c43 ?k43 ?a44 ?l44 ?c44 ?k44 ?a45 ?l45 ?c45 ?k45 ?a46 ?l46 ?c46 ?k46 ?a47 ?l47 ?c47 ?k47 ?a48 ?l48 ?c48 ?k48 ?pgNode ?hdNode ?poNode ?saNode ?mkNode ?kcNode ?nNodekind ?nNodeso ?nNodemisread ?nNodechildren ?pgSession ?hdSession ?poSession ?saSession ?mkSession ?kcSession ?nSessionbegun ?nSessionnodes ?gLEAF ?gWHOLE ?gBAD_NUMBERS ?gMOST_NODES ?gTOO_MANY ?gMOST_CHILDREN ?gNONE_LEFT ?gNO_NODE ?gUNFIT ?gALL_OF ?gCALL_BYDOUBT ?gCALL_WRONG ?gNOT_BEGUN ?gCALL_BEGIN ?gCALL_FLIP ?gCALL_NODEIS ?gCALL_POP ?gCALL_SOME ?gSOME_OF ?gCALL_ALL_OF ?gCALL_LEAF ?gCALL_BYSAY ?gCALL_WAY ?gCALL_PICK ?gCALL_RIGHT ?gCALL_HELD ?gCALL_TRUE ?gCALL_BEST ?gCALL_IFFLIP ?gCALL_IFWRONG ?gCALL_MATTER ?gCALL_LEAVES ?gCALL_PROOF ?blist ?blen ?benumerate ?bmax ?bmin
    (case aNode => k_is)
    (case aSession => k_is)
    (case a1 => k_is)
    (case i1 => k_is)
    (case l1 => k_is)
    (case c1 => k_is)
    (case k1 => k_is)
    (case a2 => k_is)
    (case l2 => k_is)
    (case c2 => k_is)
    (case k2 => k_is)
    (case a3 => k_is)
    (case l3 => k_is)
    (case c3 => k_is)
    (case k3 => k_is)
    (case a4 => k_is)
    (case l4 => k_is)
    (case c4 => k_is)
    (case k4 => k_is)
    (case a5 => k_is)
    (case l5 => k_is)
    (case c5 => k_is)
    (case k5 => k_is)
    (case a6 => k_is)
    (case l6 => k_is)
    (case c6 => k_is)
    (case k6 => k_is)
    (case a7 => k_is)
    (case l7 => k_is)
    (case c7 => k_is)
    (case k7 => k_is)
    (case a8 => k_is)
    (case l8 => k_is)
    (case c8 => k_is)
    (case k8 => k_is)
    (case a9 => k_is)
    (case l9 => k_is)
    (case c9 => k_is)
    (case k9 => k_is)
    (case a10 => k_is)
    (case l10 => k_is)
    (case c10 => k_is)
    (case k10 => k_is)
    (case a11 => k_is)
    (case l11 => k_is)
    (case c11 => k_is)
    (case k11 => k_is)
    (case a12 => k_is)
    (case l12 => k_is)
    (case c12 => k_is)
    (case k12 => k_is)
    (case a13 => k_is)
    (case l13 => k_is)
    (case c13 => k_is)
    (case k13 => k_is)
    (case a14 => k_is)
    (case l14 => k_is)
    (case c14 => k_is)
    (case k14 => k_is)
    (case a15 => k_is)
    (case l15 => k_is)
    (case c15 => k_is)
    (case k15 => k_is)
    (case a16 => k_is)
    (case l16 => k_is)
    (case c16 => k_is)
    (case k16 => k_is)
    (case a17 => k_is)
    (case l17 => k_is)
    (case c17 => k_is)
    (case k17 => k_is)
    (case a18 => k_is)
    (case l18 => k_is)
    (case c18 => k_is)
    (case k18 => k_is)
    (case a19 => k_is)
    (case l19 => k_is)
    (case c19 => k_is)
    (case k19 => k_is)
    (case a20 => k_is)
    (case l20 => k_is)
    (case c20 => k_is)
    (case k20 => k_is)
    (case a21 => k_is)
    (case l21 => k_is)
    (case c21 => k_is)
    (case k21 => k_is)
    (case a22 => k_is)
    (case l22 => k_is)
    (case c22 => k_is)
    (case k22 => k_is)
    (case a23 => k_is)
    (case l23 => k_is)
    (case c23 => k_is)
    (case k23 => k_is)
    (case a24 => k_is)
    (case l24 => k_is)
    (case c24 => k_is)
    (case k24 => k_is)
    (case a25 => k_is)
    (case l25 => k_is)
    (case c25 => k_is)
    (case k25 => k_is)
    (case a26 => k_is)
    (case l26 => k_is)
    (case c26 => k_is)
    (case k26 => k_is)
    (case a27 => k_is)
    (case l27 => k_is)
    (case c27 => k_is)
    (case k27 => k_is)
    (case a28 => k_is)
    (case l28 => k_is)
    (case c28 => k_is)
    (case k28 => k_is)
    (case a29 => k_is)
    (case l29 => k_is)
    (case c29 => k_is)
    (case k29 => k_is)
    (case a30 => k_is)
    (case l30 => k_is)
    (case c30 => k_is)
    (case k30 => k_is)
    (case a31 => k_is)
    (case l31 => k_is)
    (case c31 => k_is)
    (case k31 => k_is)
    (case a32 => k_is)
    (case l32 => k_is)
    (case c32 => k_is)
    (case k32 => k_is)
    (case a33 => k_is)
    (case l33 => k_is)
    (case c33 => k_is)
    (case k33 => k_is)
    (case a34 => k_is)
    (case l34 => k_is)
    (case c34 => k_is)
    (case k34 => k_is)
    (case a35 => k_is)
    (case l35 => k_is)
    (case c35 => k_is)
    (case k35 => k_is)
    (case a36 => k_is)
    (case l36 => k_is)
    (case c36 => k_is)
    (case k36 => k_is)
    (case a37 => k_is)
    (case l37 => k_is)
    (case c37 => k_is)
    (case k37 => k_is)
    (case a38 => k_is)
    (case l38 => k_is)
    (case c38 => k_is)
    (case k38 => k_is)
    (case a39 => k_is)
    (case l39 => k_is)
    (case c39 => k_is)
    (case k39 => k_is)
    (case a40 => k_is)
    (case l40 => k_is)
    (case c40 => k_is)
    (case k40 => k_is)
    (case a41 => k_is)
    (case l41 => k_is)
    (case c41 => k_is)
    (case k41 => k_is)
    (case a42 => k_is)
    (case i42 => k_is)
    (case l42 => k_is)
    (case c42 => k_is)
    (case k42 => k_is)
    (case a43 => k_is)
    (case l43 => k_is)
    (case c43 => k_is)
    (case k43 => k_is)
    (case a44 => k_is)
    (case l44 => k_is)
    (case c44 => k_is)
    (case k44 => k_is)
    (case a45 => k_is)
    (case l45 => k_is)
    (case c45 => k_is)
    (case k45 => k_is)
    (case a46 => k_is)
    (case l46 => k_is)
    (case c46 => k_is)
    (case k46 => k_is)
    (case a47 => k_is)
    (case l47 => k_is)
    (case c47 => k_is)
    (case k47 => k_is)
    (case a48 => k_is)
    (case l48 => k_is)
    (case c48 => k_is)
    (case k48 => k_is)
    (case pgNode => k_is)
    (case hdNode => k_is)
    (case poNode => k_is)
    (case saNode => k_is)
    (case mkNode => k_is)
    (case kcNode => k_is)
    (case nNodekind => k_is)
    (case nNodeso => k_is)
    (case nNodemisread => k_is)
    (case nNodechildren => k_is)
    (case pgSession => k_is)
    (case hdSession => k_is)
    (case poSession => k_is)
    (case saSession => k_is)
    (case mkSession => k_is)
    (case kcSession => k_is)
    (case nSessionbegun => k_is)
    (case nSessionnodes => k_is)
    (case gLEAF => k_is)
    (case gWHOLE => k_is)
    (case gBAD_NUMBERS => k_is)
    (case gMOST_NODES => k_is)
    (case gTOO_MANY => k_is)
    (case gMOST_CHILDREN => k_is)
    (case gNONE_LEFT => k_is)
    (case gNO_NODE => k_is)
    (case gUNFIT => k_is)
    (case gALL_OF => k_is)
    (case gCALL_BYDOUBT => k_is)
    (case gCALL_WRONG => k_is)
    (case gNOT_BEGUN => k_is)
    (case gCALL_BEGIN => k_is)
    (case gCALL_FLIP => k_is)
    (case gCALL_NODEIS => k_is)
    (case gCALL_POP => k_is)
    (case gCALL_SOME => k_is)
    (case gSOME_OF => k_is)
    (case gCALL_ALL_OF => k_is)
    (case gCALL_LEAF => k_is)
    (case gCALL_BYSAY => k_is)
    (case gCALL_WAY => k_is)
    (case gCALL_PICK => k_is)
    (case gCALL_RIGHT => k_is)
    (case gCALL_HELD => k_is)
    (case gCALL_TRUE => k_is)
    (case gCALL_BEST => k_is)
    (case gCALL_IFFLIP => k_is)
    (case gCALL_IFWRONG => k_is)
    (case gCALL_MATTER => k_is)
    (case gCALL_LEAVES => k_is)
    (case gCALL_PROOF => k_is)
    (case blist => k_is)
    (case blen => k_is)
    (case benumerate => k_is)
    (case bmax => k_is)
    (case bmin => k_is)
  case S =>
    intro K H xs a hO hwi hask hx
    cases hx with
    | cons h1 h2 =>
      cases h2
      cases h1 with
      | lst hs ha =>
        have e := L2.ints_dw a.1 _ ha
        subst e
        have q : ((Codec.inLen 0 2000 a.1 && a.1.all (Codec.inInt 0 4294967295)) && true) = true := hwi
        rw [Bool.and_eq_true, Bool.and_eq_true] at q
        exact ⟨_, a.1, rfl, hs, (Codec.inNat_iff.mp q.1.1).2, hask, fun H' p hp => .lst (L2.SqL.of hp) (L2.dw_ints _)⟩
#print axioms PySem.Challenge.cw_disputed_s01_answers_holds

