import PyProof.Rows.All
import Wide.All
import OpenK.AllK
import Wide.FinOn
import Open.SpecLaws
import KE.OsGo
import HandS.ForSpec
import HandS.Base
import HandS.Call
import HandS.List
import HandS.Comp
import HandS.Deep
import HandS.Conv
import HandS.Iter
import HandS.TupAny
import HandS.Codes
import HandS.Words
import HandS.WordsList
import KE.GoesEnumKw
import KE.GoesEnum
import KE.DataFind
import PyProof.AutoSeq1
import HandS.TupSets
import KE.SortData
import HandS.SetKeys
import HandS.More
import HandS.Spec
import PySem.Challenge.RW_middlerules_s01_answers
set_option Elab.async false
set_option linter.all false
set_option maxRecDepth 100000
set_option maxHeartbeats 4000000
namespace Mw
open Dx (Fact Facts Rule Atom Fill)
open Dx07 (Made)
/-! ## the composition: the mirror's names against the specification's join -/
def copied (v i : Nat) : Nat := i * 5 + v
def mkEq (ns : List Nat) (v w : Nat) : List Nat := ns.map fun n => if n = ns.getD w 0 then ns.getD v 0 else n
def eqs : Nat → List Atom → List Made → List (Nat × Nat)
  | i, a :: as, m :: ms => (a.x, copied m.2.x (i + 1)) :: (a.y, copied m.2.y (i + 1)) :: eqs (i + 1) as ms
  | _, _, _ => []
def namesOf (body : List Atom) (c : List Made) : List Nat := (eqs 0 body c).foldl (fun ns p => mkEq ns p.1 p.2) (List.range (5 * (c.length + 1)))
def namedAtom (ns : List Nat) (a : Atom) (i : Nat) : Atom := ⟨a.t, ns.getD (copied a.x i) 0, ns.getD (copied a.y i) 0⟩
def putNew {α : Type} [BEq α] (m : List α) (a : α) : List α := if m.contains a = true then m else m ++ [a]
def bodyFrom (ns : List Nat) : Nat → List Made → List Atom → List Atom
  | _, [], acc => acc
  | i, m :: ms, acc => bodyFrom ns (i + 1) ms (m.1.body.foldl (fun acc a => putNew acc (namedAtom ns a (i + 1))) acc)
def numbered (l : List Atom) (o : List Nat) : List Atom := l.map fun a => ⟨a.t, o.idxOf a.x, o.idxOf a.y⟩
def throughM (r : Rule) (c : List Made) : Rule :=
  let ns := namesOf r.body c
  let b := bodyFrom ns 0 c []
  let h := r.head.map fun a => namedAtom ns a 0
  let o := Dx.places (b ++ h)
  ⟨numbered b o, numbered h o⟩

/-! ### kernels -/
def Merge (a b c d : Nat) : Prop := a = b ∨ (a = c ∧ b = d) ∨ (a = d ∧ b = c)
def Ker (n : Nat) (f g : Nat → Nat) : Prop := ∀ u v, u < n → v < n → (f u = f v ↔ g u = g v)
def sig (k : Nat) : Nat := 10 * (k / 5) + k % 5
theorem sig_copied {v i : Nat} (h : v < 5) : sig (copied v i) = 10 * i + v := by
  unfold sig copied
  have e1 : (i * 5 + v) / 5 = i := by omega
  have e2 : (i * 5 + v) % 5 = v := by omega
  rw [e1, e2]
theorem sig_small {v : Nat} (h : v < 5) : sig v = v := by
  unfold sig
  omega
theorem joined_snoc (s : List (Nat × Nat)) (q : Nat × Nat) (u : Nat) : Dx07.joined (s ++ [q]) u = Dx07.swap q.1 q.2 (Dx07.joined s u) := by
  unfold Dx07.joined
  rw [List.foldl_append]
  rfl
theorem swap_ker {a b x y : Nat} (h : a ≠ b) : Dx07.swap a b x = Dx07.swap a b y ↔ Merge x y a b := by
  unfold Dx07.swap Merge
  split <;> split <;> constructor <;> intro q <;> omega
/-- one step of the specification's join -/
def joinStep (s : List (Nat × Nat)) (p : Nat × Nat) : List (Nat × Nat) := if Dx07.joined s p.1 = Dx07.joined s p.2 then s else s ++ [(Dx07.joined s p.1, Dx07.joined s p.2)]
theorem join_fold : ∀ (l s : List (Nat × Nat)), Dx07.join l s = l.foldl joinStep s
  | [], _ => rfl
  | p :: l, s => by
    show (if Dx07.joined s p.1 = Dx07.joined s p.2 then Dx07.join l s else Dx07.join l (s ++ [(Dx07.joined s p.1, Dx07.joined s p.2)])) = l.foldl joinStep (joinStep s p)
    unfold joinStep
    split
    · exact join_fold l s
    · exact join_fold l _
theorem joinStep_ker (s : List (Nat × Nat)) (p : Nat × Nat) (u v : Nat) : Dx07.joined (joinStep s p) u = Dx07.joined (joinStep s p) v ↔ Merge (Dx07.joined s u) (Dx07.joined s v) (Dx07.joined s p.1) (Dx07.joined s p.2) := by
  unfold joinStep
  split
  · next h =>
    unfold Merge
    omega
  · next h => rw [joined_snoc, joined_snoc]; exact swap_ker h
theorem getD_map' {f : Nat → Nat} {l : List Nat} {u : Nat} (h : u < l.length) : (l.map f).getD u 0 = f (l.getD u 0) := by
  simp [List.getD_eq_getElem?_getD, h]
theorem mkEq_len (ns : List Nat) (v w : Nat) : (mkEq ns v w).length = ns.length := by simp [mkEq]
theorem mkEq_ker {ns : List Nat} {v w u z : Nat} (hu : u < ns.length) (hz : z < ns.length) :
    (mkEq ns v w).getD u 0 = (mkEq ns v w).getD z 0 ↔ Merge (ns.getD u 0) (ns.getD z 0) (ns.getD v 0) (ns.getD w 0) := by
  unfold mkEq
  rw [getD_map' hu, getD_map' hz]
  unfold Merge
  generalize ns.getD u 0 = a, ns.getD z 0 = b, ns.getD v 0 = c, ns.getD w 0 = d
  split <;> split <;> constructor <;> intro q <;> omega
theorem fold_ker : ∀ (l : List (Nat × Nat)) (s : List (Nat × Nat)) (ns : List Nat), (∀ p ∈ l, p.1 < ns.length ∧ p.2 < ns.length) →
    Ker ns.length (fun u => Dx07.joined s (sig u)) (fun u => ns.getD u 0) →
    Ker ns.length (fun u => Dx07.joined ((l.map fun p => (sig p.1, sig p.2)).foldl joinStep s) (sig u)) (fun u => (l.foldl (fun ns p => mkEq ns p.1 p.2) ns).getD u 0)
  | [], _, _, _, k => k
  | p :: l, s, ns, h, k => by
    have hp := h p (List.Mem.head _)
    have ih := fold_ker l (joinStep s (sig p.1, sig p.2)) (mkEq ns p.1 p.2) (fun q hq => by rw [mkEq_len]; exact h q (List.Mem.tail _ hq)) (by
      rw [mkEq_len]
      intro u v hu hv
      show Dx07.joined (joinStep s (sig p.1, sig p.2)) (sig u) = Dx07.joined (joinStep s (sig p.1, sig p.2)) (sig v) ↔ _
      rw [joinStep_ker, mkEq_ker hu hv]
      have k1 := k u v hu hv
      have k2 := k u p.1 hu hp.1
      have k3 := k u p.2 hu hp.2
      have k4 := k v p.1 hv hp.1
      have k5 := k v p.2 hv hp.2
      simp only at k1 k2 k3 k4 k5
      unfold Merge
      rw [k1, k2, k3, k4, k5])
    rw [mkEq_len] at ih
    exact ih
theorem names_len : ∀ (l : List (Nat × Nat)) (ns : List Nat), (l.foldl (fun ns p => mkEq ns p.1 p.2) ns).length = ns.length
  | [], _ => rfl
  | p :: l, ns => (names_len l _).trans (mkEq_len ns p.1 p.2)

/-! ### renaming leans on the kernel alone -/
theorem mem_fold {α : Type} [BEq α] [LawfulBEq α] : ∀ (l m : List α), ∀ x ∈ l.foldl putNew m, x ∈ m ∨ x ∈ l
  | [], _, x, h => .inl h
  | a :: l, m, x, h => by
    rcases mem_fold l (putNew m a) x h with q | q
    · unfold putNew at q
      split at q
      · exact .inl q
      · rcases List.mem_append.mp q with r | r
        · exact .inl r
        · exact .inr (by rw [List.mem_singleton.mp r]; exact List.Mem.head _)
    · exact .inr (List.Mem.tail _ q)
theorem contains_map {α β : Type} [BEq β] [LawfulBEq β] {f : α → β} {a : α} {q : List α} : (q.map f).contains (f a) = true ↔ ∃ b ∈ q, f b = f a := by
  rw [List.contains_iff_mem, List.mem_map]
theorem fold_same {α β γ : Type} [BEq β] [LawfulBEq β] [BEq γ] [LawfulBEq γ] {f : α → β} {g : α → γ} {S : α → Prop} (k : ∀ a b, S a → S b → (f a = f b ↔ g a = g b)) :
    ∀ (l q : List α), (∀ a ∈ l, S a) → (∀ a ∈ q, S a) → ∃ r : List α, (∀ a ∈ r, S a) ∧ (∀ a ∈ r, a ∈ q ∨ a ∈ l) ∧ (l.map f).foldl putNew (q.map f) = r.map f ∧ (l.map g).foldl putNew (q.map g) = r.map g
  | [], q, _, hq => ⟨q, hq, fun _ h => .inl h, rfl, rfl⟩
  | a :: l, q, hl, hq => by
    have ha := hl a (List.Mem.head _)
    have hc : (q.map f).contains (f a) = true ↔ (q.map g).contains (g a) = true := by
      rw [contains_map, contains_map]
      constructor
      · rintro ⟨b, hb, e⟩
        exact ⟨b, hb, (k b a (hq b hb) ha).mp e⟩
      · rintro ⟨b, hb, e⟩
        exact ⟨b, hb, (k b a (hq b hb) ha).mpr e⟩
    by_cases c : (q.map f).contains (f a) = true
    · have c' := hc.mp c
      obtain ⟨r, h1, h2, h3, h4⟩ := fold_same k l q (fun b hb => hl b (List.Mem.tail _ hb)) hq
      refine ⟨r, h1, fun b hb => (h2 b hb).imp id (List.Mem.tail _), ?_, ?_⟩
      · rw [List.map_cons, List.foldl_cons, show putNew (q.map f) (f a) = q.map f from if_pos c]
        exact h3
      · rw [List.map_cons, List.foldl_cons, show putNew (q.map g) (g a) = q.map g from if_pos c']
        exact h4
    · have c' : ¬ (q.map g).contains (g a) = true := fun z => c (hc.mpr z)
      obtain ⟨r, h1, h2, h3, h4⟩ := fold_same k l (q ++ [a]) (fun b hb => hl b (List.Mem.tail _ hb)) (fun b hb => by
        rcases List.mem_append.mp hb with z | z
        · exact hq b z
        · rw [List.mem_singleton.mp z]; exact ha)
      refine ⟨r, h1, fun b hb => ?_, ?_, ?_⟩
      · rcases h2 b hb with z | z
        · rcases List.mem_append.mp z with y | y
          · exact .inl y
          · exact .inr (by rw [List.mem_singleton.mp y]; exact List.Mem.head _)
        · exact .inr (List.Mem.tail _ z)
      · rw [List.map_cons, List.foldl_cons, show putNew (q.map f) (f a) = q.map f ++ [f a] from if_neg c]
        rw [List.map_append] at h3
        exact h3
      · rw [List.map_cons, List.foldl_cons, show putNew (q.map g) (g a) = q.map g ++ [g a] from if_neg c']
        rw [List.map_append] at h4
        exact h4
theorem idx_same {α : Type} {f g : α → Nat} {S : α → Prop} (k : ∀ a b, S a → S b → (f a = f b ↔ g a = g b)) {a : α} (ha : S a) : ∀ (r : List α), (∀ b ∈ r, S b) → (r.map f).idxOf (f a) = (r.map g).idxOf (g a)
  | [], _ => rfl
  | b :: r, h => by
    have hb := h b (List.Mem.head _)
    have ih := idx_same k ha r (fun c hc => h c (List.Mem.tail _ hc))
    rw [List.map_cons, List.map_cons, List.idxOf_cons, List.idxOf_cons]
    have e : (f b == f a) = (g b == g a) := by
      have := k b a hb ha
      by_cases c : f b = f a
      · rw [beq_iff_eq.mpr c, beq_iff_eq.mpr (this.mp c)]
      · rw [beq_eq_false_iff_ne.mpr c, beq_eq_false_iff_ne.mpr fun z => c (this.mpr z)]
    rw [e, ih]
def amap (f : Nat → Nat) (a : Atom) : Atom := ⟨a.t, f a.x, f a.y⟩
theorem amap_ker {n : Nat} {f g : Nat → Nat} (k : Ker n f g) {a b : Atom} (ha : a.x < n ∧ a.y < n) (hb : b.x < n ∧ b.y < n) : amap f a = amap f b ↔ amap g a = amap g b := by
  have k1 := k a.x b.x ha.1 hb.1
  have k2 := k a.y b.y ha.2 hb.2
  unfold amap
  simp only [Atom.mk.injEq]
  rw [k1, k2]
theorem places_eq (l : List Atom) : Dx.places l = (l.flatMap fun a => [a.x, a.y]).foldl putNew [] := rfl
theorem vars_amap (f : Nat → Nat) : ∀ l : List Atom, ((l.map (amap f)).flatMap fun a => [a.x, a.y]) = (l.flatMap fun a => [a.x, a.y]).map f
  | [] => rfl
  | a :: l => by
    rw [List.map_cons, List.flatMap_cons, List.flatMap_cons, List.map_append, vars_amap f l]
    rfl
/-- dedup, then number: by the kernel -/
theorem rename_same {n : Nat} {f g : Nat → Nat} (k : Ker n f g) {B Hd : List Atom} (hB : ∀ a ∈ B, a.x < n ∧ a.y < n) (hH : ∀ a ∈ Hd, a.x < n ∧ a.y < n) :
    Dx07.renamed ⟨(B.map (amap f)).foldl putNew [], Hd.map (amap f)⟩ = Dx07.renamed ⟨(B.map (amap g)).foldl putNew [], Hd.map (amap g)⟩ := by
  obtain ⟨q, hq, _, e1, e2⟩ := fold_same (f := amap f) (g := amap g) (S := fun a => a.x < n ∧ a.y < n) (fun a b ha hb => amap_ker k ha hb) B [] hB (fun _ h => by cases h)
  rw [List.map_nil] at e1 e2
  rw [e1, e2]
  unfold Dx07.renamed
  simp only
  rw [← List.map_append, ← List.map_append]
  have hall : ∀ a ∈ q ++ Hd, a.x < n ∧ a.y < n := fun a h => (List.mem_append.mp h).elim (hq a) (hH a)
  have hv : ∀ v ∈ (q ++ Hd).flatMap (fun a => [a.x, a.y]), v < n := by
    intro v h
    obtain ⟨a, ha, hm⟩ := List.mem_flatMap.mp h
    rcases List.mem_cons.mp hm with z | z
    · rw [z]; exact (hall a ha).1
    · rw [List.mem_singleton.mp z]; exact (hall a ha).2
  obtain ⟨r, hr, _, p1, p2⟩ := fold_same (f := f) (g := g) (S := fun v => v < n) (fun a b ha hb => k a b ha hb) _ [] hv (fun _ h => by cases h)
  rw [List.map_nil] at p1 p2
  rw [places_eq, places_eq, vars_amap, vars_amap, p1, p2]
  have num : ∀ l : List Atom, (∀ a ∈ l, a.x < n ∧ a.y < n) → (l.map (amap f)).map (fun a => (⟨a.t, (r.map f).idxOf a.x, (r.map f).idxOf a.y⟩ : Atom)) = (l.map (amap g)).map fun a => ⟨a.t, (r.map g).idxOf a.x, (r.map g).idxOf a.y⟩ := by
    intro l hl
    rw [List.map_map, List.map_map]
    refine List.map_congr_left fun a ha => ?_
    show (⟨a.t, (r.map f).idxOf (f a.x), (r.map f).idxOf (f a.y)⟩ : Atom) = ⟨a.t, (r.map g).idxOf (g a.x), (r.map g).idxOf (g a.y)⟩
    rw [idx_same (S := fun v => v < n) (fun a b ha hb => k a b ha hb) (hl a ha).1 r hr, idx_same (S := fun v => v < n) (fun a b ha hb => k a b ha hb) (hl a ha).2 r hr]
  rw [num q hq, num Hd hH]

/-! ### the mirror is the specification -/
def slotAtom (i : Nat) (a : Atom) : Atom := ⟨a.t, copied a.x i, copied a.y i⟩
def slotBody : Nat → List Made → List Atom
  | _, [] => []
  | i, m :: ms => m.1.body.map (slotAtom (i + 1)) ++ slotBody (i + 1) ms
theorem named_amap (ns : List Nat) (a : Atom) (i : Nat) : namedAtom ns a i = amap (fun u => ns.getD u 0) (slotAtom i a) := rfl
theorem bodyFrom_eq (ns : List Nat) : ∀ (c : List Made) (i : Nat) (acc : List Atom), bodyFrom ns i c acc = ((slotBody i c).map (amap fun u => ns.getD u 0)).foldl putNew acc
  | [], _, _ => rfl
  | m :: ms, i, acc => by
    show bodyFrom ns (i + 1) ms _ = _
    rw [bodyFrom_eq ns ms (i + 1)]
    show _ = ((m.1.body.map (slotAtom (i + 1)) ++ slotBody (i + 1) ms).map _).foldl putNew acc
    rw [List.map_append, List.foldl_append, List.map_map]
    congr 1
    rw [List.foldl_map]
    rfl
theorem throughM_renamed (r : Rule) (c : List Made) : throughM r c = Dx07.renamed ⟨((slotBody 0 c).map (amap fun u => (namesOf r.body c).getD u 0)).foldl putNew [], (r.head.map (slotAtom 0)).map (amap fun u => (namesOf r.body c).getD u 0)⟩ := by
  unfold throughM Dx07.renamed numbered
  simp only
  have e : (r.head.map (slotAtom 0)).map (amap fun u => (namesOf r.body c).getD u 0) = r.head.map fun a => namedAtom (namesOf r.body c) a 0 := by
    rw [List.map_map]
    rfl
  rw [bodyFrom_eq, e]
/-- zips with a range, by recursion -/
theorem range_zip {α β : Type} (F : Nat × α → List β) : ∀ (l : List α) (s : Nat), ((List.range' s l.length).zip l).flatMap F = (l.zipIdx s).flatMap fun p => F (p.2, p.1)
  | [], _ => rfl
  | a :: l, s => by
    rw [List.length_cons, List.range'_succ, List.zip_cons_cons, List.flatMap_cons, List.zipIdx_cons, List.flatMap_cons, range_zip F l (s + 1)]
theorem spec_body : ∀ (c : List Made) (i : Nat) (s : List (Nat × Nat)), (∀ m ∈ c, ∀ a ∈ m.1.body, a.x < 5 ∧ a.y < 5) →
    ((c.zipIdx i).flatMap fun p => p.1.1.body.map fun a => (⟨(Dx07.movedAtom p.2 a).t, Dx07.joined s (Dx07.movedAtom p.2 a).x, Dx07.joined s (Dx07.movedAtom p.2 a).y⟩ : Atom)) = (slotBody i c).map (amap fun u => Dx07.joined s (sig u))
  | [], _, _, _ => rfl
  | m :: ms, i, s, h => by
    rw [List.zipIdx_cons, List.flatMap_cons, spec_body ms (i + 1) s fun m' hm => h m' (List.Mem.tail _ hm)]
    show _ = (m.1.body.map (slotAtom (i + 1)) ++ slotBody (i + 1) ms).map _
    rw [List.map_append, List.map_map]
    congr 1
    refine List.map_congr_left fun a ha => ?_
    have := h m (List.Mem.head _) a ha
    show (⟨a.t, Dx07.joined s (10 * (i + 1) + a.x), Dx07.joined s (10 * (i + 1) + a.y)⟩ : Atom) = ⟨a.t, Dx07.joined s (sig (copied a.x (i + 1))), Dx07.joined s (sig (copied a.y (i + 1)))⟩
    rw [sig_copied this.1, sig_copied this.2]
theorem spec_eqs : ∀ (b : List Atom) (c : List Made) (i : Nat), (∀ a ∈ b, a.x < 5 ∧ a.y < 5) → (∀ m ∈ c, m.2.x < 5 ∧ m.2.y < 5) → 
    (((b.zip c).zipIdx i).flatMap fun p => [(p.1.1.x, Dx07.moved p.2 p.1.2.2.x), (p.1.1.y, Dx07.moved p.2 p.1.2.2.y)]) = (eqs i b c).map fun p => (sig p.1, sig p.2)
  | [], _, _, _, _ => by simp [eqs]
  | _ :: _, [], _, _, _ => by simp [eqs]
  | a :: b, m :: c, i, hb, hc => by
    have h1 := hb a (List.Mem.head _)
    have h2 := hc m (List.Mem.head _)
    rw [List.zip_cons_cons, List.zipIdx_cons, List.flatMap_cons, spec_eqs b c (i + 1) (fun x hx => hb x (List.Mem.tail _ hx)) (fun x hx => hc x (List.Mem.tail _ hx))]
    show _ = [(sig a.x, sig (copied m.2.x (i + 1))), (sig a.y, sig (copied m.2.y (i + 1)))] ++ _
    rw [sig_small h1.1, sig_small h1.2, sig_copied h2.1, sig_copied h2.2]
    rfl
theorem eqs_lt : ∀ (b : List Atom) (c : List Made) (i : Nat), (∀ a ∈ b, a.x < 5 ∧ a.y < 5) → (∀ m ∈ c, m.2.x < 5 ∧ m.2.y < 5) → ∀ p ∈ eqs i b c, p.1 < 5 * (i + c.length + 1) ∧ p.2 < 5 * (i + c.length + 1)
  | [], _, _, _, _, p, h => by simp [eqs] at h
  | _ :: _, [], _, _, _, p, h => by simp [eqs] at h
  | a :: b, m :: c, i, hb, hc, p, h => by
    have h1 := hb a (List.Mem.head _)
    have h2 := hc m (List.Mem.head _)
    have hl : (m :: c).length = c.length + 1 := rfl
    rcases List.mem_cons.mp h with z | z
    · subst z
      simp only [copied]
      omega
    · rcases List.mem_cons.mp z with y | y
      · subst y
        simp only [copied]
        omega
      · have := eqs_lt b c (i + 1) (fun x hx => hb x (List.Mem.tail _ hx)) (fun x hx => hc x (List.Mem.tail _ hx)) p y
        omega
theorem slotBody_lt : ∀ (c : List Made) (i : Nat), (∀ m ∈ c, ∀ a ∈ m.1.body, a.x < 5 ∧ a.y < 5) → ∀ a ∈ slotBody i c, a.x < 5 * (i + c.length + 1) ∧ a.y < 5 * (i + c.length + 1)
  | [], _, _, a, h => by cases h
  | m :: c, i, hc, a, h => by
    have hl : (m :: c).length = c.length + 1 := rfl
    rcases List.mem_append.mp h with z | z
    · obtain ⟨b, hb, e⟩ := List.mem_map.mp z
      have := hc m (List.Mem.head _) b hb
      subst e
      simp only [slotAtom, copied]
      omega
    · have := slotBody_lt c (i + 1) (fun x hx => hc x (List.Mem.tail _ hx)) a z
      omega
theorem start_ker (n : Nat) : Ker n (fun u => Dx07.joined [] (sig u)) (fun u => (List.range n).getD u 0) := by
  intro u v hu hv
  have g : ∀ k, k < n → (List.range n).getD k 0 = k := fun k hk => by simp [List.getD_eq_getElem?_getD, hk]
  simp only
  rw [g u hu, g v hv]
  show sig u = sig v ↔ u = v
  unfold sig
  omega
def small (a : Atom) : Prop := a.x < 5 ∧ a.y < 5
theorem through_eq {r : Rule} {c : List Made} (hl : c.length = r.body.length) (hb : ∀ a ∈ r.body, a.x < 5 ∧ a.y < 5) (hh : ∀ a ∈ r.head, a.x < 5 ∧ a.y < 5)
    (hc : ∀ m ∈ c, (m.2.x < 5 ∧ m.2.y < 5) ∧ ∀ a ∈ m.1.body, a.x < 5 ∧ a.y < 5) : throughM r c = Dx07.through r c := by
  have e1 := spec_eqs r.body c 0 hb fun m hm => (hc m hm).1
  rw [throughM_renamed]
  unfold Dx07.through
  simp only
  have hz : (r.body.zip c).length = r.body.length := by rw [List.length_zip, hl]; exact Nat.min_self _
  have q1 : ((List.range r.body.length).zip (r.body.zip c)).flatMap (fun x => [(x.2.1.x, Dx07.moved x.1 x.2.2.2.x), (x.2.1.y, Dx07.moved x.1 x.2.2.2.y)]) = (eqs 0 r.body c).map fun p => (sig p.1, sig p.2) := by
    rw [← e1, ← hz, List.range_eq_range', range_zip]
  rw [q1, join_fold]
  have ker := fold_ker (eqs 0 r.body c) [] (List.range (5 * (c.length + 1))) (fun p hp => by
    have := eqs_lt r.body c 0 hb (fun m hm => (hc m hm).1) p hp
    rw [List.length_range]
    omega) (by rw [List.length_range]; exact start_ker _)
  rw [List.length_range] at ker
  have q2 : ∀ s, (((List.range c.length).zip c).flatMap fun x => x.2.1.body.map fun a => (⟨(Dx07.movedAtom x.1 a).t, Dx07.joined s (Dx07.movedAtom x.1 a).x, Dx07.joined s (Dx07.movedAtom x.1 a).y⟩ : Atom)) = (slotBody 0 c).map (amap fun u => Dx07.joined s (sig u)) := by
    intro s
    rw [← spec_body c 0 s fun m hm => (hc m hm).2, List.range_eq_range', range_zip]
  rw [q2]
  have q3 : ∀ s, r.head.map (fun a => (⟨a.t, Dx07.joined s a.x, Dx07.joined s a.y⟩ : Atom)) = (r.head.map (slotAtom 0)).map (amap fun u => Dx07.joined s (sig u)) := by
    intro s
    rw [List.map_map]
    refine List.map_congr_left fun a ha => ?_
    have := hh a ha
    show _ = (⟨a.t, Dx07.joined s (sig (0 * 5 + a.x)), Dx07.joined s (sig (0 * 5 + a.y))⟩ : Atom)
    rw [Nat.zero_mul, Nat.zero_add, Nat.zero_add, sig_small this.1, sig_small this.2]
  rw [q3]
  refine (rename_same (n := 5 * (c.length + 1)) ker ?_ ?_).symm
  · intro a ha
    have := slotBody_lt c 0 (fun m hm => (hc m hm).2) a ha
    omega
  · intro a ha
    obtain ⟨b, hb, e⟩ := List.mem_map.mp ha
    have := hh b hb
    subst e
    simp only [slotAtom, copied]
    omega
end Mw
namespace Mw
open Dx (Fact Facts Rule Atom Fill)
open Dx07 (Made)
/-! ## choices, options, composed -/
theorem choices_fold (one : List Rule) : ∀ (l : List Atom) (found : List (List Made)), l.foldl (fun fs a => fs.flatMap fun ch => (Dx07.makers one a).map fun o => ch ++ [o]) found = found.flatMap fun ch => (Dx07.choices one l).map fun c => ch ++ c
  | [], found => by
    show found = found.flatMap fun ch => [ch ++ []]
    simp
  | a :: l, found => by
    rw [List.foldl_cons, choices_fold one l]
    rw [List.flatMap_assoc]
    congr 1
    funext ch
    show ((Dx07.makers one a).map fun o => ch ++ [o]).flatMap _ = ((Dx07.makers one a).flatMap fun m => (Dx07.choices one l).map fun c => m :: c).map _
    rw [List.flatMap_map, List.map_flatMap]
    congr 1
    funext m
    rw [List.map_map]
    refine List.map_congr_left fun c _ => ?_
    simp
theorem choices_eq (one : List Rule) (l : List Atom) : l.foldl (fun fs a => fs.flatMap fun ch => (Dx07.makers one a).map fun o => ch ++ [o]) [[]] = Dx07.choices one l := by
  rw [choices_fold]
  simp
theorem choices_len (one : List Rule) : ∀ (l : List Atom), ∀ c ∈ Dx07.choices one l, c.length = l.length
  | [], c, h => by
    rw [List.mem_singleton.mp (show c ∈ [[]] from h)]
    rfl
  | a :: l, c, h => by
    obtain ⟨m, _, h2⟩ := List.mem_flatMap.mp (show c ∈ (Dx07.makers one a).flatMap fun m => (Dx07.choices one l).map fun c => m :: c from h)
    obtain ⟨d, hd, e⟩ := List.mem_map.mp h2
    rw [← e, List.length_cons, List.length_cons, choices_len one l d hd]
theorem choices_mem (one : List Rule) : ∀ (l : List Atom), ∀ c ∈ Dx07.choices one l, ∀ m ∈ c, m.1 ∈ one ∧ m.2 ∈ m.1.head
  | [], c, h, m, hm => by
    rw [List.mem_singleton.mp (show c ∈ [[]] from h)] at hm
    cases hm
  | a :: l, c, h, m, hm => by
    obtain ⟨m', h1, h2⟩ := List.mem_flatMap.mp (show c ∈ (Dx07.makers one a).flatMap fun m => (Dx07.choices one l).map fun c => m :: c from h)
    obtain ⟨d, hd, e⟩ := List.mem_map.mp h2
    rw [← e] at hm
    rcases List.mem_cons.mp hm with z | z
    · obtain ⟨r, hr, hm2⟩ := List.mem_flatMap.mp (show m' ∈ one.flatMap fun r => (r.head.filter fun h => h.t == a.t).map fun h => (r, h) from h1)
      obtain ⟨x, hx, e2⟩ := List.mem_map.mp hm2
      rw [z, ← e2]
      exact ⟨hr, (List.mem_filter.mp hx).1⟩
    · exact choices_mem one l d hd m z
theorem flat_le {α β : Type} (f : α → List β) (k : Nat) : ∀ (l : List α), (∀ a ∈ l, (f a).length ≤ k) → (l.flatMap f).length ≤ l.length * k
  | [], _ => by simp
  | a :: l, h => by
    have h1 := h a (List.Mem.head _)
    have h2 := flat_le f k l fun b hb => h b (List.Mem.tail _ hb)
    rw [List.flatMap_cons, List.length_append, List.length_cons, Nat.succ_mul]
    omega
/-- a rule with heads and bodies of one or two atoms with variables 0 to 4 -/
structure Fine (r : Rule) : Prop where
  bl : 1 ≤ r.body.length ∧ r.body.length ≤ 2
  hl : 1 ≤ r.head.length ∧ r.head.length ≤ 2
  bs : ∀ a ∈ r.body, a.x < 5 ∧ a.y < 5
  hs : ∀ a ∈ r.head, a.x < 5 ∧ a.y < 5
theorem makers_len {one : List Rule} (hn : one.length ≤ 2) (h : ∀ r ∈ one, Fine r) (a : Atom) : (Dx07.makers one a).length ≤ 4 := by
  have := flat_le (fun r : Rule => (r.head.filter fun h => h.t == a.t).map fun h => (r, h)) 2 one fun r hr => by
    rw [List.length_map]
    exact Nat.le_trans (List.length_filter_le _ _) (h r hr).hl.2
  show (one.flatMap fun r => (r.head.filter fun h => h.t == a.t).map fun h => (r, h)).length ≤ 4
  omega
theorem choices_num {one : List Rule} (hn : one.length ≤ 2) (h : ∀ r ∈ one, Fine r) : ∀ l : List Atom, (Dx07.choices one l).length ≤ 4 ^ l.length
  | [] => Nat.le_refl _
  | a :: l => by
    have h1 := makers_len hn h a
    have h2 := choices_num hn h l
    have := flat_le (fun m : Made => (Dx07.choices one l).map fun c => m :: c) (4 ^ l.length) (Dx07.makers one a) fun m _ => by
      rw [List.length_map]
      exact h2
    show ((Dx07.makers one a).flatMap fun m => (Dx07.choices one l).map fun c => m :: c).length ≤ 4 ^ (l.length + 1)
    rw [Nat.pow_succ, Nat.mul_comm (4 ^ l.length) 4]
    exact Nat.le_trans this (Nat.mul_le_mul_right _ h1)
theorem choices_fine {one : List Rule} (h : ∀ r ∈ one, Fine r) (l : List Atom) : ∀ c ∈ Dx07.choices one l, ∀ m ∈ c, (m.2.x < 5 ∧ m.2.y < 5) ∧ ∀ a ∈ m.1.body, a.x < 5 ∧ a.y < 5 := fun c hc m hm => by
  obtain ⟨h1, h2⟩ := choices_mem one l c hc m hm
  exact ⟨(h _ h1).hs _ h2, (h _ h1).bs⟩
theorem through_choice {one : List Rule} (h : ∀ r ∈ one, Fine r) {r : Rule} (hr : Fine r) {c : List Made} (hc : c ∈ Dx07.choices one r.body) : throughM r c = Dx07.through r c :=
  through_eq (choices_len one _ c hc) hr.bs hr.hs (choices_fine h _ c hc)
theorem foldl_flat {α β γ : Type} (f : γ → β → γ) (g : α → List β) : ∀ (l : List α) (m : γ), (l.flatMap g).foldl f m = l.foldl (fun m a => (g a).foldl f m) m
  | [], _ => rfl
  | a :: l, m => by rw [List.flatMap_cons, List.foldl_append, List.foldl_cons, foldl_flat f g l]
/-- what the program's two loops make -/
def composedM (one two : List Rule) : List Rule := two.foldl (fun m r => (Dx07.choices one r.body).foldl (fun m c => putNew m (throughM r c)) m) []
theorem foldl_mem_congr {α γ : Type} {f g : γ → α → γ} : ∀ (l : List α) (m : γ), (∀ a ∈ l, ∀ m, f m a = g m a) → l.foldl f m = l.foldl g m
  | [], _, _ => rfl
  | a :: l, m, h => by
    rw [List.foldl_cons, List.foldl_cons, h a (List.Mem.head _) m]
    exact foldl_mem_congr l _ fun b hb m => h b (List.Mem.tail _ hb) m
theorem composedM_eq {one two : List Rule} (h1 : ∀ r ∈ one, Fine r) (h2 : ∀ r ∈ two, Fine r) : composedM one two = Dx07.Book.composed ⟨one, two⟩ := by
  show _ = (two.flatMap fun r => (Dx07.choices one r.body).map (Dx07.through r)).foldl putNew []
  rw [foldl_flat]
  unfold composedM
  refine foldl_mem_congr two [] fun r hr m => ?_
  rw [List.foldl_map]
  exact foldl_mem_congr _ _ fun c hc m => by rw [through_choice h1 (h2 r hr) hc]
theorem putNew_len {α : Type} [BEq α] (m : List α) (a : α) : (putNew m a).length ≤ m.length + 1 := by
  unfold putNew
  split
  · omega
  · rw [List.length_append]
    exact Nat.le_refl _
theorem foldPut_len {α : Type} [BEq α] : ∀ (l m : List α), (l.foldl putNew m).length ≤ m.length + l.length
  | [], m => Nat.le_refl _
  | a :: l, m => by
    have h1 := putNew_len m a
    have h2 := foldPut_len l (putNew m a)
    rw [List.foldl_cons, List.length_cons]
    omega

/-! ## lists of numbers as atoms -/
def triplesM : List Nat → List Atom
  | t :: x :: y :: r => ⟨t, x, y⟩ :: triplesM r
  | _ => []
theorem atoms_eq : ∀ l : List Nat, Dx07.atoms l = if l.length % 3 = 0 then some (triplesM l) else none
  | [] => rfl
  | [_] => rfl
  | [_, _] => rfl
  | t :: x :: y :: r => by
    show (Dx07.atoms r).map _ = _
    rw [atoms_eq r]
    have e : (t :: x :: y :: r).length % 3 = r.length % 3 := by
      show (r.length + 3) % 3 = _
      omega
    rw [e]
    split <;> rfl
theorem triplesM_len : ∀ l : List Nat, (triplesM l).length = l.length / 3
  | [] => by rfl
  | [_] => by simp [triplesM]
  | [_, _] => by simp [triplesM]
  | t :: x :: y :: r => by
    show (triplesM r).length + 1 = (r.length + 3) / 3
    rw [triplesM_len r]
    omega
theorem triplesM_get : ∀ (l : List Nat) (i : Nat), 3 * i + 3 ≤ l.length → ∃ t x y, (l.drop (3 * i)).take 3 = [t, x, y] ∧ (triplesM l)[i]? = some ⟨t, x, y⟩
  | [], i, h => by simp at h
  | [_], i, h => by
    have h' : 3 * i + 3 ≤ 1 := h
    omega
  | [_, _], i, h => by
    have h' : 3 * i + 3 ≤ 2 := h
    omega
  | t :: x :: y :: r, 0, _ => ⟨t, x, y, rfl, rfl⟩
  | t :: x :: y :: r, i + 1, h => by
    obtain ⟨a, b, c, e1, e2⟩ := triplesM_get r i (by simp at h; omega)
    refine ⟨a, b, c, ?_, ?_⟩
    · rw [← e1]
      rfl
    · exact e2

/-! ## the flat list of calls -/
def putRow (x : List Int) : List Int := (x.length : Int) :: x
def putRows : List (List Int) → List Int
  | [] => []
  | x :: xs => putRow x ++ putRows xs
def put1 : List (List Int) → List Int
  | [] => []
  | h :: xs => h ++ putRows xs
def putAll : List (List (List Int)) → List Int
  | [] => []
  | c :: cs => put1 c ++ putAll cs
theorem row_read {l x s : List Int} (h : PyFlat.row l = some (x, s)) : l = putRow x ++ s := by
  match l, h with
  | n :: r, h =>
    have h : (if 0 ≤ n ∧ n.toNat ≤ r.length then some (r.take n.toNat, r.drop n.toNat) else none) = some (x, s) := h
    split at h
    · next k =>
      injection h with h
      injection h with h1 h2
      have hl : (r.take n.toNat).length = n.toNat := by
        rw [List.length_take]
        omega
      rw [← h1, ← h2]
      show n :: r = ((r.take n.toNat).length : Int) :: (r.take n.toNat ++ r.drop n.toNat)
      rw [hl, List.take_append_drop]
      congr 1
      omega
    · cases h
theorem rows_read : ∀ (k : Nat) {l s : List Int} {xs : List (List Int)}, PyFlat.rows k l = some (xs, s) → l = putRows xs ++ s ∧ xs.length = k
  | 0, l, s, xs, h => by
    unfold PyFlat.rows at h
    injection h with h
    injection h with h1 h2
    subst h1 h2
    exact ⟨rfl, rfl⟩
  | k + 1, l, s, xs, h => by
    unfold PyFlat.rows at h
    split at h
    · cases h
    · next x s1 e1 =>
      split at h
      · cases h
      · next ys t e2 =>
        injection h with h
        injection h with h1 h2
        subst h1 h2
        obtain ⟨e3, e4⟩ := rows_read k e2
        refine ⟨?_, by rw [List.length_cons, e4]⟩
        rw [row_read e1, e3]
        show _ = putRow x ++ putRows ys ++ t
        rw [List.append_assoc]
theorem call_read {shape : Int → Option (Nat × Nat)} {l t : List Int} {c : List (List Int)} (h : PyFlat.call shape l = some (c, t)) : l = put1 c ++ t ∧ ∃ p a xs n k, c = (p :: a) :: xs ∧ shape p = some (n, k) ∧ a.length = n ∧ xs.length = k := by
  match l, h with
  | p :: r, h =>
    simp only [PyFlat.call] at h
    split at h
    · cases h
    · next n k es =>
      split at h
      · cases h
      · next hn =>
        split at h
        · cases h
        · next xs s e =>
          injection h with h
          injection h with h1 h2
          subst h1 h2
          obtain ⟨e3, e4⟩ := rows_read k e
          refine ⟨?_, p, _, xs, n, k, rfl, es, ?_, e4⟩
          · show p :: r = p :: r.take n ++ putRows xs ++ s
            rw [List.append_assoc, ← e3]
            show p :: r = p :: (r.take n ++ r.drop n)
            rw [List.take_append_drop]
          · rw [List.length_take]
            omega
theorem calls_read {shape : Int → Option (Nat × Nat)} : ∀ (f : Nat) {l : List Int} {cs : List (List (List Int))}, PyFlat.calls shape f l = some cs → l = putAll cs ∧ ∀ c ∈ cs, ∃ p a xs n k, c = (p :: a) :: xs ∧ shape p = some (n, k) ∧ a.length = n ∧ xs.length = k
  | f, [], cs, h => by
    have e : cs = [] := by
      cases f <;> (unfold PyFlat.calls at h; injection h with h; exact h.symm)
    subst e
    exact ⟨rfl, fun _ h => by cases h⟩
  | 0, p :: r, cs, h => by
    unfold PyFlat.calls at h
    cases h
  | f + 1, p :: r, cs, h => by
    unfold PyFlat.calls at h
    split at h
    · cases h
    · next c t e1 =>
      split at h
      · cases h
      · next ds e2 =>
        injection h with h
        subst h
        obtain ⟨q1, q2⟩ := call_read e1
        obtain ⟨q3, q4⟩ := calls_read f e2
        refine ⟨?_, fun d hd => ?_⟩
        · rw [q1, q3]
          rfl
        · rcases List.mem_cons.mp hd with z | z
          · rw [z]
            exact q2
          · exact q4 d z
theorem whole_id (c : List (List Int)) : PyDx07.whole c = c := by
  unfold PyDx07.whole
  split <;> rfl
theorem wholes_id (cs : List (List (List Int))) : cs.map PyDx07.whole = cs := by
  rw [show PyDx07.whole = id from funext whole_id, List.map_id]
/-- the forms of an asked call -/
inductive Asked : List (List Int) → Prop
  | begins : Asked [[0]]
  | one (b d) : Dx07Neutral.row32 b 24 = true → Dx07Neutral.row32 d 24 = true → Asked [[1], b, d]
  | two (b d) : Dx07Neutral.row32 b 24 = true → Dx07Neutral.row32 d 24 = true → Asked [[2], b, d]
  | fact (t a b) : Dx07Neutral.whole32 t = true → Dx07Neutral.whole32 a = true → Dx07Neutral.whole32 b = true → Asked [[3, t, a, b]]
  | gone (t a b) : Dx07Neutral.whole32 t = true → Dx07Neutral.whole32 a = true → Dx07Neutral.whole32 b = true → Asked [[4, t, a, b]]
  | composed : Asked [[5]]
  | middle : Asked [[6]]
  | ends : Asked [[7]]
  | direct : Asked [[8]]
  | goes (k) : Dx07Neutral.row32 k 24 = true → Asked [[9], k]
  | lacks (k) : Dx07Neutral.row32 k 24 = true → Asked [[10], k]
theorem asked_of {c : List (List Int)} (h : Dx07Neutral.asked1 c = true) : Asked c := by
  unfold Dx07Neutral.asked1 at h
  split at h
  · exact .begins
  · rw [Bool.and_eq_true] at h
    exact .one _ _ h.1 h.2
  · rw [Bool.and_eq_true] at h
    exact .two _ _ h.1 h.2
  · rw [Bool.and_eq_true, Bool.and_eq_true] at h
    exact .fact _ _ _ h.1 h.2.1 h.2.2
  · rw [Bool.and_eq_true, Bool.and_eq_true] at h
    exact .gone _ _ _ h.1 h.2.1 h.2.2
  · exact .composed
  · exact .middle
  · exact .ends
  · exact .direct
  · exact .goes _ h
  · exact .lacks _ h
  · cases h
theorem many_told : ∀ (cs : List (List (List Int))) (s : Dx07.House), (PyFlat.told (PyFlat.played Dx07Neutral.step s cs)).length = Dx07Neutral.many s cs + cs.length
  | [], _ => rfl
  | c :: cs, s => by
    show (((Dx07Neutral.step s c).2.length : Int) :: (Dx07Neutral.step s c).2 ++ PyFlat.told (PyFlat.played Dx07Neutral.step (Dx07Neutral.step s c).1 cs)).length = (Dx07Neutral.step s c).2.length + Dx07Neutral.many (Dx07Neutral.step s c).1 cs + (cs.length + 1)
    rw [List.length_append, List.length_cons, many_told cs]
    omega
/-- what is asked of the whole list -/
theorem request {l : List Int} (h : PyDx07.answers_asked l = true) : ∃ cs : List (List (List Int)), l = putAll cs ∧ (∀ c ∈ cs, Asked c) ∧ PyDx07.answers l = PyFlat.told (PyFlat.played Dx07Neutral.step Dx07Neutral.start cs) ∧ (PyDx07.answers l).length ≤ 30060 ∧ cs.length ≤ 60 ∧ Dx07Neutral.many Dx07Neutral.start cs ≤ 30000 := by
  unfold PyDx07.answers_asked at h
  split at h
  · cases h
  · next raw e =>
    rw [wholes_id] at h
    simp only [Bool.and_eq_true] at h
    obtain ⟨⟨_, hask⟩, _⟩ := h
    unfold Dx07Neutral.asked at hask
    simp only [Bool.and_eq_true, decide_eq_true_eq] at hask
    obtain ⟨h1, _, ⟨h2, _⟩, h3⟩ := hask
    obtain ⟨e1, _⟩ := calls_read _ e
    have ea : PyDx07.answers l = PyFlat.told (PyFlat.played Dx07Neutral.step Dx07Neutral.start raw) := by
      have ec : PyDx07.calls l = some raw := by
        unfold PyDx07.calls
        rw [e]
        show some (raw.map PyDx07.whole) = some raw
        rw [wholes_id]
      unfold PyDx07.answers
      rw [ec]
    refine ⟨raw, e1, fun c hc => asked_of (List.all_eq_true.mp h1 c hc), ea, ?_, h2, h3⟩
    rw [ea, many_told]
    omega
end Mw
namespace Mw
open Dx (Fact Facts Rule Atom Fill)
/-! ## a rule's look; the state's invariant -/
def isAtomM (p : Nat) (a : Atom) : Bool := decide (a.t / 2 = p) && (decide (a.x < 5) && decide (a.y < 5))
def areAtomsM (p : Nat) (ns : List Nat) : Bool := decide (ns.length % 3 = 0) && (decide (1 ≤ (triplesM ns).length) && (decide ((triplesM ns).length ≤ 2) && (triplesM ns).all (isAtomM p)))
theorem isAtomM_eq (p : Nat) (a : Atom) : (decide (2 * p ≤ a.t) && (decide (a.t < 2 * p + 2) && (decide (a.x < Dx.PLACES) && decide (a.y < Dx.PLACES)))) = isAtomM p a := by
  unfold isAtomM Dx.PLACES
  by_cases h : a.t / 2 = p
  · rw [decide_eq_true h, decide_eq_true (show 2 * p ≤ a.t by omega), decide_eq_true (show a.t < 2 * p + 2 by omega)]
    rfl
  · rw [decide_eq_false h, Bool.false_and]
    by_cases h1 : 2 * p ≤ a.t
    · rw [decide_eq_false (show ¬ a.t < 2 * p + 2 by omega), Bool.false_and, Bool.and_false]
    · rw [decide_eq_false h1, Bool.false_and]
theorem within_eq (p : Nat) (l : List Atom) : Dx07.within (2 * p) l = (decide (1 ≤ l.length) && (decide (l.length ≤ 2) && l.all (isAtomM p))) := by
  unfold Dx07.within Dx07.ATOMS
  congr 2
  congr 1
  funext a
  exact isAtomM_eq p a
theorem atoms_look (p : Nat) (ns : List Nat) : (∃ l, Dx07.atoms ns = some l ∧ Dx07.within (2 * p) l = true) ↔ areAtomsM p ns = true := by
  rw [atoms_eq]
  unfold areAtomsM
  by_cases h : ns.length % 3 = 0
  · rw [if_pos h, decide_eq_true h, Bool.true_and, ← within_eq]
    constructor
    · rintro ⟨l, e, w⟩
      cases e
      exact w
    · exact fun w => ⟨_, rfl, w⟩
  · rw [if_neg h, decide_eq_false h, Bool.false_and]
    constructor
    · rintro ⟨l, e, _⟩
      cases e
    · intro e
      cases e
theorem rule_some {p : Nat} {b d : List Nat} (h1 : areAtomsM p b = true) (h2 : areAtomsM (p + 1) d = true) : Dx07.rule? (2 * p) b d = some ⟨triplesM b, triplesM d⟩ := by
  obtain ⟨x, e1, w1⟩ := (atoms_look p b).mpr h1
  obtain ⟨y, e2, w2⟩ := (atoms_look (p + 1) d).mpr h2
  have f1 : x = triplesM b := by
    rw [atoms_eq] at e1
    split at e1
    · exact (Option.some.inj e1).symm
    · cases e1
  have f2 : y = triplesM d := by
    rw [atoms_eq] at e2
    split at e2
    · exact (Option.some.inj e2).symm
    · cases e2
  unfold Dx07.rule?
  rw [e1, e2]
  show (if Dx07.within (2 * p) x = true ∧ Dx07.within (2 * p + 2) y = true then some (⟨x, y⟩ : Rule) else none) = _
  rw [if_pos ⟨w1, w2⟩, f1, f2]
theorem rule_none {p : Nat} {b d : List Nat} (h : ¬ (areAtomsM p b = true ∧ areAtomsM (p + 1) d = true)) : Dx07.rule? (2 * p) b d = none := by
  unfold Dx07.rule?
  split
  · next x y e1 e2 =>
    split
    · next w => exact absurd ⟨(atoms_look p b).mp ⟨x, e1, w.1⟩, (atoms_look (p + 1) d).mp ⟨y, e2, w.2⟩⟩ h
    · rfl
  · rfl
theorem fine_of {p : Nat} {b d : List Nat} (h1 : areAtomsM p b = true) (h2 : areAtomsM (p + 1) d = true) : Fine ⟨triplesM b, triplesM d⟩ := by
  unfold areAtomsM at h1 h2
  simp only [Bool.and_eq_true, decide_eq_true_eq, List.all_eq_true] at h1 h2
  obtain ⟨_, b1, b2, b3⟩ := h1
  obtain ⟨_, d1, d2, d3⟩ := h2
  refine ⟨⟨b1, b2⟩, ⟨d1, d2⟩, fun a ha => ?_, fun a ha => ?_⟩
  · have := b3 a ha
    unfold isAtomM at this
    simp only [Bool.and_eq_true, decide_eq_true_eq] at this
    exact this.2
  · have := d3 a ha
    unfold isAtomM at this
    simp only [Bool.and_eq_true, decide_eq_true_eq] at this
    exact this.2
theorem tables_of {p : Nat} {b : List Nat} (h : areAtomsM p b = true) : ∀ a ∈ triplesM b, a.t / 2 = p := by
  unfold areAtomsM at h
  simp only [Bool.and_eq_true, decide_eq_true_eq, List.all_eq_true] at h
  intro a ha
  have := h.2.2.2 a ha
  unfold isAtomM at this
  simp only [Bool.and_eq_true, decide_eq_true_eq] at this
  exact this.1
/-- facts in their order, each once -/
def lessF (f g : Fact) : Prop := Dx.less f.key g.key = true
theorem lessF_iff (f g : Fact) : lessF f g ↔ f.t < g.t ∨ (f.t = g.t ∧ (f.a < g.a ∨ (f.a = g.a ∧ f.b < g.b))) := by
  unfold lessF Dx.Fact.key Dx.less Dx.less Dx.less Dx.less
  simp
/-- the state's invariant -/
structure HouseOk (h : Dx07.House) : Prop where
  n1 : h.book.one.length ≤ 2
  n2 : h.book.two.length ≤ 2
  f1 : ∀ r ∈ h.book.one, Fine r
  f2 : ∀ r ∈ h.book.two, Fine r
  t1 : ∀ r ∈ h.book.one, (∀ a ∈ r.body, a.t / 2 = 0) ∧ (∀ a ∈ r.head, a.t / 2 = 1) ∧ r.open_ = []
  t2 : ∀ r ∈ h.book.two, (∀ a ∈ r.body, a.t / 2 = 1) ∧ ∀ a ∈ r.head, a.t / 2 = 2
  s5 : h.source.length ≤ 5
  so : h.source.Pairwise lessF
  sv : ∀ f ∈ h.source, f.t < 2 ∧ f.a < 20 ∧ f.b < 20
theorem init_ok : HouseOk Dx07.init where
  n1 := Nat.zero_le _
  n2 := Nat.zero_le _
  f1 := fun _ h => by cases h
  f2 := fun _ h => by cases h
  t1 := fun _ h => by cases h
  t2 := fun _ h => by cases h
  s5 := Nat.zero_le _
  so := List.Pairwise.nil
  sv := fun _ h => by cases h
theorem put_mem {f g : Fact} : ∀ {l : List Fact}, g ∈ Dx.put f l → g = f ∨ g ∈ l
  | [], h => by
    rcases List.mem_cons.mp (show g ∈ [f] from h) with z | z
    · exact .inl z
    · cases z
  | x :: l, h => by
    unfold Dx.put at h
    split at h
    · exact .inr h
    · split at h
      · rcases List.mem_cons.mp h with z | z
        · exact .inl z
        · exact .inr z
      · rcases List.mem_cons.mp h with z | z
        · exact .inr (by rw [z]; exact List.Mem.head _)
        · rcases put_mem z with y | y
          · exact .inl y
          · exact .inr (List.Mem.tail _ y)
theorem put_sorted (f : Fact) : ∀ {l : List Fact}, l.Pairwise lessF → (Dx.put f l).Pairwise lessF
  | [], _ => List.pairwise_singleton _ _
  | x :: l, h => by
    have hx := List.pairwise_cons.mp h
    unfold Dx.put
    split
    · exact h
    · next hne =>
      split
      · next hl =>
        refine List.pairwise_cons.mpr ⟨fun y hy => ?_, h⟩
        have h1 : lessF f x := hl
        rcases List.mem_cons.mp hy with z | z
        · rw [z]
          exact h1
        · have h2 := hx.1 y z
          rw [lessF_iff] at h1 h2 ⊢
          omega
      · next hl =>
        refine List.pairwise_cons.mpr ⟨fun y hy => ?_, put_sorted f hx.2⟩
        rcases put_mem hy with z | z
        · rw [z]
          have h1 : ¬ lessF f x := hl
          rw [lessF_iff] at h1 ⊢
          have h3 : ¬ (f.t = x.t ∧ f.a = x.a ∧ f.b = x.b) := fun e => hne (by
            obtain ⟨t, a, b⟩ := f
            obtain ⟨t', a', b'⟩ := x
            simp only at e
            simp only [e])
          omega
        · exact hx.1 y z
theorem put_perm {f : Fact} : ∀ {l : List Fact}, f ∉ l → (Dx.put f l).Perm (f :: l)
  | [], _ => .refl _
  | x :: l, h => by
    unfold Dx.put
    split
    · next e => exact absurd (by rw [e]; exact List.Mem.head _) h
    · split
      · exact .refl _
      · exact ((put_perm fun z => h (List.Mem.tail _ z)).cons x).trans (.swap f x l)
theorem sorted_nodup {l : List Fact} (h : l.Pairwise lessF) : l.Nodup := by
  refine List.Pairwise.imp (fun {a b} h e => ?_) h
  subst e
  rw [lessF_iff] at h
  omega
/-- two sorted lists with the same members are one -/
theorem sorted_unique : ∀ {l m : List Fact}, l.Pairwise lessF → m.Pairwise lessF → (∀ x, x ∈ l ↔ x ∈ m) → l = m
  | [], [], _, _, _ => rfl
  | [], b :: m, _, _, h => by
    have := (h b).mpr (List.Mem.head _)
    cases this
  | a :: l, [], _, _, h => by
    have := (h a).mp (List.Mem.head _)
    cases this
  | a :: l, b :: m, h1, h2, h => by
    have p1 := List.pairwise_cons.mp h1
    have p2 := List.pairwise_cons.mp h2
    have e : a = b := by
      rcases List.mem_cons.mp ((h a).mp (List.Mem.head _)) with z | z
      · exact z
      · rcases List.mem_cons.mp ((h b).mpr (List.Mem.head _)) with y | y
        · exact y.symm
        · have q1 := p2.1 a z
          have q2 := p1.1 b y
          rw [lessF_iff] at q1 q2
          omega
    subst e
    congr 1
    refine sorted_unique p1.2 p2.2 fun x => ⟨fun hx => ?_, fun hx => ?_⟩
    · rcases List.mem_cons.mp ((h x).mp (List.Mem.tail _ hx)) with z | z
      · have := p1.1 x hx
        rw [z, lessF_iff] at this
        omega
      · exact z
    · rcases List.mem_cons.mp ((h x).mpr (List.Mem.tail _ hx)) with z | z
      · have := p2.1 x hx
        rw [z, lessF_iff] at this
        omega
      · exact z
theorem mem_put_iff {f g : Fact} {l : List Fact} : g ∈ Dx.put f l ↔ g = f ∨ g ∈ l := by
  refine ⟨put_mem, fun h => ?_⟩
  by_cases hf : f ∈ l
  · have e : ∀ {l : List Fact}, f ∈ l → ∀ x ∈ l, x ∈ Dx.put f l := by
      intro l hf x hx
      induction l with
      | nil => cases hx
      | cons y l ih =>
        unfold Dx.put
        split
        · exact hx
        · next hne =>
          split
          · exact List.Mem.tail _ hx
          · have hf2 : f ∈ l := by
              rcases List.mem_cons.mp hf with z | z
              · exact absurd z hne
              · exact z
            rcases List.mem_cons.mp hx with z | z
            · rw [z]
              exact List.Mem.head _
            · exact List.Mem.tail _ (ih hf2 z)
    rcases h with z | z
    · rw [z]
      exact e hf f hf
    · exact e hf g z
  · exact (put_perm hf).mem_iff.mpr (List.mem_cons.mpr h)
/-- tidy: sorted, each once -/
theorem tidy_sorted (l : List Fact) : (Dx.tidy l).Pairwise lessF := by
  have : ∀ (l s : List Fact), s.Pairwise lessF → (l.foldl (fun s f => Dx.put f s) s).Pairwise lessF := by
    intro l
    induction l with
    | nil => exact fun s h => h
    | cons a l ih => exact fun s h => ih _ (put_sorted a h)
  exact this l [] .nil
theorem tidy_mem {l : List Fact} {x : Fact} : x ∈ Dx.tidy l ↔ x ∈ l := by
  have : ∀ (l s : List Fact), x ∈ l.foldl (fun s f => Dx.put f s) s ↔ x ∈ s ∨ x ∈ l := by
    intro l
    induction l with
    | nil => exact fun s => ⟨.inl, fun h => h.elim id fun z => by cases z⟩
    | cons a l ih =>
      intro s
      rw [List.foldl_cons, ih, mem_put_iff, List.mem_cons]
      constructor
      · rintro ((h | h) | h)
        · exact .inr (.inl h)
        · exact .inl h
        · exact .inr (.inr h)
      · rintro (h | h | h)
        · exact .inl (.inr h)
        · exact .inl (.inl h)
        · exact .inr h
  rw [show Dx.tidy l = l.foldl (fun s f => Dx.put f s) [] from rfl, this]
  exact ⟨fun h => h.elim (fun z => by cases z) id, .inr⟩
theorem tidy_unique {l m : List Fact} (h1 : m.Pairwise lessF) (h : ∀ x, x ∈ m ↔ x ∈ l) : m = Dx.tidy l := sorted_unique h1 (tidy_sorted l) fun x => (h x).trans tidy_mem.symm
theorem tidy_len : ∀ (l : List Fact), (Dx.tidy l).length ≤ l.length := by
  have hp : ∀ (f : Fact) (l : List Fact), (Dx.put f l).length ≤ l.length + 1 := by
    intro f l
    induction l with
    | nil => exact Nat.le_refl _
    | cons x l ih =>
      unfold Dx.put
      split
      · exact Nat.le_succ _
      · split
        · exact Nat.le_refl _
        · rw [List.length_cons, List.length_cons]
          omega
  have : ∀ (l s : List Fact), (l.foldl (fun s f => Dx.put f s) s).length ≤ s.length + l.length := by
    intro l
    induction l with
    | nil => exact fun s => Nat.le_refl _
    | cons a l ih =>
      intro s
      have h1 := ih (Dx.put a s)
      have h2 := hp a s
      rw [List.foldl_cons, List.length_cons]
      omega
  intro l
  have h := this l []
  rw [List.length_nil, Nat.zero_add] at h
  exact h
end Mw
namespace Mw
open Dx (Fact Facts Rule Atom Fill)
/-! ## matches, breadth first -/
/-- the assignments that one atom makes of one -/
def fitsM (l : Facts) (a : Atom) (s : Fill) : List Fill := l.filterMap (Dx.fit s a)
theorem matches_step (l : Facts) (a : Atom) (r : List Atom) (s : Fill) : Dx.matches_ l (a :: r) s = (fitsM l a s).flatMap (Dx.matches_ l r) := by
  show l.flatMap (fun f => match Dx.fit s a f with
    | none => []
    | some u => Dx.matches_ l r u) = (l.filterMap (Dx.fit s a)).flatMap (Dx.matches_ l r)
  generalize Dx.matches_ l r = m
  induction l with
  | nil => rfl
  | cons f l ih =>
    rw [List.flatMap_cons, ih]
    cases h : Dx.fit s a f with
    | none => rw [List.filterMap_cons_none h]; rfl
    | some u => rw [List.filterMap_cons_some h, List.flatMap_cons]
theorem matches_fold (l : Facts) : ∀ (as : List Atom) (found : List Fill), as.foldl (fun fs a => fs.flatMap (fitsM l a)) found = found.flatMap (Dx.matches_ l as)
  | [], found => by
    show found = found.flatMap fun s => [s]
    simp
  | a :: as, found => by
    rw [List.foldl_cons, matches_fold l as, List.flatMap_assoc]
    congr 1
    funext s
    exact (matches_step l a as s).symm
theorem matches_eq (l : Facts) (as : List Atom) (s : Fill) : as.foldl (fun fs a => fs.flatMap (fitsM l a)) [s] = Dx.matches_ l as s := by
  rw [matches_fold]
  simp
/-- the tables' own facts -/
def ofTable (l : Facts) (t : Nat) : Facts := l.filter fun f => decide (f.t = t)
def fitV (s : Fill) (a : Atom) (f : Fact) : Option Fill := match Dx.bind s a.x f.a with
  | none => none
  | some u => Dx.bind u a.y f.b
theorem fits_table (l : Facts) (a : Atom) (s : Fill) : (ofTable l a.t).filterMap (fitV s a) = fitsM l a s := by
  unfold ofTable fitsM
  induction l with
  | nil => rfl
  | cons f l ih =>
    by_cases c : f.t = a.t
    · rw [List.filter_cons_of_pos (by simpa using c)]
      have e : Dx.fit s a f = fitV s a f := by
        unfold Dx.fit
        rw [if_neg (fun z => z c.symm)]
        rfl
      rw [List.filterMap_cons, List.filterMap_cons, ih, e]
    · rw [List.filter_cons_of_neg (by simpa using c), ih]
      have e : Dx.fit s a f = none := if_pos (fun z => c z.symm)
      rw [List.filterMap_cons_none e]
theorem fits_len (l : Facts) (a : Atom) (s : Fill) : (fitsM l a s).length ≤ l.length := List.length_filterMap_le ..
theorem fold_len (l : Facts) : ∀ (as : List Atom) (found : List Fill), (as.foldl (fun fs a => fs.flatMap (fitsM l a)) found).length ≤ found.length * l.length ^ as.length
  | [], found => by simp
  | a :: as, found => by
    have h1 := fold_len l as (found.flatMap (fitsM l a))
    have h2 := flat_le (fitsM l a) l.length found fun s _ => fits_len l a s
    rw [List.foldl_cons, List.length_cons, Nat.pow_succ, Nat.mul_comm (l.length ^ as.length), ← Nat.mul_assoc]
    exact Nat.le_trans h1 (Nat.mul_le_mul_right _ h2)
theorem matches_len (l : Facts) (as : List Atom) (s : Fill) : (Dx.matches_ l as s).length ≤ l.length ^ as.length := by
  have := fold_len l as [s]
  rw [matches_eq] at this
  simpa using this
/-- few enough for every list -/
def Small (F n : Nat) : Prop := (F ≤ 110 ∧ n ≤ 2) ∨ (F ≤ 11 ∧ n ≤ 4)
theorem Small.pow {F n i : Nat} (h : Small F n) (hi : i ≤ n) : F ^ i ≤ 14641 := by
  rcases h with ⟨h1, h2⟩ | ⟨h1, h2⟩
  · refine Nat.le_trans (Nat.pow_le_pow_left h1 i) ?_
    have : i = 0 ∨ i = 1 ∨ i = 2 := by omega
    rcases this with e | e | e <;> subst e <;> decide
  · refine Nat.le_trans (Nat.pow_le_pow_left h1 i) ?_
    have : i = 0 ∨ i = 1 ∨ i = 2 ∨ i = 3 ∨ i = 4 := by omega
    rcases this with e | e | e | e | e <;> subst e <;> decide
/-! ## what is bound -/
theorem at_snoc (s : Fill) (v a w : Nat) : (s ++ [(v, a)]).at_ w = match s.at_ w with
    | some b => some b
    | none => if v = w then some a else none := by
  unfold Fill.at_
  rw [List.find?_append]
  cases h : s.find? fun p => p.1 == w with
  | some p => rfl
  | none =>
    by_cases c : v = w
    · subst c
      simp
    · have : (v == w) = false := by simpa using c
      simp [c, this]
theorem bind_at {s u : Fill} {v a : Nat} (h : Dx.bind s v a = some u) (w : Nat) : (u.at_ w).isSome = ((s.at_ w).isSome || decide (v = w)) := by
  unfold Dx.bind at h
  cases hv : s.at_ v with
  | some b =>
    rw [hv] at h
    have h : (if b = a then some s else none) = some u := h
    by_cases c : b = a
    · rw [if_pos c] at h
      cases h
      by_cases d : v = w
      · subst d
        rw [hv]
        rfl
      · rw [decide_eq_false d, Bool.or_false]
    · rw [if_neg c] at h
      cases h
  | none =>
    rw [hv] at h
    cases (show some (s ++ [(v, a)]) = some u from h)
    rw [at_snoc]
    cases hw : s.at_ w with
    | some b => rfl
    | none =>
      by_cases d : v = w
      · show (if v = w then some a else none).isSome = _
        rw [if_pos d, decide_eq_true d]
        rfl
      · show (if v = w then some a else none).isSome = _
        rw [if_neg d, decide_eq_false d]
        rfl
theorem fit_at {s u : Fill} {a : Atom} {f : Fact} (h : Dx.fit s a f = some u) (w : Nat) : (u.at_ w).isSome = ((s.at_ w).isSome || (decide (a.x = w) || decide (a.y = w))) := by
  unfold Dx.fit at h
  split at h
  · cases h
  · cases hb : Dx.bind s a.x f.a with
    | none => rw [hb] at h; cases h
    | some t =>
      rw [hb] at h
      rw [bind_at h w, bind_at hb w, Bool.or_assoc]
theorem match_at {l : Facts} : ∀ {as : List Atom} {s u : Fill}, u ∈ Dx.matches_ l as s → ∀ w, (u.at_ w).isSome = ((s.at_ w).isSome || as.any fun a => decide (a.x = w) || decide (a.y = w))
  | [], s, u, h, w => by
    rw [List.mem_singleton.mp (show u ∈ [s] from h)]
    simp
  | a :: as, s, u, h, w => by
    rw [matches_step] at h
    obtain ⟨t, ht, hu⟩ := List.mem_flatMap.mp h
    obtain ⟨f, _, hf⟩ := List.mem_filterMap.mp ht
    rw [match_at hu w, fit_at hf w, List.any_cons, Bool.or_assoc]
theorem places_fold (ns : List Nat) : ∀ (m : List Nat) (v : Nat), v ∈ ns.foldl (fun m v => if m.contains v = true then m else m ++ [v]) m ↔ v ∈ m ∨ v ∈ ns := by
  induction ns with
  | nil => intro m v; simp
  | cons n ns ih =>
    intro m v
    rw [List.foldl_cons, ih]
    by_cases c : m.contains n = true
    · rw [if_pos c, List.mem_cons]
      have : n ∈ m := by simpa using c
      constructor
      · rintro (z | z)
        · exact .inl z
        · exact .inr (.inr z)
      · rintro (z | z | z)
        · exact .inl z
        · exact .inl (z ▸ this)
        · exact .inr z
    · rw [if_neg c, List.mem_append, List.mem_singleton, List.mem_cons, or_assoc]
theorem mem_places (l : List Atom) (v : Nat) : v ∈ Dx.places l ↔ (l.any fun a => decide (a.x = v) || decide (a.y = v)) = true := by
  unfold Dx.places
  rw [places_fold]
  simp only [List.not_mem_nil, false_or, List.mem_flatMap, List.any_eq_true, Bool.or_eq_true, decide_eq_true_eq, List.mem_cons, or_false]
  constructor
  · rintro ⟨a, ha, z | z⟩
    · exact ⟨a, ha, .inl z.symm⟩
    · exact ⟨a, ha, .inr z.symm⟩
  · rintro ⟨a, ha, z | z⟩
    · exact ⟨a, ha, .inl z.symm⟩
    · exact ⟨a, ha, .inr z.symm⟩
theorem places_nodup_fold (ns : List Nat) : ∀ m : List Nat, m.Nodup → (ns.foldl (fun m v => if m.contains v = true then m else m ++ [v]) m).Nodup := by
  induction ns with
  | nil => intro m h; exact h
  | cons n ns ih =>
    intro m h
    rw [List.foldl_cons]
    refine ih _ ?_
    by_cases c : m.contains n = true
    · rw [if_pos c]; exact h
    · rw [if_neg c]
      refine List.nodup_append.mpr ⟨h, by simp, fun a ha b hb e => ?_⟩
      rw [List.mem_singleton.mp hb] at e
      exact c (by simpa using e ▸ ha)
theorem open_nodup (r : Rule) : r.open_.Nodup := (places_nodup_fold _ [] List.nodup_nil).sublist List.filter_sublist
theorem places_len (l : List Atom) : (Dx.places l).length ≤ 2 * l.length := by
  have key : ∀ (ns m : List Nat), (ns.foldl (fun m v => if m.contains v = true then m else m ++ [v]) m).length ≤ m.length + ns.length := by
    intro ns
    induction ns with
    | nil => intro m; exact Nat.le_refl _
    | cons n ns ih =>
      intro m
      rw [List.foldl_cons, List.length_cons]
      by_cases c : m.contains n = true
      · rw [if_pos c]
        have := ih m
        omega
      · rw [if_neg c]
        have := ih (m ++ [n])
        rw [List.length_append, List.length_singleton] at this
        omega
  have := key (l.flatMap fun a => [a.x, a.y]) []
  have e : ∀ l : List Atom, (l.flatMap fun a => [a.x, a.y]).length = 2 * l.length := by
    intro l
    induction l with
    | nil => rfl
    | cons a l ih =>
      rw [List.flatMap_cons, List.length_append, ih]
      show 2 + 2 * l.length = 2 * (l.length + 1)
      omega
  rw [e] at this
  unfold Dx.places
  simpa using this
theorem open_len (r : Rule) : r.open_.length ≤ 2 * r.head.length := Nat.le_trans (List.length_filter_le _ _) (places_len _)
theorem mem_open {r : Rule} {v : Nat} : v ∈ r.open_ ↔ v ∈ Dx.places r.head ∧ v ∉ Dx.places r.body := by
  unfold Dx.Rule.open_
  rw [List.mem_filter]
  simp
/-- a match of the body binds the body's variables, no others -/
theorem body_at {l : Facts} {r : Rule} {s : Fill} (h : s ∈ Dx.matches_ l r.body []) (v : Nat) : (s.at_ v).isSome = decide (v ∈ Dx.places r.body) := by
  rw [match_at h v]
  have e : ((Fill.at_ [] v).isSome || r.body.any fun a => decide (a.x = v) || decide (a.y = v)) = (r.body.any fun a => decide (a.x = v) || decide (a.y = v)) := rfl
  rw [e]
  by_cases c : v ∈ Dx.places r.body
  · rw [decide_eq_true c]
    exact (mem_places _ _).mp c
  · rw [decide_eq_false c]
    exact Bool.eq_false_iff.mpr fun z => c ((mem_places _ _).mpr z)
theorem opened_at : ∀ (vs : List Nat) (s : Fill) (n w : Nat), ((Dx.opened s vs n).at_ w).isSome = ((s.at_ w).isSome || decide (w ∈ vs))
  | [], s, n, w => by simp [Dx.opened]
  | v :: vs, s, n, w => by
    show ((Dx.opened (s ++ [(v, n)]) vs (n + 1)).at_ w).isSome = _
    rw [opened_at vs, at_snoc]
    cases h : s.at_ w with
    | some b => rfl
    | none =>
      by_cases c : v = w
      · subst c
        simp
      · have : ¬ w = v := fun z => c z.symm
        simp [c, this]
/-- with the existential ones the head's are bound -/
theorem head_at {l : Facts} {r : Rule} {s : Fill} (h : s ∈ Dx.matches_ l r.body []) (n : Nat) {v : Nat} (hv : v ∈ Dx.places r.head) : ((Dx.opened s r.open_ n).at_ v).isSome = true := by
  rw [opened_at, body_at h]
  by_cases c : v ∈ Dx.places r.body
  · rw [decide_eq_true c]
    rfl
  · rw [decide_eq_true (mem_open.mpr ⟨hv, c⟩), Bool.or_true]
theorem x_place {l : List Atom} {a : Atom} (h : a ∈ l) : a.x ∈ Dx.places l := (mem_places _ _).mpr (List.any_eq_true.mpr ⟨a, h, by simp⟩)
theorem y_place {l : List Atom} {a : Atom} (h : a ∈ l) : a.y ∈ Dx.places l := (mem_places _ _).mpr (List.any_eq_true.mpr ⟨a, h, by simp⟩)
theorem opened_take (s : Fill) : ∀ (vs : List Nat) (n i : Nat), Dx.opened s vs n = Dx.opened (Dx.opened s (vs.take i) n) (vs.drop i) (n + (vs.take i).length)
  | [], n, i => by simp [Dx.opened]
  | v :: vs, n, 0 => rfl
  | v :: vs, n, i + 1 => by
    show Dx.opened (s ++ [(v, n)]) vs (n + 1) = Dx.opened (Dx.opened (s ++ [(v, n)]) (vs.take i) (n + 1)) (vs.drop i) (n + ((vs.take i).length + 1))
    rw [opened_take (s ++ [(v, n)]) vs (n + 1) i]
    congr 1
    omega
theorem opened_snoc (s : Fill) (vs : List Nat) (n v : Nat) : Dx.opened s (vs ++ [v]) n = Dx.opened s vs n ++ [(v, n + vs.length)] := by
  rw [opened_take s (vs ++ [v]) n vs.length]
  rw [List.take_left, List.drop_left]
  rfl
/-! ## which facts are computed -/
/-- what one match of a rule gives -/
def givenBy (l : Facts) (r : Rule) (n i : Nat) : Facts := r.head.map (Dx.inst (Dx.opened ((Dx.matches_ l r.body []).getD i []) r.open_ (n + i * r.open_.length)))
theorem handed_cons (l : Facts) (r : Rule) (rs : List Rule) (n : Nat) : Dx07.handed l (r :: rs) n = ((List.range (Dx.matches_ l r.body []).length).flatMap (givenBy l r n)) ++ Dx07.handed l rs (n + (Dx.matches_ l r.body []).length * r.open_.length) := rfl
theorem handed_len (l : Facts) {F : Nat} : ∀ (rs : List Rule) (n : Nat), (∀ r ∈ rs, (Dx.matches_ l r.body []).length ≤ F ∧ r.head.length ≤ 2) → (Dx07.handed l rs n).length ≤ rs.length * (F * 2)
  | [], n, _ => by
    show 0 ≤ _
    exact Nat.zero_le _
  | r :: rs, n, h => by
    obtain ⟨h1, h2⟩ := h r List.mem_cons_self
    have a := handed_len l rs (n + (Dx.matches_ l r.body []).length * r.open_.length) fun x hx => h x (List.mem_cons_of_mem _ hx)
    have b := flat_le (givenBy l r n) 2 (List.range (Dx.matches_ l r.body []).length) fun i _ => by
      rw [givenBy, List.length_map]
      exact h2
    rw [List.length_range] at b
    rw [handed_cons, List.length_append, List.length_cons, Nat.succ_mul]
    have := Nat.mul_le_mul_right 2 h1
    omega
theorem handed_tables (l : Facts) : ∀ (rs : List Rule) (n : Nat), ∀ f ∈ Dx07.handed l rs n, ∃ r ∈ rs, ∃ a ∈ r.head, f.t = a.t
  | [], n, f, h => nomatch h
  | r :: rs, n, f, h => by
    rw [handed_cons] at h
    rcases List.mem_append.mp h with z | z
    · obtain ⟨i, _, hi⟩ := List.mem_flatMap.mp z
      obtain ⟨a, ha, rfl⟩ := List.mem_map.mp hi
      exact ⟨r, List.mem_cons_self, a, ha, rfl⟩
    · obtain ⟨r', hr, q⟩ := handed_tables l rs _ f z
      exact ⟨r', List.mem_cons_of_mem _ hr, q⟩
/-! ## sorted facts, one set behind another -/
theorem pairwise_app {l m : List Fact} (h1 : l.Pairwise lessF) (h2 : m.Pairwise lessF) {p : Nat} (hl : ∀ f ∈ l, f.t < p) (hm : ∀ f ∈ m, p ≤ f.t) : (l ++ m).Pairwise lessF :=
  List.pairwise_append.mpr ⟨h1, h2, fun f hf g hg => (lessF_iff f g).mpr (.inl (Nat.lt_of_lt_of_le (hl f hf) (hm g hg)))⟩
theorem tidy_app {l m k : List Fact} (h1 : m.Pairwise lessF) (same : ∀ x, x ∈ m ↔ x ∈ l) {p : Nat} (hl : ∀ f ∈ m, f.t < p) (hm : ∀ f ∈ k, p ≤ f.t) : m ++ Dx.tidy k = Dx.tidy (l ++ k) := by
  refine tidy_unique (pairwise_app h1 (tidy_sorted k) hl fun f hf => hm f (tidy_mem.mp hf)) fun x => ?_
  rw [List.mem_append, List.mem_append, same x, tidy_mem]
/-! ## goes and lacks -/
/-- the first match of the body without one of the head -/
def lackOf (l : Facts) (r : Rule) : Option Fill := (Dx.matches_ l r.body []).find? fun s => (Dx.matches_ l r.head s).isEmpty
def lackM (l : Facts) (rs : List Rule) : Option (Nat × Fill) := (List.range rs.length).findSome? fun i => match rs[i]? with
  | none => none
  | some r => (lackOf l r).map fun s => (i, s)
theorem lacks_eq (b : Dx07.Book) (l k : Facts) : b.lacks l k = lackM (l ++ k) b.composed := rfl
theorem keeps_iff (l : Facts) (r : Rule) : Dx.keeps l r = (lackOf l r).isNone := by
  unfold Dx.keeps lackOf
  generalize Dx.matches_ l r.body [] = m
  induction m with
  | nil => rfl
  | cons s m ih =>
    rw [List.all_cons, List.find?_cons, ih]
    cases (Dx.matches_ l r.head s).isEmpty <;> rfl
theorem lack_none {l : Facts} {rs : List Rule} : lackM l rs = none ↔ ∀ (j : Nat) (q : Rule), rs[j]? = some q → lackOf l q = none := by
  unfold lackM
  rw [List.findSome?_eq_none_iff]
  constructor
  · intro h j q hq
    have := h j (List.mem_range.mpr (List.getElem?_eq_some_iff.mp hq).1)
    rw [hq] at this
    have this : (lackOf l q).map (fun s => (j, s)) = none := this
    cases e : lackOf l q with
    | none => rfl
    | some s => rw [e] at this; cases this
  · intro h j _
    cases e : rs[j]? with
    | none => rfl
    | some q =>
      show (lackOf l q).map (fun s => (j, s)) = none
      rw [h j q e]
      rfl
theorem goes_eq (b : Dx07.Book) (l k : Facts) : b.goes l k = (lackM (b.middle l ++ k) b.two).isNone := by
  show (b.two.all fun r => Dx.keeps (b.middle l ++ k) r) = _
  generalize b.middle l ++ k = F
  rw [Bool.eq_iff_iff, List.all_eq_true, Option.isNone_iff_eq_none, lack_none]
  constructor
  · intro h i r hr
    have := h r (List.mem_of_getElem? hr)
    rw [keeps_iff, Option.isNone_iff_eq_none] at this
    exact this
  · intro h r hr
    obtain ⟨i, hi⟩ := List.mem_iff_getElem?.mp hr
    rw [keeps_iff, Option.isNone_iff_eq_none]
    exact h i r hi
/-- searched from index i on -/
theorem lack_next {l : Facts} {rs : List Rule} {i : Nat} {r : Rule} (hr : rs[i]? = some r) (before : ∀ j, j < i → ∀ q, rs[j]? = some q → lackOf l q = none) {s : Fill} (h : lackOf l r = some s) : lackM l rs = some (i, s) := by
  unfold lackM
  have lt := (List.getElem?_eq_some_iff.mp hr).1
  have e : List.range rs.length = List.range i ++ List.range' i (rs.length - i) := by
    have := @List.range'_append_1 0 i (rs.length - i)
    rw [Nat.zero_add, Nat.add_sub_cancel' (Nat.le_of_lt lt)] at this
    rw [List.range_eq_range', List.range_eq_range']
    exact this.symm
  rw [e, List.findSome?_append]
  have n : (List.range i).findSome? (fun i => match rs[i]? with
    | none => none
    | some r => (lackOf l r).map fun s => (i, s)) = none := by
    rw [List.findSome?_eq_none_iff]
    intro j hj
    cases q : rs[j]? with
    | none => rfl
    | some x =>
      show (lackOf l x).map _ = none
      rw [before j (List.mem_range.mp hj) x q]
      rfl
  rw [n]
  obtain ⟨d, hd⟩ : ∃ d, rs.length - i = d + 1 := ⟨rs.length - i - 1, by omega⟩
  rw [hd, List.range'_succ, List.findSome?_cons, hr]
  simp [h]
/-! ## facts that are handed in -/
def factsM (ns : List Nat) : Facts := (triplesM ns).map fun a => ⟨a.t, a.x, a.y⟩
def valueM (v : Nat) : Bool := decide (v < 20) || (decide (100 ≤ v) && decide (v ≤ 199))
def endM (f : Fact) : Bool := decide (f.t / 2 = 2) && (valueM f.a && valueM f.b)
def endsM (ns : List Nat) : Bool := decide (ns.length % 3 = 0) && (decide ((factsM ns).length ≤ 6) && (factsM ns).all endM)
theorem ends_eq : ∀ ns : List Nat, Dx07.ends ns = if ns.length % 3 = 0 ∧ (factsM ns).all endM = true then some (factsM ns) else none
  | [] => rfl
  | [_] => rfl
  | [_, _] => rfl
  | t :: a :: b :: r => by
    have e : (t :: a :: b :: r).length % 3 = r.length % 3 := by
      show (r.length + 3) % 3 = _
      omega
    have e2 : factsM (t :: a :: b :: r) = ⟨t, a, b⟩ :: factsM r := rfl
    have ih := ends_eq r
    unfold Dx07.ends
    rw [e, e2, List.all_cons, ih]
    have c : (4 ≤ t ∧ t < 6 ∧ (a < Dx07.VALUE ∨ (Dx.UNKNOWN ≤ a ∧ a < 200)) ∧ (b < Dx07.VALUE ∨ (Dx.UNKNOWN ≤ b ∧ b < 200))) ↔ endM ⟨t, a, b⟩ = true := by
      simp only [endM, valueM, Bool.and_eq_true, Bool.or_eq_true, decide_eq_true_eq, Dx07.VALUE, Dx.UNKNOWN]
      omega
    by_cases h1 : endM ⟨t, a, b⟩ = true
    · rw [if_pos (c.mpr h1), h1, Bool.true_and]
      split <;> rfl
    · rw [if_neg (fun z => h1 (c.mp z)), if_neg (fun z => h1 (by simp at z; exact z.2.1))]
theorem some_eq (ns : List Nat) : Dx07.some_ ns = if endsM ns = true then some (Dx.tidy (factsM ns)) else none := by
  unfold Dx07.some_
  rw [ends_eq]
  unfold endsM
  by_cases h1 : ns.length % 3 = 0 ∧ (factsM ns).all endM = true
  · rw [if_pos h1, decide_eq_true h1.1, h1.2, Bool.true_and, Bool.and_true]
    show (if 6 < (factsM ns).length then none else some (Dx.tidy (factsM ns))) = _
    by_cases h2 : (factsM ns).length ≤ 6
    · rw [if_neg (Nat.not_lt_of_le h2), if_pos (decide_eq_true h2)]
    · rw [if_pos (Nat.lt_of_not_le h2), if_neg (by simpa using h2)]
  · rw [if_neg h1, if_neg (fun z => h1 ?_)]
    simp only [Bool.and_eq_true, decide_eq_true_eq] at z
    exact ⟨z.1, z.2.2⟩
end Mw
namespace Mw
open PySem PySem.Spec PyProof.Rows L2
open Dx (Fact Facts Rule Atom Fill)

/-! ## data that never changes: tuples of ints and of tuples -/
def SameT (H H' : Hp) : Prop := ∀ a xs, H a = some (.tup xs) → H' a = some (.tup xs)
theorem SameT.refl (H : Hp) : SameT H H := fun _ _ h => h
theorem SameT.trans {H H1 H2 : Hp} (a : SameT H H1) (b : SameT H1 H2) : SameT H H2 := fun c x h => b c x (a c x h)
theorem SameT.of {H H' : Hp} (h : Same H H') : SameT H H' := fun a xs e => h a _ e
theorem SameT.new {H : Hp} {p : Addr} {o : HO} (h : H p = none) : SameT H (upd H p o) := fun a xs e => by
  rw [upd_ne (ne_of_none e h)]
  exact e
theorem SameT.lst {H : Hp} {p : Addr} {o : HO} {ys : List V} (h : H p = some (.lst ys)) : SameT H (upd H p o) := fun a xs e => by
  rw [upd_ne (ne_of e h (by intro z; cases z))]
  exact e
theorem SameT.ins {H : Hp} {p C dx : Addr} {o : HO} {fs : List (Str × V)} (h : H p = some (.ins C dx fs)) : SameT H (upd H p o) := fun a xs e => by
  rw [upd_ne (ne_of e h (by intro z; cases z))]
  exact e
theorem Same.new {H : Hp} {p : Addr} {o : HO} (h : H p = none) : Same H (upd H p o) := fun a u e => by
  rw [upd_ne (ne_of_none e h)]
  exact e
/-- H' keeps what H0 tracked, also behind a change at a place that H0 did not track -/
theorem Same.step {H0 H : Hp} {p : Addr} {o : HO} (s : Same H0 H) (h : H0 p = none) : Same H0 (upd H p o) := fun a u e => by
  rw [upd_ne (ne_of_none e h)]
  exact s a u e
theorem same_none {H H' : Hp} {a : Addr} (s : Same H H') (h : H' a = none) : H a = none := by
  cases e : H a with
  | none => rfl
  | some o =>
    rw [s a o e] at h
    cases h
/-- all but what stands at p is as it was -/
def SameBut (p : Addr) (H H' : Hp) : Prop := ∀ b o, b ≠ p → H b = some o → H' b = some o
theorem SameBut.refl (p : Addr) (H : Hp) : SameBut p H H := fun _ _ _ h => h
theorem SameBut.trans {p : Addr} {H H1 H2 : Hp} (a : SameBut p H H1) (b : SameBut p H1 H2) : SameBut p H H2 := fun c o n h => b c o n (a c o n h)
theorem SameBut.of {p : Addr} {H H' : Hp} (h : Same H H') : SameBut p H H' := fun b o _ e => h b o e
theorem SameBut.set {p : Addr} {H : Hp} {o : HO} : SameBut p H (upd H p o) := fun b u n e => by
  rw [upd_ne n]
  exact e
theorem Same.but {p : Addr} {H0 H H' : Hp} (s : Same H0 H) (b : SameBut p H H') (h : H0 p = none) : Same H0 H' := fun c o e => b c o (ne_of_none e h) (s c o e)
theorem SameBut.tup {p : Addr} {H H' : Hp} {ys : List V} (b : SameBut p H H') (h : H p = some (.lst ys)) : SameT H H' := fun a xs e => b a _ (ne_of e h (by intro z; cases z)) e
theorem Paired.imp {α β : Type} {F G : α → β → Prop} (k : ∀ a b, F a b → G a b) : ∀ {l : List α} {m : List β}, Paired F l m → Paired G l m
  | _, _, .nil => .nil
  | _, _, .cons h t => .cons (k _ _ h) (Paired.imp k t)
theorem Paired.len {α β : Type} {F : α → β → Prop} : ∀ {l : List α} {m : List β}, Paired F l m → l.length = m.length
  | _, _, .nil => rfl
  | _, _, .cons _ t => congrArg (· + 1) (Paired.len t)
theorem Paired.get {α β : Type} {F : α → β → Prop} : ∀ {l : List α} {m : List β} {i : Nat} {x : α}, Paired F l m → l[i]? = some x → ∃ y, m[i]? = some y ∧ F x y
  | _, _, _, _, .nil, e => by simp at e
  | _, _, 0, _, .cons h _, e => by
    have e' := Option.some.inj (show some _ = some _ from e)
    subst e'
    exact ⟨_, rfl, h⟩
  | _, _, i + 1, x, .cons _ t, e => by
    obtain ⟨y, h1, h2⟩ := Paired.get (i := i) (x := x) t (by simpa using e)
    exact ⟨y, by simpa using h1, h2⟩
theorem Paired.get' {α β : Type} {F : α → β → Prop} : ∀ {l : List α} {m : List β} {i : Nat} {y : β}, Paired F l m → m[i]? = some y → ∃ x, l[i]? = some x ∧ F x y
  | _, _, _, _, .nil, e => by simp at e
  | _, _, 0, _, .cons h _, e => by
    have e' := Option.some.inj (show some _ = some _ from e)
    subst e'
    exact ⟨_, rfl, h⟩
  | _, _, i + 1, x, .cons _ t, e => by
    obtain ⟨y, h1, h2⟩ := Paired.get' (i := i) (y := x) t (by simpa using e)
    exact ⟨y, by simpa using h1, h2⟩
theorem Paired.app {α β : Type} {F : α → β → Prop} : ∀ {l l' : List α} {m m' : List β}, Paired F l m → Paired F l' m' → Paired F (l ++ l') (m ++ m')
  | _, _, _, _, .nil, s => s
  | _, _, _, _, .cons h t, s => .cons h (Paired.app t s)
theorem Paired.snoc {α β : Type} {F : α → β → Prop} {l : List α} {m : List β} {a : α} {b : β} (h : Paired F l m) (k : F a b) : Paired F (l ++ [a]) (m ++ [b]) := Paired.app h (.cons k .nil)

/-- three numbers in a tuple -/
def TriAt (H : Hp) (v : V) (t x y : Nat) : Prop := ∃ q, v = .ref q ∧ H q = some (.tup [.int t, .int x, .int y])
def AtomAt (H : Hp) (v : V) (a : Atom) : Prop := TriAt H v a.t a.x a.y
def FactAt (H : Hp) (v : V) (a : Fact) : Prop := TriAt H v a.t a.a a.b
def AtomsAt (H : Hp) (v : V) (l : List Atom) : Prop := ∃ q xs, v = .ref q ∧ H q = some (.tup xs) ∧ Paired (AtomAt H) xs l
def RuleAt (H : Hp) (v : V) (r : Rule) : Prop := ∃ q b h, v = .ref q ∧ H q = some (.tup [b, h]) ∧ AtomsAt H b r.body ∧ AtomsAt H h r.head
def MadeAt (H : Hp) (v : V) (m : Dx07.Made) : Prop := ∃ q x y, v = .ref q ∧ H q = some (.tup [x, y]) ∧ RuleAt H x m.1 ∧ AtomAt H y m.2
section
variable {H H' : Hp} {v : V}
theorem TriAt.mono (s : SameT H H') {t x y : Nat} (h : TriAt H v t x y) : TriAt H' v t x y := by
  obtain ⟨q, e, h⟩ := h
  exact ⟨q, e, s _ _ h⟩
theorem AtomAt.mono (s : SameT H H') {a : Atom} (h : AtomAt H v a) : AtomAt H' v a := TriAt.mono s h
theorem FactAt.mono (s : SameT H H') {a : Fact} (h : FactAt H v a) : FactAt H' v a := TriAt.mono s h
theorem AtomsAt.mono (s : SameT H H') {l : List Atom} (h : AtomsAt H v l) : AtomsAt H' v l := by
  obtain ⟨q, xs, e, h, p⟩ := h
  exact ⟨q, xs, e, s _ _ h, Paired.imp (fun _ _ k => AtomAt.mono s k) p⟩
theorem RuleAt.mono (s : SameT H H') {r : Rule} (h : RuleAt H v r) : RuleAt H' v r := by
  obtain ⟨q, b, x, e, h, p1, p2⟩ := h
  exact ⟨q, b, x, e, s _ _ h, p1.mono s, p2.mono s⟩
theorem MadeAt.mono (s : SameT H H') {m : Dx07.Made} (h : MadeAt H v m) : MadeAt H' v m := by
  obtain ⟨q, b, x, e, h, p1, p2⟩ := h
  exact ⟨q, b, x, e, s _ _ h, p1.mono s, p2.mono s⟩
end
/-! ### as data, for in and == -/
def dTri (t x y : Nat) : PyData := .tuple [.int t, .int x, .int y]
def dAtom (a : Atom) : PyData := dTri a.t a.x a.y
def dFact (a : Fact) : PyData := dTri a.t a.a a.b
def dAtoms (l : List Atom) : PyData := .tuple (l.map dAtom)
def dRule (r : Rule) : PyData := .tuple [dAtoms r.body, dAtoms r.head]
section
variable {K : PySem.W.Frag} {H : Hp} {v : V}
theorem SqT.of' {a : Addr} {xs : List V} (h : H a = some (.tup xs)) : SqT K H a xs := .inl (.inl h)
theorem SqL.of' {a : Addr} {xs : List V} (h : H a = some (.lst xs)) : SqL K H a xs := .inl (.inl h)
theorem TriAt.dp {t x y : Nat} (h : TriAt H v t x y) : Dp K H v (dTri t x y) := by
  obtain ⟨q, rfl, h⟩ := h
  exact .tup (SqT.of' h) (.cons (.int _) (.cons (.int _) (.cons (.int _) .nil)))
theorem dp_all {α : Type} {F : V → α → Prop} {d : α → PyData} (k : ∀ v a, F v a → Dp K H v (d a)) : ∀ {xs : List V} {l : List α}, Paired F xs l → DpAll K H xs (l.map d)
  | _, _, .nil => .nil
  | _, _, .cons h t => .cons (k _ _ h) (dp_all k t)
theorem AtomsAt.dp {l : List Atom} (h : AtomsAt H v l) : Dp K H v (dAtoms l) := by
  obtain ⟨q, xs, rfl, h, p⟩ := h
  exact .tup (SqT.of' h) (dp_all (fun _ _ k => TriAt.dp k) p)
theorem RuleAt.dp {r : Rule} (h : RuleAt H v r) : Dp K H v (dRule r) := by
  obtain ⟨q, b, x, rfl, h, p1, p2⟩ := h
  exact .tup (SqT.of' h) (.cons p1.dp (.cons p2.dp .nil))
end
theorem dTri_lay (t x y : Nat) : (dTri t x y).canLay0 = true := by simp [dTri, PyData.canLay0, PyData.canLayAll0]
theorem dTri_depth (t x y : Nat) : (dTri t x y).depth = 1 := by simp [dTri, PyData.depth, PyData.depthAll]
theorem lay_all {α : Type} {d : α → PyData} (h : ∀ a, (d a).canLay0 = true) : ∀ l : List α, PyData.canLayAll0 (l.map d) = true
  | [] => by simp [PyData.canLayAll0]
  | a :: l => by simp [PyData.canLayAll0, h a, lay_all h l]
theorem depth_all {α : Type} {d : α → PyData} {n : Nat} (h : ∀ a, (d a).depth ≤ n) : ∀ l : List α, PyData.depthAll (l.map d) ≤ n
  | [] => by simp [PyData.depthAll]
  | a :: l => by
    have h1 := h a
    have h2 := depth_all h l
    simp only [List.map_cons, PyData.depthAll]
    omega
theorem shaped_of {d : PyData} (h1 : d.canLay0 = true) (h2 : d.depth ≤ 64) : SeqAt.shaped d = true := by
  show (d.canLay0 && decide (d.depth ≤ 64)) = true
  rw [Bool.and_eq_true]
  exact ⟨h1, decide_eq_true h2⟩
theorem shaped_tri (t x y : Nat) : SeqAt.shaped (dTri t x y) = true := shaped_of (dTri_lay t x y) (by rw [dTri_depth]; decide)
theorem shaped_list {α : Type} {d : α → PyData} (h1 : ∀ a, (d a).canLay0 = true) (h2 : ∀ a, (d a).depth ≤ 63) (l : List α) : SeqAt.shaped (.list (l.map d)) = true := by
  refine shaped_of ?_ ?_
  · show PyData.canLay0 (.list (l.map d)) = true
    simp only [PyData.canLay0]
    exact lay_all h1 l
  · have := depth_all h2 l
    simp only [PyData.depth]
    omega
theorem dAtoms_lay (l : List Atom) : (dAtoms l).canLay0 = true := by
  simp only [dAtoms, PyData.canLay0]
  exact lay_all (fun a => dTri_lay _ _ _) l
theorem dAtoms_depth (l : List Atom) : (dAtoms l).depth ≤ 2 := by
  have := depth_all (n := 1) (d := dAtom) (fun a => Nat.le_of_eq (dTri_depth _ _ _)) l
  simp only [dAtoms, PyData.depth]
  omega
theorem dRule_lay (r : Rule) : (dRule r).canLay0 = true := by simp [dRule, PyData.canLay0, PyData.canLayAll0, dAtoms_lay]
theorem dRule_depth (r : Rule) : (dRule r).depth ≤ 3 := by
  have h1 := dAtoms_depth r.body
  have h2 := dAtoms_depth r.head
  simp only [dRule, PyData.depth, PyData.depthAll]
  omega
theorem int_beq (a b : Nat) : ((a : Int) == (b : Int)) = decide (a = b) := by
  by_cases h : a = b
  · subst h
    simp
  · rw [decide_eq_false h]
    exact beq_eq_false_iff_ne.mpr (by omega)
theorem dTri_eqv (t x y t' x' y' : Nat) : PyData.eqv (dTri t x y) (dTri t' x' y') = decide (t = t' ∧ x = x' ∧ y = y') := by
  have e : PyData.eqv (dTri t x y) (dTri t' x' y') = (((t : Int) == (t' : Int)) && (((x : Int) == (x' : Int)) && (((y : Int) == (y' : Int)) && true))) := by simp only [dTri, PyData.eqv, PyData.eqvAll]
  rw [e, int_beq, int_beq, int_beq, Bool.and_true, Bool.decide_and, Bool.decide_and]
theorem dAtom_eqv (a b : Atom) : PyData.eqv (dAtom a) (dAtom b) = decide (a = b) := by
  unfold dAtom
  rw [dTri_eqv]
  obtain ⟨t, x, y⟩ := a
  obtain ⟨t', x', y'⟩ := b
  simp only [Atom.mk.injEq]
theorem dFact_eqv (a b : Fact) : PyData.eqv (dFact a) (dFact b) = decide (a = b) := by
  unfold dFact
  rw [dTri_eqv]
  obtain ⟨t, x, y⟩ := a
  obtain ⟨t', x', y'⟩ := b
  simp only [Fact.mk.injEq]
theorem eqv_all {α : Type} [DecidableEq α] {d : α → PyData} (h : ∀ a b, PyData.eqv (d a) (d b) = decide (a = b)) : ∀ l m : List α, PyData.eqvAll (l.map d) (m.map d) = decide (l = m)
  | [], [] => by simp [PyData.eqvAll]
  | [], _ :: _ => by simp [PyData.eqvAll]
  | _ :: _, [] => by simp [PyData.eqvAll]
  | a :: l, b :: m => by
    simp only [List.map_cons, PyData.eqvAll]
    rw [h a b, eqv_all h l m, ← Bool.decide_and]
    simp only [List.cons.injEq]
theorem dAtoms_eqv (l m : List Atom) : PyData.eqv (dAtoms l) (dAtoms m) = decide (l = m) := by
  simp only [dAtoms, PyData.eqv]
  exact eqv_all dAtom_eqv l m
theorem dRule_eqv (a b : Rule) : PyData.eqv (dRule a) (dRule b) = decide (a = b) := by
  simp only [dRule, PyData.eqv, PyData.eqvAll]
  rw [dAtoms_eqv, dAtoms_eqv, Bool.and_true, ← Bool.decide_and]
  obtain ⟨x, y⟩ := a
  obtain ⟨x', y'⟩ := b
  simp only [Rule.mk.injEq]
theorem any_eqv {α : Type} [DecidableEq α] {d : α → PyData} (h : ∀ a b, PyData.eqv (d a) (d b) = decide (a = b)) (a : α) (l : List α) : ((l.map d).any fun z => PyData.eqv z (d a)) = l.contains a := by
  rw [List.any_map]
  induction l with
  | nil => rfl
  | cons b l ih =>
    rw [List.any_cons, ih, List.contains_cons]
    congr 1
    show PyData.eqv (d b) (d a) = _
    rw [h b a]
    by_cases e : b = a
    · subst e
      simp
    · rw [decide_eq_false e]
      exact (beq_eq_false_iff_ne.mpr (fun q => e q.symm)).symm
end Mw
namespace Mw
open PySem PySem.Spec PyProof.Rows L2
/-! ## enumerate(xs, start=k) over a list -/
section
variable {M : Model} {A : Around} {E : Value → Shared → Prop} {s : Shared}
theorem with_type_kw {pos : Pos} {T : String} {args : List (Bool × Sem Value)} {kws : List (Option Str × Sem Value)} {Q : Value → Shared → Prop} (h1 : args.any (·.1) = false) (h2 : kws.any (·.1.isNone) = false)
    (h : wpAny M A (evalArgs (.type T) true args kws) (fun a s1 => wpAny M A (call (.type T) ([] ++ a.pos) a.kw) Q E s1) E s) : wpAny M A (callWith pos (.type T) [] args kws) Q E s := by
  unfold callWith
  refine wpAny_bind (wpAny_holding (wpAny_mono h (fun a s1 q => wpAny_bind (wpAny_standAt ?_)) fun _ _ z => z))
  simp only [h1, h2, Bool.or_false]
  refine wpAny_bind (wpAny_pure ?_)
  exact wpAny_bind (wpAny_mono q (fun r s2 hr => wpAny_bind (wpAny_holding (wpAny_point (wpAny_pure hr)))) fun _ _ z => z)
end
def IteK (K : PySem.W.Frag) (a : Addr) (k : Int) : It :=
  ⟨fun i H => ∃ (xs : List V) (x : V), SqL K H a xs ∧ xs[i]? = some x, fun i H v H' => ∃ T x, v = .ref T ∧ H T = none ∧ H' = upd H T (.tup [.int (k + (i : Nat)), x]) ∧ ∀ xs, SqL K H a xs → xs[i]? = some x, fun i H => ∃ xs : List V, SqL K H a xs ∧ xs.length = i⟩
theorem turn_enumK {P : Program} {w : World} {K : PySem.W.Frag} {elts : List Expr} {kk : Nat} {tpos : Pos} (a e it : Addr) (k : Int) :
    Turn P w K (.Tuple elts kk tpos) (IteK K a k) [e, it] e (fun i h => (∃ old, IsEnum h e it (k + ((i : Nat) : Int)) old) ∧ h.IsListIter it a i ∧ e ≠ it ∧ e ≠ a ∧ a ≠ it) where
  mem := by simp
  obj := fun i h st b hb => by
    obtain ⟨⟨old, he⟩, ⟨o, ho, hc, hd⟩, _⟩ := st
    rcases List.mem_cons.mp hb with z | z
    · rw [z]
      exact ⟨_, he, fun v q => nomatch q⟩
    · rw [List.mem_singleton.mp z]
      exact ⟨o, ho, fun v q => by rw [hd] at q; cases q⟩
  keep := fun i h h' st kp => by
    obtain ⟨⟨old, he⟩, hi, h1, h2, h3⟩ := st
    exact ⟨⟨old, kp e (by simp) _ he⟩, hi.at fun o q => kp it (by simp) o q, h1, h2, h3⟩
  item := by
    intro X hP hw hK hc i pins s σ H E I hf st hg
    subst hP hw hK
    obtain ⟨⟨old, he⟩, hit, hne, hea, hai⟩ := st
    obtain ⟨xs, x, hq, hx⟩ := hg
    obtain ⟨its, rv, p, hz⟩ := I.list hq
    obtain ⟨u, hu, ru⟩ := rv.get hx
    have hel : e < s.heap.objs.size := Heap.lt_size he
    have hil : it < s.heap.objs.size := by
      obtain ⟨_, q, _⟩ := hit
      exact Heap.lt_size q
    have hil2 : i < its.toArray.size := by
      obtain ⟨z, _⟩ := List.getElem?_eq_some_iff.mp hu
      simpa using z
    have hd1 : X.A.in1.handled = none := I.ok.hd hc
    refine wpAny_pyNext_enum_itemC (Draws.list hd1 it a hai its.toArray) he ⟨hit, p.isList⟩ hil2 hne (by simp [hne, hea]) fun y h' tk hy ho hst' hT hsz hk => ?_
    have ey : y = u := by
      have e1 : its[i]? = some y := by simpa using hy
      rw [hu] at e1
      exact (Option.some.inj e1).symm
    subst ey
    refine ⟨_, rfl, wpAny_letOwnedTupleGo_enum (s := { s with heap := h', toks := tk + 1 }) ho fun h'' he' sb => ?_⟩
    have hT2 : h''.get? s.heap.objs.size = some { cls := .type "tuple", data := .seq #[.int (k + (i : Nat)) tk, y] } := (sb.2 _ (Nat.ne_of_gt hel)).trans hT
    have new : ObjOk X.prog X.w (upd H s.heap.objs.size (.tup [.int (k + (i : Nat)), x])) h'' s.heap.objs.size (.tup [.int (k + (i : Nat)), x]) :=
      ⟨by show 2 ≤ sizeLine; decide, [.int (k + (i : Nat)) tk, y], .cons ⟨_, rfl⟩ (.cons ru .nil), ⟨_, hT2, rfl, _, rfl⟩⟩
    have I1 : Inv X pins σ (upd H s.heap.objs.size (.tup [.int (k + (i : Nat)), x])) { s with heap := h'', toks := tk + 1 } :=
      I.turnedNew (ch := [e, it]) (fun b ob hb q => (sb.2 b (fun z => hb (by simp [z]))).trans (hk b ob (fun z => hb (by simp [z])) (fun z => hb (by simp [z])) q)) hf (Nat.le_refl _) new
    refine ⟨.ref s.heap.objs.size, _, I1, rfl, ⟨_, x, rfl, I.hok.fresh (Nat.le_refl _), rfl, fun ys hy => by rw [I.list_inj hy hq]; exact hx⟩, ⟨⟨y, ?_⟩, hst'.1.at fun o q => (sb.2 it (Ne.symm hne)).trans q, hne, hea, hai⟩, fun b hb => ?_⟩
    · have e1 : k + ((i + 1 : Nat) : Int) = k + (i : Int) + 1 := by omega
      rw [e1]
      exact he'
    · have hb' : b < s.heap.objs.size := by
        rcases List.mem_cons.mp hb with z | z
        · rw [z]
          exact hel
        · rw [List.mem_singleton.mp z]
          exact hil
      rw [upd_ne (Nat.ne_of_lt hb')]
      exact (hf b hb).1
  done := by
    intro X hP hw hK hc i pins s σ H E I hf st hg
    subst hP hw hK
    obtain ⟨⟨old, he⟩, hit, hne, hea, hai⟩ := st
    obtain ⟨xs, hq, hx⟩ := hg
    obtain ⟨its, rv, p, hz⟩ := I.list hq
    obtain ⟨f0, f1, f2, f3, f4, f5⟩ := hf it (by simp)
    have hl := rv.length
    have hd1 : X.A.in1.handled = none := I.ok.hd hc
    have ei : i = its.toArray.size := by
      rw [List.size_toArray]
      omega
    rw [ei] at hit
    exact wpAny_pyNext_enum_endD (Draws.list hd1 it a hai its.toArray) he ⟨hit, p.isList⟩ fun h' eb => ⟨rfl, I.turned (t' := s.toks) (fun b o hb q => eb b o hb q) f0 f1 f3 f4 f5⟩
  self := fun A i s Q E st h => by
    obtain ⟨⟨_, he⟩, _⟩ := st
    exact wpAny_pyIter_enum he h
def iEnumK (K : PySem.W.Frag) (ta tk : TA) : TI := fun σ H R => ta σ H fun vs H1 => tk σ H1 fun ks H2 => ∃ (a : Addr) (xs : List V) (k : Int), vs = [.ref a] ∧ ks = [.int k] ∧ SqL K H2 a xs ∧ (-(2 ^ 63) ≤ k ∧ k < 2 ^ 63) ∧ R (IteK K a k) H2
theorem bo_enumerate : bootBuiltins "enumerate" = some (.type "enumerate") := by decide +kernel
theorem pi_enumK {X : Cx} {e ke : Expr} {ta tk : TA} {p pos tpos kpos : Pos} {elts : List Expr} {kk : Nat} (hm : X.mg "enumerate" = none) (ha : PA X [e] ta) (hk : PK X [⟨some "start", ke, kpos⟩] tk) (hg : Gl X "enumerate" := by rfl)
    (hs : starEach [e] X.env = (false, eval e X.env) :: starEach [] X.env := by rfl) :
    PI X (.Tuple elts kk tpos) (.Call (.Name "enumerate" p) [e] [⟨some "start", ke, kpos⟩] pos) (iEnumK X.K ta tk) := by
  refine ⟨fun pins s σ H R I h => ?_⟩
  have h1 : (backTo pos (starEach [e] X.env)).any (·.1) = false := by
    rw [hs]
    rfl
  refine wpAny_Call_Name_kw (ld_blt I hg hm bo_enumerate (with_type_kw h1 rfl (evalArgs_kw2 rfl (thn (ha.run pos pins s σ H _ I h) fun us s1 ⟨vs, H1, I1, r1, q1⟩ => thn (hk.run pos pins s1 σ H1 _ I1 q1) fun ws s2 ⟨zs, H2, I2, r2, q2⟩ => ?_) hs)))
  obtain ⟨a, xs, k, ex, ek, hq, ⟨k0, k1⟩, q⟩ := q2
  subst ex ek
  cases r1 with
  | cons r rr =>
    cases rr
    cases r
    cases r2 with
    | cons t tt =>
      cases tt
      obtain ⟨tk, rfl⟩ := t
      obtain ⟨its, rv, p', hz⟩ := I2.list hq
      show wpAny _ _ (call (.type "enumerate") [.ref a] [(Str.ofString "start", .int k tk)]) _ _ _
      have hlt : a < s2.heap.objs.size := p'.lt
      refine enum_begins_start (begins_list a its.toArray) p'.isList k0 k1 fun h' he hit hsz hkp => wpAny_pyIter_enum he ?_
      have I3 : Inv X pins σ H2 { s2 with heap := h' } := I2.kept (t' := s2.toks) hkp
      refine ⟨s2.heap.objs.size + 1, [s2.heap.objs.size + 1, s2.heap.objs.size], _, _, H2, rfl, I3, turn_enumK a (s2.heap.objs.size + 1) s2.heap.objs.size k, ⟨⟨.none, ?_⟩, ⟨_, hit, rfl, rfl⟩, Nat.succ_ne_self _, ?_, Nat.ne_of_lt hlt⟩, fun b hb => ?_, q⟩
      · have e1 : k + ((0 : Nat) : Int) = k := by omega
        rw [e1]
        exact he
      · exact Nat.ne_of_gt (Nat.lt_succ_of_lt hlt)
      · have hle : s2.heap.objs.size ≤ b := by
          rcases List.mem_cons.mp hb with z | z
          · rw [z]
            exact Nat.le_add_right _ _
          · rw [List.mem_singleton.mp z]
            exact Nat.le_refl _
        exact I2.fpOk hle (I2.hok.fresh hle)
/-! ## xs.extend(t), t a tuple -/
set_option maxHeartbeats 4000000 in
theorem meets_extend_tup (l : Addr) (items : Array Value) (n : Nat) (b : Addr) (items2 : Array Value) (n2 : Nat) (dd : Option Addr) (sl : Array (Option Value)) (h0 : ¬(!items.isEmpty && Builtin.List.listTooLong (items.size + items2.size)) = true) (h1 : items.size ≤ sizeLine) (h2 : items.size + items2.size ≤ sizeLine + 1) :
    Meets (Builtin.«list.extend» ⟨[.ref l, .ref b], []⟩) (fun _ R s => s.heap.get? l = some { cls := .type "list", dict := none, data := .seq items n, slots := #[] } ∧ s.heap.get? b = some { cls := .type "tuple", dict := dd, data := .seq items2 n2, slots := sl } ∧
      R (.ok (.ret Value.none)) { s with heap := s.heap.update l (Obj.mapSeq fun x => x ++ items2), toks := s.toks }) :=
  .of_wp fun prog w A R s h => by
    obtain ⟨hp, g, d, tk, os⟩ := s
    obtain ⟨hl, hb, h⟩ := h
    have f1 := AutoSeq1.idx_int
    have f2 := AutoSeq1.sub_tuple_tuple
    have f3 := AutoSeq1.sub_list_list
    have f4 := AutoSeq1.sub_tuple_list
    have f5 := AutoSeq1.sub_list_tuple
    have hz : (items ++ items2).size ≤ sizeLine + 1 := by
      rw [Array.size_append]
      exact h2
    wp_walk using (wpAny_updateSeq hl rfl (hz := h1) (_hz' := hz)), AutoSeq1.wpAny_loadPart' hl, AutoSeq1.wpAny_loadPart' hb
    exact ⟨_, rfl, h⟩
def rExtT (K : PySem.W.Frag) : V → List V → Hp → VK → Prop := fun x vs H Q => ∃ l b xs zs, x = .ref l ∧ vs = [.ref b] ∧ H l = some (.lst xs) ∧ SqT K H b zs ∧ xs.length + zs.length ≤ sizeLine ∧ Q .non (upd H l (.lst (xs ++ zs)))
theorem mt_extT {X : Cx} : MtM X "list.extend" (rExtT X.K) := by
  intro pins s σ H x vs v us Q I rx rv h
  obtain ⟨l, b, xs, zs, rfl, rfl, hH, hB, hz, q⟩ := h
  cases rx
  obtain ⟨u, rfl, ru⟩ := rv.one
  cases ru
  obtain ⟨z, its, n, r, hl, e⟩ := I.lstM hH
  obtain ⟨its2, r2, ⟨⟨cls, dd, data, sl⟩, e2, hc2, n2, hd2⟩, z2⟩ := I.tuple hB
  simp only at hc2 hd2
  subst hc2 hd2
  have hl2 := r2.length
  have hsz : its.toArray.size + its2.toArray.size ≤ sizeLine := by
    rw [List.size_toArray, List.size_toArray]
    omega
  have hlong : ¬ (!its.toArray.isEmpty && Builtin.List.listTooLong (its.toArray.size + its2.toArray.size)) = true := by
    rw [notLongL hsz, Bool.and_false]
    exact Bool.false_ne_true
  refine call_meets F.slot_list_extend ⟨_, e, rfl⟩ F.entry_list_extend (F.args_list_extend_2 _ _)
    (meets_extend_tup l its.toArray n b its2.toArray n2 dd sl hlong (by rw [List.size_toArray]; omega) (by omega)) ⟨e, e2, ?_⟩
  refine ⟨.non, _, I.lset (its' := its ++ its2) hH e (by simp) (r.append r2) ?_, rfl, q⟩
  rw [List.length_append]
  omega
/-! ## xs.remove(d), d data that is there -/
def rRemD (K : PySem.W.Frag) : V → List V → Hp → VK → Prop := fun x vs H Q => ∃ l xs y d ds j, x = .ref l ∧ vs = [y] ∧ H l = some (.lst xs) ∧ DpAll K H xs ds ∧ Dp K H y d ∧ PyData.plainAll ds = true ∧ d.plain = true ∧ PyData.depthAll ds ≤ 64 ∧
  SeqAt.dataPlace ds d = some j ∧ Q .non (upd H l (.lst (xs.eraseIdx j)))
theorem vals_erase : ∀ {xs : List V} {us : List Value} (j : Nat), Vals xs us → Vals (xs.eraseIdx j) (us.eraseIdx j)
  | _, _, _, .nil => .nil
  | _, _, 0, .cons _ t => t
  | _, _, j + 1, .cons h t => .cons h (vals_erase j t)
theorem mt_remD {X : Cx} (hu : X.A.units + 66 < cLine) : MtM X "list.remove" (rRemD X.K) := by
  intro pins s σ H x vs v us Q I rx rv h
  obtain ⟨l, xs, y, d, ds, j, rfl, rfl, hH, hD, hy, p1, p2, hdep, hp, q⟩ := h
  cases rx
  obtain ⟨u, rfl, ru⟩ := rv.one
  obtain ⟨z, its, n, r, hl, e⟩ := I.lstM hH
  obtain ⟨as, h1⟩ := Dp.readsAll I ds xs its hD r
  obtain ⟨bs, h2⟩ := Dp.reads I d y u hy ru
  refine SeqAt.remove_list_data (vs := its.toArray) ⟨_, e, rfl, n, rfl⟩ (show ReadsAll s.heap its.toArray.toList ds as from h1) h2 p1 p2 (by omega) hp (by rw [List.size_toArray]; omega) ?_
  have hj : j < its.length := by
    obtain ⟨hj, _⟩ := SeqAt.hit_at (vs := its.toArray) (show ReadsAll s.heap its.toArray.toList ds as from h1) p1 hp
    simpa using hj
  refine ⟨.non, _, I.lset (its' := its.eraseIdx j) hH e ?_ (vals_erase j r) ?_, rfl, q⟩
  · simp [Array.eraseIdxIfInBounds, hj]
  · exact Nat.le_trans (List.length_eraseIdx_le xs j) z
end Mw
namespace Mw
open PySem PySem.Spec PyProof.Rows L2
open Dx (Fact Facts Rule Atom Fill)
/-! ## the text by its places -/
def top (i : Nat) : Stmt := PySem.Challenge.pw_middlerules_s01_answers.main.body.getD i (.Pass ⟨0, 0, 0, 0⟩)
def meth (i j : Nat) : Stmt := L2.inClass (top i) j
abbrev s_is_table_of : Stmt := top 10
abbrev s_triples : Stmt := top 11
abbrev s_is_atom : Stmt := top 12
abbrev s_are_atoms : Stmt := top 13
abbrev s_body_of : Stmt := top 14
abbrev s_head_of : Stmt := top 15
abbrev s_variables_of : Stmt := top 16
abbrev s_existential_variables : Stmt := top 17
abbrev s_composed_rules : Stmt := top 21
abbrev s_choices : Stmt := top 22
abbrev s_options : Stmt := top 23
abbrev s_composed_rule : Stmt := top 24
abbrev s_names_of_variables : Stmt := top 25
abbrev s_made_equal : Stmt := top 26
abbrev s_copied : Stmt := top 27
abbrev s_named_atom : Stmt := top 28
abbrev s_numbered_atoms : Stmt := top 29
abbrev s_is_source_fact : Stmt := top 35
abbrev s_is_end_fact : Stmt := top 36
abbrev s_is_given_known : Stmt := top 37
abbrev s_is_given_value : Stmt := top 38
abbrev s_are_end_facts : Stmt := top 39
abbrev s_set_of_facts : Stmt := top 40
abbrev s_numbers_of : Stmt := top 41
abbrev s_facts_by_table : Stmt := top 43
abbrev s_matches : Stmt := top 44
abbrev s_with_values_of : Stmt := top 45
abbrev s_first_lack : Stmt := top 46
abbrev s_first_match_without_head : Stmt := top 47
abbrev s_computed_facts : Stmt := top 48
abbrev s_with_unknown_values : Stmt := top 49
abbrev s_index_when_added : Stmt := top 59
abbrev s_answers : Stmt := top 73
abbrev s_answer : Stmt := top 74
abbrev s_answer_to_rule : Stmt := top 75
abbrev s_answer_to_fact : Stmt := top 76
abbrev s_Reader_init : Stmt := meth 1 0
abbrev s_Reader_is_done : Stmt := meth 1 1
abbrev s_Reader_number : Stmt := meth 1 2
abbrev s_Reader_row : Stmt := meth 1 3
abbrev s_Service_init : Stmt := meth 58 0
abbrev s_Service_begins : Stmt := meth 58 1
abbrev s_Service_one : Stmt := meth 58 2
abbrev s_Service_two : Stmt := meth 58 3
abbrev s_Service_fact : Stmt := meth 58 4
abbrev s_Service_gone : Stmt := meth 58 5
abbrev s_Service_composed : Stmt := meth 58 6
abbrev s_Service_middle : Stmt := meth 58 7
abbrev s_Service_end : Stmt := meth 58 8
abbrev s_Service_direct : Stmt := meth 58 9
abbrev s_Service_goes : Stmt := meth 58 10
abbrev s_Service_lacks : Stmt := meth 58 11
abbrev s_Service_rules_without_middle : Stmt := meth 58 12
abbrev s_Service_facts_of_middle : Stmt := meth 58 13
/-- a def of the text under its name, without defaults -/
def Df (K : PySem.W.Frag) (mg : Str → Option Value) (x : Str) (st : Stmt) : Prop := ∃ f fd, C8.Def K mg x st f fd ∧ fd.defaults = .none
/-- a method of the class at C -/
def Mt (K : PySem.W.Frag) (C : Addr) (m qual : Str) (st : Stmt) : Prop := ∃ f fd, Meth K C m f ∧ C8.Fun K m qual st f fd ∧ fd.defaults = .none
def Mi (K : PySem.W.Frag) (C : Addr) (qual : Str) (st : Stmt) : Prop := ∃ f fd, Mk K C f ∧ C8.Fun K "__init__" qual st f fd ∧ fd.defaults = .none
structure Top (K : PySem.W.Frag) (mg : Str → Option Value) (C_Reader C_Service : Addr) : Prop where
  b_all : mg "all" = none
  b_dict : mg "dict" = none
  b_enumerate : mg "enumerate" = none
  b_len : mg "len" = none
  b_list : mg "list" = none
  b_range : mg "range" = none
  b_set : mg "set" = none
  b_sorted : mg "sorted" = none
  b_tuple : mg "tuple" = none
  c_SOURCE : ∃ t, mg "SOURCE" = some (.int 0 t)
  c_MIDDLE_rules : ∃ t, mg "MIDDLE_rules" = some (.int 1 t)
  c_END_rules : ∃ t, mg "END_rules" = some (.int 2 t)
  c_TABLES_OF_A_PLACE : ∃ t, mg "TABLES_OF_A_PLACE" = some (.int 2 t)
  c_TRIPLE : ∃ t, mg "TRIPLE" = some (.int 3 t)
  c_MOST_ATOMS : ∃ t, mg "MOST_ATOMS" = some (.int 2 t)
  c_VARIABLES : ∃ t, mg "VARIABLES" = some (.int 5 t)
  c_SECOND_RULE : ∃ t, mg "SECOND_RULE" = some (.int 0 t)
  c_FIRST_COPY : ∃ t, mg "FIRST_COPY" = some (.int 1 t)
  c_GIVEN_KNOWN_VALUES : ∃ t, mg "GIVEN_KNOWN_VALUES" = some (.int 20 t)
  c_FIRST_UNKNOWN : ∃ t, mg "FIRST_UNKNOWN" = some (.int 100 t)
  c_LAST_GIVEN_UNKNOWN : ∃ t, mg "LAST_GIVEN_UNKNOWN" = some (.int 199 t)
  c_MOST_GIVEN_FACTS : ∃ t, mg "MOST_GIVEN_FACTS" = some (.int 6 t)
  c_MOST_RULES : ∃ t, mg "MOST_RULES" = some (.int 2 t)
  c_MOST_FACTS : ∃ t, mg "MOST_FACTS" = some (.int 5 t)
  c_INVALID : ∃ t, mg "INVALID" = some (.int 1 t)
  c_NOT_THERE : ∃ t, mg "NOT_THERE" = some (.int 2 t)
  c_EXISTS : ∃ t, mg "EXISTS" = some (.int 4 t)
  c_EXISTENTIAL : ∃ t, mg "EXISTENTIAL" = some (.int 5 t)
  c_FULL : ∃ t, mg "FULL" = some (.int 7 t)
  c_BEGINS : ∃ t, mg "BEGINS" = some (.int 0 t)
  c_ONE : ∃ t, mg "ONE" = some (.int 1 t)
  c_TWO : ∃ t, mg "TWO" = some (.int 2 t)
  c_FACT : ∃ t, mg "FACT" = some (.int 3 t)
  c_GONE : ∃ t, mg "GONE" = some (.int 4 t)
  c_COMPOSED : ∃ t, mg "COMPOSED" = some (.int 5 t)
  c_MIDDLE_steps : ∃ t, mg "MIDDLE_steps" = some (.int 6 t)
  c_END_steps : ∃ t, mg "END_steps" = some (.int 7 t)
  c_DIRECT : ∃ t, mg "DIRECT" = some (.int 8 t)
  c_GOES : ∃ t, mg "GOES" = some (.int 9 t)
  c_LACKS : ∃ t, mg "LACKS" = some (.int 10 t)
  d_is_table_of : Df K mg "is_table_of" s_is_table_of
  d_triples : Df K mg "triples" s_triples
  d_is_atom : Df K mg "is_atom" s_is_atom
  d_are_atoms : Df K mg "are_atoms" s_are_atoms
  d_body_of : Df K mg "body_of" s_body_of
  d_head_of : Df K mg "head_of" s_head_of
  d_variables_of : Df K mg "variables_of" s_variables_of
  d_existential_variables : Df K mg "existential_variables" s_existential_variables
  d_composed_rules : Df K mg "composed_rules" s_composed_rules
  d_choices : Df K mg "choices" s_choices
  d_options : Df K mg "options" s_options
  d_composed_rule : Df K mg "composed_rule" s_composed_rule
  d_names_of_variables : Df K mg "names_of_variables" s_names_of_variables
  d_made_equal : Df K mg "made_equal" s_made_equal
  d_copied : Df K mg "copied" s_copied
  d_named_atom : Df K mg "named_atom" s_named_atom
  d_numbered_atoms : Df K mg "numbered_atoms" s_numbered_atoms
  d_is_source_fact : Df K mg "is_source_fact" s_is_source_fact
  d_is_end_fact : Df K mg "is_end_fact" s_is_end_fact
  d_is_given_known : Df K mg "is_given_known" s_is_given_known
  d_is_given_value : Df K mg "is_given_value" s_is_given_value
  d_are_end_facts : Df K mg "are_end_facts" s_are_end_facts
  d_set_of_facts : Df K mg "set_of_facts" s_set_of_facts
  d_numbers_of : Df K mg "numbers_of" s_numbers_of
  d_facts_by_table : Df K mg "facts_by_table" s_facts_by_table
  d_matches : Df K mg "matches" s_matches
  d_with_values_of : Df K mg "with_values_of" s_with_values_of
  d_first_lack : Df K mg "first_lack" s_first_lack
  d_first_match_without_head : Df K mg "first_match_without_head" s_first_match_without_head
  d_computed_facts : Df K mg "computed_facts" s_computed_facts
  d_with_unknown_values : Df K mg "with_unknown_values" s_with_unknown_values
  d_index_when_added : Df K mg "index_when_added" s_index_when_added
  d_answers : Df K mg "answers" s_answers
  d_answer : Df K mg "answer" s_answer
  d_answer_to_rule : Df K mg "answer_to_rule" s_answer_to_rule
  d_answer_to_fact : Df K mg "answer_to_fact" s_answer_to_fact
  k_Reader : Cls K C_Reader
  g_Reader : mg "Reader" = some (.ref C_Reader)
  a_Reader_calls : NoAttr K C_Reader "calls"
  a_Reader_position : NoAttr K C_Reader "position"
  m_Reader_init : Mi K C_Reader "Reader.__init__" s_Reader_init
  m_Reader_is_done : Mt K C_Reader "is_done" "Reader.is_done" s_Reader_is_done
  m_Reader_number : Mt K C_Reader "number" "Reader.number" s_Reader_number
  m_Reader_row : Mt K C_Reader "row" "Reader.row" s_Reader_row
  k_Service : Cls K C_Service
  g_Service : mg "Service" = some (.ref C_Service)
  a_Service_first_rules : NoAttr K C_Service "first_rules"
  a_Service_second_rules : NoAttr K C_Service "second_rules"
  a_Service_source_facts : NoAttr K C_Service "source_facts"
  m_Service_init : Mi K C_Service "Service.__init__" s_Service_init
  m_Service_begins : Mt K C_Service "begins" "Service.begins" s_Service_begins
  m_Service_one : Mt K C_Service "one" "Service.one" s_Service_one
  m_Service_two : Mt K C_Service "two" "Service.two" s_Service_two
  m_Service_fact : Mt K C_Service "fact" "Service.fact" s_Service_fact
  m_Service_gone : Mt K C_Service "gone" "Service.gone" s_Service_gone
  m_Service_composed : Mt K C_Service "composed" "Service.composed" s_Service_composed
  m_Service_middle : Mt K C_Service "middle" "Service.middle" s_Service_middle
  m_Service_end : Mt K C_Service "end" "Service.end" s_Service_end
  m_Service_direct : Mt K C_Service "direct" "Service.direct" s_Service_direct
  m_Service_goes : Mt K C_Service "goes" "Service.goes" s_Service_goes
  m_Service_lacks : Mt K C_Service "lacks" "Service.lacks" s_Service_lacks
  m_Service_rules_without_middle : Mt K C_Service "rules_without_middle" "Service.rules_without_middle" s_Service_rules_without_middle
  m_Service_facts_of_middle : Mt K C_Service "facts_of_middle" "Service.facts_of_middle" s_Service_facts_of_middle
section
variable {P : Program} {w : World} {K : PySem.W.Frag} {mg : Str → Option Value} {base : Heap}
/-- how a def's own arguments bind -/
def BindOk (x qual : Str) (st : Stmt) (ps : List Str) : Prop := ∀ (kV doc pm : Value) (an : Option Addr) (cdv ct : Value) (us : List Value), us.length = ps.length → bindArgs (PySem.W.fnOf x qual (C8.fnArgs st) (C8.fnBody st) (C8.fnScope st) .none kV doc pm an cdv ct) ⟨us, []⟩ = pure (ps.zip us)
theorem cal_of {x : Str} {st : Stmt} {N ps : List Str} {k : Nat} {sp : Sp} (d : Df K mg x st) (S : FnScope N ps (C8.fnScope st)) (hb : BindOk x x st ps)
    (len : ∀ vs H Q E, sp vs H Q E → vs.length = ps.length)
    (hbody : ∀ (f : Addr) (cdv : Value) (A : Around) (outer : List Env) (s : Shared) (H : Hp) (vs : List V) (Q : VK) (E : XK), Room k (A.deeper (envOfC x (C8.fnScope st) s.heap.objs.size f cdv)) → sp vs H Q E →
      ∃ t, PSs (cxOf C8.CX0 P w K mg base N x (C8.fnScope st) f cdv A outer s H E).nox (C8.fnBody st) t ∧ t { nx := fun _ H' => Q .non H', rt := Q } (start N vs) H) : C8.Cal P w K mg base (k + 1) x sp [] := by
  obtain ⟨f, fd, D, df⟩ := d
  exact C8.cal0 D (C8.Fun.binds D.fn df hb) .nil S len (hbody f)
theorem met_of {C : Addr} {m qual : Str} {st : Stmt} {N ps : List Str} {k : Nat} {sp : Sp} (c : Cls K C) (d : Mt K C m qual st) (S : FnScope N ps (C8.fnScope st)) (hb : BindOk m qual st ps)
    (len : ∀ vs H Q E, sp vs H Q E → vs.length = ps.length)
    (hbody : ∀ (f : Addr) (cdv : Value) (A : Around) (outer : List Env) (s : Shared) (H : Hp) (vs : List V) (Q : VK) (E : XK), Room k (A.deeper (envOfC qual (C8.fnScope st) s.heap.objs.size f cdv)) → sp vs H Q E →
      ∃ t, PSs (cxOf C8.CX0 P w K mg base N qual (C8.fnScope st) f cdv A outer s H E).nox (C8.fnBody st) t ∧ t { nx := fun _ H' => Q .non H', rt := Q } (start N vs) H) : C8.Met P w K mg base (k + 1) C m sp [] := by
  obtain ⟨f, fd, me, F, df⟩ := d
  exact C8.met0 c me F (C8.Fun.binds F df hb) S len (hbody f)
theorem mak_of {C : Addr} {x qual : Str} {st : Stmt} {N ps : List Str} {k : Nat} {sp : Sp} (hm : mg x = some (.ref C)) (d : Mi K C qual st) (S : FnScope N ps (C8.fnScope st)) (hb : BindOk "__init__" qual st ps)
    (len : ∀ vs H Q E, sp vs H Q E → vs.length = ps.length)
    (hbody : ∀ (f : Addr) (cdv : Value) (A : Around) (outer : List Env) (s : Shared) (H : Hp) (vs : List V) (Q : VK) (E : XK), Room k (A.deeper (envOfC qual (C8.fnScope st) s.heap.objs.size f cdv)) → sp vs H Q E →
      ∃ t, PSs (cxOf C8.CX0 P w K mg base N qual (C8.fnScope st) f cdv A outer s H E).nox (C8.fnBody st) t ∧ t { nx := fun _ H' => Q .non H', rt := Q } (start N vs) H) : C8.Mak P w K mg base (k + 1) x C sp [] := by
  obtain ⟨f, fd, me, F, df⟩ := d
  exact C8.mak0 me hm F (C8.Fun.binds F df hb) .nil S len (hbody f)
end
/-! ## short rules -/
theorem pgI {X : Cx} {x : Str} {pos : Pos} {i : Int} {t : Tok} (hm : X.mg x = some (.int i t)) (hg : Gl X x := by rfl) (hd : (x == ("__debug__" : Str)) = false := by decide) : PE X (.Name x pos) (tC (.int i)) := pe_glob (v := .int i) hg hm ⟨t, rfl⟩ hd
theorem bo_tuple : bootBuiltins "tuple" = some (.type "tuple") := by decide +kernel
theorem bo_list : bootBuiltins "list" = some (.type "list") := by decide +kernel
theorem bo_all : bootBuiltins "all" = some (.builtin "all") := by decide +kernel
theorem bo_len : bootBuiltins "len" = some (.builtin "len") := by decide +kernel
def rTupOf (K : PySem.W.Frag) : List V → Hp → VK → Prop := fun xs H Q => ∃ p ys, xs = [.ref p] ∧ ((SqL K H p ys ∧ ∀ l, H l = none → Q (.ref l) (upd H l (.tup ys))) ∨ (SqT K H p ys ∧ Q (.ref p) H))
def rLen (K : PySem.W.Frag) : List V → Hp → VK → Prop := fun xs H Q => ∃ p ys, xs = [.ref p] ∧ (SqL K H p ys ∨ SqT K H p ys) ∧ Q (.int ys.length) H
section
variable {X : Cx} {e : Expr} {te : TE} {p pos : Pos}
/-- tuple(e), len(e), all(e): K is X's own -/
theorem pe_tuple (K : PySem.W.Frag) (hK : X.K = K) (hm : X.mg "tuple" = none) (ha : PE X e te) (hg : Gl X "tuple" := by rfl) (hs : starEach [e] X.env = (false, eval e X.env) :: starEach [] X.env := by rfl) :
    PE X (.Call (.Name "tuple" p) [e] [] pos) (tCB (rTupOf K) (tCons te tNil)) := by
  subst hK
  exact pe_callTy (T := "tuple") (r := rTupOf X.K) call_tuple_of hg hm bo_tuple (pa_cons ha pa_nil hs) (he := hs)
theorem pe_len (K : PySem.W.Frag) (hK : X.K = K) (hm : X.mg "len" = none) (ha : PE X e te) (hg : Gl X "len" := by rfl) (hs : starEach [e] X.env = (false, eval e X.env) :: starEach [] X.env := by rfl) :
    PE X (.Call (.Name "len" p) [e] [] pos) (tCB (rLen K) (tCons te tNil)) := by
  subst hK
  exact pe_callB (id := "len") (r := rLen X.K) call_len_seq hg hm bo_len (pa_cons ha pa_nil hs) (he := hs)
theorem pe_all (K : PySem.W.Frag) (hK : X.K = K) (hc : X.calm = true) (hm : X.mg "all" = none) (ha : PE X e te) (hg : Gl X "all" := by rfl) (hs : starEach [e] X.env = (false, eval e X.env) :: starEach [] X.env := by rfl) :
    PE X (.Call (.Name "all" p) [e] [] pos) (tCB (rAll K) (tCons te tNil)) := by
  subst hK
  exact pe_callB (id := "all") (r := rAll X.K) (cr_all hc) hg hm bo_all (pa_cons ha pa_nil hs) (he := hs)
end
section
variable {X : Cx} {T : String} {id : String} {name : Str} {o e : Expr} {es : List Expr} {to te : TE} {t : TA} {apos cpos : Pos} {r : V → List V → Hp → VK → Prop}
/-- a built-in's method, K said -/
theorem pe_bmK (K : PySem.W.Frag) (hK : X.K = K) (pa : PlainAttrs T) (slot : Slot T name id) (hty : typeOf (.builtin id) = pure (.type "method_descriptor")) (hm : MtR X id r) (ho : PE X o to) (ha : PA X (e :: es) t)
    (hb : attributeBase o name X.env (eval o X.env) = eval o X.env := by rfl)
    (hf : ((backTo cpos (starEach (e :: es) X.env)).all (fun x => !x.1) && (backToKw cpos (keywordEach [] X.env)).all (fun x => x.1.isSome) && decide ((e :: es).length + ([] : List Keyword).length + (if ([] : List Keyword).isEmpty then 0 else 1) < 30)) = true := by rfl)
    (hl : (apos.endLine == cpos.line) = true := by rfl) (hs : starEach (e :: es) X.env = (false, eval e X.env) :: starEach es X.env := by rfl) (hp : (backTo cpos (starEach es X.env)).any (·.1) = false := by rfl) :
    PE X (.Call (.Attribute o name apos) (e :: es) [] cpos) (tBM K T r to t) := by
  subst hK
  exact pe_bm pa slot hty hm ho ha hb hf hl hs hp
end
/-- a list of natural numbers as values -/
def nV (ns : List Nat) : List V := ns.map fun n : Nat => V.int (n : Int)
theorem nV_get {ns : List Nat} {i : Nat} {n : Nat} (h : ns[i]? = some n) : (nV ns)[i]? = some (.int (n : Int)) := by
  unfold nV
  rw [List.getElem?_map, h]
  rfl
theorem of_nV {ns : List Nat} {i : Nat} {x : V} (h : (nV ns)[i]? = some x) : ∃ n, ns[i]? = some n ∧ x = .int (n : Int) := by
  unfold nV at h
  rw [List.getElem?_map] at h
  cases e : ns[i]? with
  | none =>
    rw [e] at h
    cases h
  | some n =>
    rw [e] at h
    exact ⟨n, rfl, (Option.some.inj h).symm⟩
theorem nV_len (ns : List Nat) : (nV ns).length = ns.length := by simp [nV]
theorem nV_flat (ns : List Nat) : (nV ns).all flatV = true := by
  unfold nV
  rw [List.all_map, List.all_eq_true]
  intro n _
  rfl
theorem int_dec (a b : Nat) : decide (V.int (a : Int) = V.int (b : Int)) = decide (a = b) := by
  by_cases h : a = b
  · subst h
    simp
  · rw [decide_eq_false h]
    exact decide_eq_false fun q => h (by injection q with q; omega)
theorem nat_lt (a b : Nat) : decide ((a : Int) < (b : Int)) = decide (a < b) := by
  by_cases h : a < b
  · rw [decide_eq_true h]
    exact decide_eq_true (by omega)
  · rw [decide_eq_false h]
    exact decide_eq_false (by omega)
theorem rg3 : ∀ n : Nat, n < 25 → RgC 0 (n : Int) 3 ((n + 2) / 3) := by
  unfold RgC
  decide +kernel
theorem cut_nat (xs : List V) (i j : Nat) (hj : j ≤ xs.length) : cutV xs (some (i : Int)) (some (j : Int)) = (xs.drop i).take (j - i) := by
  unfold cutV
  rw [HT.sIx_nat, HT.sIx_nat]
  by_cases h : i ≤ xs.length
  · rw [Nat.min_eq_left h, Nat.min_eq_left hj]
  · have e1 : xs.drop i = [] := List.drop_eq_nil_of_le (by omega)
    have e2 : xs.drop (min i xs.length) = [] := List.drop_eq_nil_of_le (by omega)
    rw [e1, e2, List.take_nil, List.take_nil]
/-- a comprehension over any walk of n turns that yields f i at turn i and leaves the heap -/
theorem lc_nat {J : It} {n : Nat} {f : Nat → V} {g : TG} {tt : TT} {te : TE} {vs : List Nat} {σ : L2.St} {H1 : Hp} {D : Addr} {Qd : Hp → Prop}
    (jg : ∀ i H, i < n → J.go i H) (jy : ∀ i H x H', J.yld i H x H' → H' = H ∧ x = f i) (js : ∀ i H, n ≤ i → J.stop i H)
    (Pv : Nat → Hp → Prop) (h0 : Pv 0 (upd H1 D (.lst [])))
    (hs : ∀ i H, i < n → Pv i H → g (f i) (wipe σ vs) H fun σ2 H2 => wipe σ2 vs = wipe σ vs ∧ tt σ2 H2 fun b H3 =>
      if b = true then te σ2 H3 fun y H4 => ∃ acc, H4 D = some (.lst acc) ∧ acc.length < sizeLine ∧ Pv (i + 1) (upd H4 D (.lst (acc ++ [y]))) else Pv (i + 1) H3) (hd : ∀ H, Pv n H → Qd H) :
    ∃ W : Nat → Nat → Hp → Prop, (∃ m, W 0 m (upd H1 D (.lst []))) ∧ ∀ i m H, W i m H →
      (J.stop i H ∧ Qd H) ∨ (J.go i H ∧ ∃ Nx : Hp → Prop, (∀ H', Nx H' → ∃ m', m' < m ∧ W (i + 1) m' H') ∧ ∀ x H', J.yld i H x H' → g x (wipe σ vs) H' fun σ2 H2 => wipe σ2 vs = wipe σ vs ∧ tt σ2 H2 fun b H3 =>
        if b = true then te σ2 H3 fun y H4 => ∃ acc, H4 D = some (.lst acc) ∧ acc.length < sizeLine ∧ Nx (upd H4 D (.lst (acc ++ [y]))) else Nx H3) := by
  refine ⟨fun i m H => m = n - i ∧ i ≤ n ∧ Pv i H, ⟨n, by simp, Nat.zero_le _, h0⟩, ?_⟩
  rintro i m H ⟨rfl, hi, p⟩
  by_cases hlt : i < n
  · refine .inr ⟨jg i H hlt, Pv (i + 1), fun H' p' => ⟨n - (i + 1), by omega, rfl, hlt, p'⟩, fun x H' y => ?_⟩
    obtain ⟨e, y'⟩ := jy i H x H' y
    subst e y'
    exact hs i _ hlt p
  · have e : i = n := by omega
    subst e
    exact .inl ⟨js i H (Nat.le_refl _), hd H p⟩
theorem line_small {n : Nat} (h : n ≤ 100000) : n < sizeLine := Nat.lt_of_le_of_lt h (by decide)
theorem take_more {α : Type} {l : List α} {i : Nat} {x : α} (h : l[i]? = some x) : l.take (i + 1) = l.take i ++ [x] := by
  rw [List.take_succ, h]
  rfl
theorem eqV_int (a b : Int) : eqV (.int a) (.int b) = decide (a = b) := by
  show ((a == b : Bool)) = _
  exact (Bool.beq_eq_decide_eq a b)
theorem in_nat (n : Nat) (ns : List Nat) : inV (.int (n : Int)) (nV ns) = ns.contains n := by
  unfold inV nV
  rw [List.any_map]
  induction ns with
  | nil => rfl
  | cons b l ih =>
    rw [List.any_cons, ih, List.contains_cons]
    congr 1
    show eqV (.int (b : Int)) (.int (n : Int)) = _
    rw [eqV_int]
    by_cases e : b = n
    · subst e
      simp
    · rw [decide_eq_false (by omega)]
      exact (beq_eq_false_iff_ne.mpr (fun q => e q.symm)).symm
theorem ix_at {xs : List V} {i : Nat} {v : V} (h : xs[i]? = some v) : atI xs (i : Int) = some v := atI_nat h
end Mw
namespace Mw
open PySem PySem.Spec PyProof.Rows L2
open Dx (Fact Facts Rule Atom Fill)
section
variable {P : Program} {w : World} {K : PySem.W.Frag} {mg : Str → Option Value} {base : Heap} {CR CS : Addr}
/-! ## rules.py -/
def spIsTable : Sp := fun vs H Q _ => ∃ t p : Nat, vs = [.int t, .int p] ∧ Q (.bl (decide (t / 2 = p))) H
theorem sc_is_table_of : FnScope ["table", "place"] ["table", "place"] (C8.fnScope s_is_table_of) := C8.fnScope_by (by decide +kernel)
theorem ok_is_table_of (T : Top K mg CR CS) : C8.Cal P w K mg base 1 "is_table_of" spIsTable [] := by
  refine cal_of T.d_is_table_of sc_is_table_of (fun _ _ _ _ _ _ us hl => match us, hl with | [_, _], _ => rfl) (fun vs H Q E h => by obtain ⟨t, p, rfl, _⟩ := h; rfl) (fun f cdv A outer s H vs Q E hr h => ?_)
  obtain ⟨t, p, rfl, h⟩ := h
  obtain ⟨tk, m1⟩ := T.c_TABLES_OF_A_PLACE
  refine ⟨_, pss_one (ps_ret (pe_cmpR op_eq (pe_op op_fdiv (pv 0) (pgI m1)) (pv 1) (nomark _))), ?_⟩
  refine ⟨_, rfl, _, _, rfl, rfl, ⟨by decide, by decide⟩, _, rfl, rfl, ?_⟩
  have e : decide (V.int ((t : Int) / 2) = V.int (p : Int)) = decide (t / 2 = p) := int_dec (t / 2) p
  rw [e]
  exact h
def spTriples (K : PySem.W.Frag) : Sp := fun vs H Q _ => ∃ (a : Addr) (ns : List Nat), vs = [.ref a] ∧ SqL K H a (nV ns) ∧ ns.length % 3 = 0 ∧ ns.length ≤ 24 ∧
  ∀ H' v, Same H H' → AtomsAt H' v (triplesM ns) → Q v H'
theorem sc_triples : FnScope ["numbers", "start"] ["numbers"] (C8.fnScope s_triples) := C8.fnScope_by (by decide +kernel)
theorem ok_triples (T : Top K mg CR CS) : C8.Cal P w K mg base 1 "triples" (spTriples K) [] := by
  refine cal_of T.d_triples sc_triples (fun _ _ _ _ _ _ us hl => match us, hl with | [_], _ => rfl) (fun vs H Q E h => by obtain ⟨t, p, rfl, _⟩ := h; rfl) (fun f cdv A outer s H vs Q E hr h => ?_)
  obtain ⟨a, ns, rfl, hS, h3, h24, k⟩ := h
  obtain ⟨tk, m1⟩ := T.c_TRIPLE
  refine ⟨_, pss_one (ps_ret (pe_tuple K rfl T.b_tuple
    (pe_lc (own := [("start", 1)]) (g := gName 1) (tt := tYes) rfl sc_triples.nd
      (pi_range3 rfl T.b_range (pa_cons pe_int (pa_cons (pe_len K rfl T.b_len (pv 0)) (pa_cons (pgI m1) pa_nil))))
      (blkOk_by (own := [("start", 1)]) (N := ["numbers", "start"]) (sc := C8.fnScope s_triples) (by decide +kernel)) (fun _ _ _ _ _ => pg_name (i := 1) sc_triples.nd rfl (Or.inl rfl)) (fun _ _ _ _ _ => pts_nil)
      (fun _ _ _ _ _ => pe_tuple K rfl T.b_tuple (pe_slice (r := rSlL K) sl_list (pv 0) (po_some (pv 1)) (po_some (pe_op op_add (pv 1) (pgI m1)))))))), ?_⟩
  refine ⟨_, rfl, a, nV ns, rfl, .inl hS, _, _, _, (ns.length + 2) / 3, rfl, by rw [nV_len]; exact rg3 _ (by omega), fun D hD => ?_⟩
  refine lc_nat (n := (ns.length + 2) / 3) (f := fun i => .int (0 + (i : Int) * 3)) (fun i H h => h) (fun i H x H' y => y) (fun i H h => h)
    (fun i H' => Same H H' ∧ ∃ xs, H' D = some (.lst xs) ∧ Paired (AtomAt H') xs ((triplesM ns).take i)) ⟨Same.new hD, [], upd_same, by rw [List.take_zero]; exact .nil⟩ ?_ ?_
  · rintro i H1 hi ⟨s1, xs, hx, px⟩
    have hl : 3 * i + 3 ≤ ns.length := by omega
    obtain ⟨t, x, y, e1, e2⟩ := triplesM_get ns i hl
    refine ⟨rfl, _, rfl, _, rfl, _, rfl, _, rfl, _, _, rfl, rfl, _, rfl, a, nV ns, rfl, s1.seq hS, fun p hp => ?_⟩
    refine ⟨p, _, rfl, .inl ⟨SqL.of' upd_same, fun l hl2 => ?_⟩⟩
    have hpD : D ≠ p := ne_of_none hx hp
    have hlp : p ≠ l := ne_of_none upd_same hl2
    have hlD : D ≠ l := ne_of_none (show upd H1 p _ D = some (.lst xs) by rw [upd_ne hpD]; exact hx) hl2
    refine ⟨xs, by rw [upd_ne hlD, upd_ne hpD]; exact hx, line_small (by rw [Paired.len px, List.length_take, triplesM_len]; omega), ?_⟩
    have ec : cutV (nV ns) (some (0 + (i : Int) * 3)) (some (0 + (i : Int) * 3 + 3)) = [V.int (t : Int), V.int (x : Int), V.int (y : Int)] := by
      rw [show (0 + (i : Int) * 3) = ((3 * i : Nat) : Int) by omega, show (((3 * i : Nat) : Int) + 3) = ((3 * i + 3 : Nat) : Int) by omega, cut_nat _ _ _ (by rw [nV_len]; exact hl), show 3 * i + 3 - 3 * i = 3 by omega]
      show ((nV ns).drop (3 * i)).take 3 = nV [t, x, y]
      rw [← e1]
      unfold nV
      rw [List.map_take, List.map_drop]
    rw [ec] at hl2 ⊢
    have t1 : SameT H1 (upd (upd (upd H1 p (.lst [V.int (t : Int), V.int (x : Int), V.int (y : Int)])) l (.tup [V.int (t : Int), V.int (x : Int), V.int (y : Int)])) D (.lst (xs ++ [V.ref l]))) :=
      ((SameT.new hp).trans (SameT.new hl2)).trans (SameT.lst (ys := xs) (by rw [upd_ne hlD, upd_ne hpD]; exact hx))
    refine ⟨Same.step ((s1.trans (Same.new hp)).trans (Same.new hl2)) hD, _, upd_same, ?_⟩
    rw [take_more e2]
    refine Paired.snoc (Paired.imp (fun _ _ z => AtomAt.mono t1 z) px) ⟨l, rfl, ?_⟩
    rw [upd_ne (fun z => hlD z.symm)]
    exact upd_same
  · rintro H1 ⟨s1, xs, hx, px⟩
    refine ⟨D, xs, rfl, .inl ⟨SqL.of' hx, fun l hl => ?_⟩⟩
    refine k _ _ (s1.trans (Same.new hl)) ⟨l, xs, rfl, upd_same, ?_⟩
    have e : (triplesM ns).take ((ns.length + 2) / 3) = triplesM ns := List.take_of_length_le (by rw [triplesM_len]; omega)
    rw [e] at px
    exact Paired.imp (fun _ _ z => AtomAt.mono (SameT.new hl) z) px
def spIsAtom : Sp := fun vs H Q _ => ∃ (v : V) (a : Atom) (p : Nat), vs = [v, .int p] ∧ AtomAt H v a ∧ Q (.bl (isAtomM p a)) H
theorem sc_is_atom : FnScope ["atom", "place"] ["atom", "place"] (C8.fnScope s_is_atom) := C8.fnScope_by (by decide +kernel)
theorem ok_is_atom (T : Top K mg CR CS) (c1 : C8.Cal P w K mg base 1 "is_table_of" spIsTable []) : C8.Cal P w K mg base 2 "is_atom" spIsAtom [] := by
  refine cal_of T.d_is_atom sc_is_atom (fun _ _ _ _ _ _ us hl => match us, hl with | [_, _], _ => rfl) (fun vs H Q E h => by obtain ⟨t, p, q, rfl, _⟩ := h; rfl) (fun f cdv A outer s H vs Q E hr h => ?_)
  obtain ⟨v, a, p, rfl, ⟨q, rfl, hq⟩, k⟩ := h
  obtain ⟨tk, m1⟩ := T.c_VARIABLES
  refine ⟨_, pss_one (ps_ret (pe_and (C8.pe_c c1 hr (by decide) rfl (pa_cons (pe_ix ix_tup (pv 0) pe_int (fun _ _ => rfl)) (pa_cons (pv 1) pa_nil)))
    (pe_and (pe_cmpR op_lt (pe_ix ix_tup (pv 0) pe_int (fun _ _ => rfl)) (pgI m1) (nomark _)) (pe_one (pe_cmpR op_lt (pe_ix ix_tup (pv 0) pe_int (fun _ _ => rfl)) (pgI m1) (nomark _)))))), ?_⟩
  refine ⟨_, rfl, q, _, 0, _, rfl, rfl, SqT.of' hq, ix_at (i := 0) rfl, _, rfl, a.t, p, rfl, _, rfl, ?_⟩
  unfold isAtomM at k
  by_cases h1 : a.t / 2 = p
  · rw [decide_eq_true h1] at k ⊢
    refine ⟨_, rfl, q, _, 1, _, rfl, rfl, SqT.of' hq, ix_at (i := 1) rfl, _, _, rfl, rfl, _, rfl, ?_⟩
    rw [show decide ((a.x : Int) < 5) = decide (a.x < 5) from nat_lt a.x 5]
    by_cases h2 : a.x < 5
    · rw [decide_eq_true h2] at k ⊢
      refine ⟨_, rfl, q, _, 2, _, rfl, rfl, SqT.of' hq, ix_at (i := 2) rfl, _, _, rfl, rfl, ?_⟩
      show Q (V.bl (decide ((a.y : Int) < 5))) H
      rw [show decide ((a.y : Int) < 5) = decide (a.y < 5) from nat_lt a.y 5]
      exact k
    · rw [decide_eq_false h2] at k ⊢
      exact k
  · rw [decide_eq_false h1] at k ⊢
    exact k
def spAreAtoms (K : PySem.W.Frag) : Sp := fun vs H Q _ => ∃ (a : Addr) (ns : List Nat) (p : Nat), vs = [.ref a, .int p] ∧ SqL K H a (nV ns) ∧ ns.length ≤ 24 ∧ ∀ H', Same H H' → Q (.bl (areAtomsM p ns)) H'
theorem sc_are_atoms : FnScope ["numbers", "place", "atoms", "atom"] ["numbers", "place"] (C8.fnScope s_are_atoms) := C8.fnScope_by (by decide +kernel)
theorem ok_are_atoms (T : Top K mg CR CS) (c1 : C8.Cal P w K mg base 1 "triples" (spTriples K) []) (c2 : C8.Cal P w K mg base 2 "is_atom" spIsAtom []) : C8.Cal P w K mg base 3 "are_atoms" (spAreAtoms K) [] := by
  refine cal_of T.d_are_atoms sc_are_atoms (fun _ _ _ _ _ _ us hl => match us, hl with | [_, _], _ => rfl) (fun vs H Q E h => by obtain ⟨t, p, q, rfl, _⟩ := h; rfl) (fun f cdv A outer s H vs Q E hr h => ?_)
  obtain ⟨a, ns, p, rfl, hS, h24, k⟩ := h
  obtain ⟨t3, m3⟩ := T.c_TRIPLE
  obtain ⟨t2, m2⟩ := T.c_MOST_ATOMS
  refine ⟨_, pss_cons (ps_if (pt_cmpR op_ne (pe_op op_mod (pe_len K rfl T.b_len (pv 0)) (pgI m3)) pe_int (nomark _)) (pss_one (ps_ret pe_bl)) pss_nil)
    (pss_cons (ps_set (i := 2) sc_are_atoms.nd rfl (Or.inl rfl) (C8.pe_c c1 hr (by decide) rfl (pa_cons (pv 0) pa_nil)))
    (pss_cons (ps_if (PW.pt (pw_or (pt_cmpR op_lt (pe_len K rfl T.b_len (pv 2)) pe_int (nomark _)) (pw_or1 (pt_cmpR op_gt (pe_len K rfl T.b_len (pv 2)) (pgI m2) (nomark _))))) (pss_one (ps_ret pe_bl)) pss_nil)
    (pss_one (ps_ret (pe_all K rfl rfl T.b_all
      (pe_lc (own := [("atom", 3)]) (g := gName 3) (tt := tYes) rfl sc_are_atoms.nd (pi_tup (pv 2))
        (blkOk_by (own := [("atom", 3)]) (N := ["numbers", "place", "atoms", "atom"]) (sc := C8.fnScope s_are_atoms) (by decide +kernel)) (fun _ _ _ _ _ => pg_name (i := 3) sc_are_atoms.nd rfl (Or.inl rfl)) (fun _ _ _ _ _ => pts_nil)
        (fun _ _ _ _ _ => C8.pe_c c2 hr (by decide) rfl (pa_cons (pv 3) (pa_cons (pv 1) pa_nil))))))))), ?_⟩
  unfold areAtomsM at k
  refine ⟨_, rfl, a, _, rfl, .inl hS, _, _, rfl, rfl, (by show (0 : Int) < 3; decide), rfl, _, rfl, ?_⟩
  have e0 : decide (V.int (((nV ns).length : Int) % 3) = V.int 0) = decide (ns.length % 3 = 0) := by
    rw [nV_len]
    exact int_dec (ns.length % 3) 0
  show if (!decide (V.int (((nV ns).length : Int) % 3) = V.int 0)) = true then _ else _
  rw [e0]
  by_cases h3 : ns.length % 3 = 0
  · rw [decide_eq_true h3] at k ⊢
    refine iteF ?_
    refine ⟨_, rfl, a, ns, rfl, hS, h3, h24, fun H1 v s1 ⟨q, xs, ev, hq, px⟩ => ?_⟩
    subst ev
    have el : xs.length = (triplesM ns).length := Paired.len px
    refine ⟨_, rfl, q, xs, rfl, .inr (SqT.of' hq), _, _, rfl, rfl, _, rfl, ?_⟩
    rw [show decide ((xs.length : Int) < 1) = decide (xs.length < 1) from nat_lt xs.length 1, el]
    by_cases h4 : (triplesM ns).length < 1
    · rw [decide_eq_true h4]
      rw [show decide (1 ≤ (triplesM ns).length) = false from decide_eq_false (by omega)] at k
      exact k H1 s1
    · rw [decide_eq_false h4]
      rw [show decide (1 ≤ (triplesM ns).length) = true from decide_eq_true (by omega)] at k
      refine ⟨_, rfl, q, xs, rfl, .inr (SqT.of' hq), _, _, rfl, rfl, _, rfl, ?_⟩
      rw [show decide ((2 : Int) < (xs.length : Int)) = decide (2 < xs.length) from nat_lt 2 xs.length, el]
      by_cases h5 : 2 < (triplesM ns).length
      · rw [decide_eq_true h5]
        rw [show decide ((triplesM ns).length ≤ 2) = false from decide_eq_false (by omega)] at k
        exact k H1 s1
      · rw [decide_eq_false h5]
        rw [show decide ((triplesM ns).length ≤ 2) = true from decide_eq_true (by omega)] at k
        refine ⟨_, rfl, q, rfl, ⟨xs, SqT.of' hq⟩, fun D hD => ?_⟩
        refine lc_tup (xs := xs) (fun i H' => Same H1 H' ∧ H' D = some (.lst (((triplesM ns).take i).map fun a => V.bl (isAtomM p a)))) ⟨Same.new hD, upd_same⟩ (fun i H' _ h => SqT.of' (h.1 _ _ hq)) ?_ ?_
        · rintro i x H2 hx ⟨s2, hD2⟩
          obtain ⟨at_, ha, hat⟩ := Paired.get px hx
          refine ⟨rfl, _, rfl, _, rfl, x, at_, p, rfl, AtomAt.mono (SameT.of s2) hat, _, hD2, line_small (by rw [List.length_map, List.length_take]; omega), Same.step s2 hD, ?_⟩
          rw [upd_same, take_more ha, List.map_append]
          rfl
        · rintro H2 ⟨s2, hD2⟩
          rw [List.take_of_length_le (by omega)] at hD2
          refine ⟨D, ((triplesM ns).map (isAtomM p)), rfl, SqL.of' (by rw [hD2, List.map_map]; rfl), ?_⟩
          rw [List.all_map] at *
          exact k H2 (s1.trans s2)
  · rw [decide_eq_false h3] at k ⊢
    exact k H (Same.refl H)
def spBodyOf : Sp := fun vs H Q _ => ∃ (v : V) (r : Rule), vs = [v] ∧ RuleAt H v r ∧ ∀ u, AtomsAt H u r.body → Q u H
def spHeadOf : Sp := fun vs H Q _ => ∃ (v : V) (r : Rule), vs = [v] ∧ RuleAt H v r ∧ ∀ u, AtomsAt H u r.head → Q u H
theorem sc_body_of : FnScope ["rule"] ["rule"] (C8.fnScope s_body_of) := C8.fnScope_by (by decide +kernel)
theorem sc_head_of : FnScope ["rule"] ["rule"] (C8.fnScope s_head_of) := C8.fnScope_by (by decide +kernel)
theorem ok_body_of (T : Top K mg CR CS) : C8.Cal P w K mg base 1 "body_of" spBodyOf [] := by
  refine cal_of T.d_body_of sc_body_of (fun _ _ _ _ _ _ us hl => match us, hl with | [_], _ => rfl) (fun vs H Q E h => by obtain ⟨t, p, rfl, _⟩ := h; rfl) (fun f cdv A outer s H vs Q E hr h => ?_)
  obtain ⟨v, r, rfl, ⟨q, b, h, rfl, hq, hb, hh⟩, k⟩ := h
  refine ⟨_, pss_one (ps_ret (pe_ix ix_tup (pv 0) pe_int (fun _ _ => rfl))), ?_⟩
  exact ⟨_, rfl, q, _, 0, b, rfl, rfl, SqT.of' hq, ix_at (i := 0) rfl, k _ hb⟩
theorem ok_head_of (T : Top K mg CR CS) : C8.Cal P w K mg base 1 "head_of" spHeadOf [] := by
  refine cal_of T.d_head_of sc_head_of (fun _ _ _ _ _ _ us hl => match us, hl with | [_], _ => rfl) (fun vs H Q E h => by obtain ⟨t, p, rfl, _⟩ := h; rfl) (fun f cdv A outer s H vs Q E hr h => ?_)
  obtain ⟨v, r, rfl, ⟨q, b, h, rfl, hq, hb, hh⟩, k⟩ := h
  refine ⟨_, pss_one (ps_ret (pe_ix ix_tup (pv 0) pe_int (fun _ _ => rfl))), ?_⟩
  exact ⟨_, rfl, q, _, 1, h, rfl, rfl, SqT.of' hq, ix_at (i := 1) rfl, k _ hh⟩
/-! ### variables_of -/
def varsOf (l : List Atom) : List Nat := l.flatMap fun a => [a.x, a.y]
theorem varsOf_len : ∀ l : List Atom, (varsOf l).length = 2 * l.length
  | [] => rfl
  | a :: l => by
    have h := varsOf_len l
    show (a.x :: a.y :: varsOf l).length = _
    rw [List.length_cons, List.length_cons, List.length_cons, h]
    omega
theorem varsOf_snoc (l : List Atom) (a : Atom) : varsOf (l ++ [a]) = varsOf l ++ [a.x, a.y] := by
  unfold varsOf
  rw [List.flatMap_append]
  rfl
/-- atoms in a list or a tuple -/
def SeqAtoms (K : PySem.W.Frag) (H : Hp) (v : V) (l : List Atom) : Prop := ∃ a xs, v = .ref a ∧ (H a = some (.lst xs) ∨ H a = some (.tup xs)) ∧ Paired (AtomAt H) xs l
theorem AtomsAt.seq {H : Hp} {v : V} {l : List Atom} (h : AtomsAt H v l) : SeqAtoms K H v l := by
  obtain ⟨q, xs, e, hq, p⟩ := h
  exact ⟨q, xs, e, .inr hq, p⟩
def spVariables (K : PySem.W.Frag) : Sp := fun vs H Q _ => ∃ (v : V) (l : List Atom), vs = [v] ∧ SeqAtoms K H v l ∧ l.length ≤ 1000 ∧
  ∀ H' p, Same H H' → H' p = some (.lst (nV (Dx.places l))) → Q (.ref p) H'
theorem sc_variables_of : FnScope ["atoms", "found", "atom", "variable"] ["atoms"] (C8.fnScope s_variables_of) := C8.fnScope_by (by decide +kernel)
theorem nV_snoc (ns : List Nat) (n : Nat) : nV ns ++ [V.int (n : Int)] = nV (ns ++ [n]) := by
  unfold nV
  rw [List.map_append]
  rfl
/-- the two loops' turn, whatever walks the atoms -/
theorem vars_turn {H H1 : Hp} {p : Addr} {pre : List Nat} {l : List Atom} {i : Nat} {x : V} {at_ : Atom} {v3 v4 : Option V} {a : Addr}
    (hi : l[i]? = some at_) (hx : AtomAt H1 x at_) (hl : l.length ≤ 1000) (s1 : Same H H1) (hp0 : H p = none) (hp : H1 p = some (.lst (nV ((varsOf (l.take i)).foldl putNew [])))) {D : Ends}
    (k : ∀ H2 v4, Same H H2 → H2 p = some (.lst (nV ((varsOf (l.take (i + 1))).foldl putNew []))) → D.nx [some (.ref a), some (.ref p), some x, v4] H2) :
    tFor (iTup K (tSl (rSlT K) (tVar 2) (tPart (tC (.int 1))) tNoPart)) (gName 3)
      (tIfS (tTest (tOp (rIn K true) (tVar 3) (tVar 1))) (tDrop (tBM K "list" rAppend (tVar 1) (tCons (tVar 3) tNil))) tNext) D [some (.ref a), some (.ref p), some x, v4] H1 := by
  obtain ⟨q, rfl, hq⟩ := hx
  have hpq : p ≠ q := ne_of hp hq (by intro z; cases z)
  refine ⟨_, rfl, _, rfl, q, _, rfl, SqT.of' hq, (by rw [show (1 : Int) = ((1 : Nat) : Int) from rfl, HT.sIx_nat]; intro z; exact absurd z.1 (by show ¬ (min 1 3 = 0); decide)), fun t ht => ?_⟩
  have ec : cutV [V.int (at_.t : Int), V.int (at_.x : Int), V.int (at_.y : Int)] (some 1) none = nV [at_.x, at_.y] := rfl
  rw [ec] at *
  have hpt : p ≠ t := ne_of_none hp ht
  refine ⟨t, rfl, ⟨_, SqT.of' upd_same⟩, for_tup (xs := nV [at_.x, at_.y]) (fun j σ H' => ∃ v4 : Option V, σ = [some (.ref a), some (.ref p), some (.ref q), v4] ∧ Same H H' ∧ H' t = some (.tup (nV [at_.x, at_.y])) ∧
    H' p = some (.lst (nV (([at_.x, at_.y].take j).foldl putNew ((varsOf (l.take i)).foldl putNew []))))) ⟨v4, rfl, s1.trans (Same.new ht), upd_same, (by rw [upd_ne hpt]; exact hp)⟩ (fun j σ H' _ ⟨_, _, _, h, _⟩ => SqT.of' h) ?_ ?_⟩
  · rintro j y σ H' hj ⟨v4, rfl, s2, h2, hp2⟩
    obtain ⟨n, hn, rfl⟩ := of_nV hj
    have hlen : (([at_.x, at_.y].take j).foldl putNew ((varsOf (l.take i)).foldl putNew [])).length ≤ 4000 := by
      have h1 := foldPut_len ([at_.x, at_.y].take j) ((varsOf (l.take i)).foldl putNew [])
      have h2 := foldPut_len (varsOf (l.take i)) []
      rw [varsOf_len, List.length_take] at h2
      rw [List.length_take] at h1
      have h3 : ([at_.x, at_.y] : List Nat).length = 2 := rfl
      have h4 : ([] : List Nat).length = 0 := rfl
      omega
    refine ⟨_, rfl, _, rfl, p, _, rfl, .inl (SqL.of' hp2), rfl, nV_flat _, _, rfl, ?_⟩
    rw [in_nat]
    by_cases c : (([at_.x, at_.y].take j).foldl putNew ((varsOf (l.take i)).foldl putNew [])).contains n = true
    · rw [c]
      refine ⟨_, rfl, s2, h2, ?_⟩
      rw [take_more hn, List.foldl_append]
      show H' p = some (.lst (nV (putNew _ n)))
      rw [show ∀ m, m.contains n = true → putNew m n = m from fun m h => if_pos h]
      · exact hp2
      · exact c
    · rw [Bool.not_eq_true] at c
      rw [c]
      refine ⟨_, rfl, .inl ⟨rfl, _, SqL.of' hp2⟩, _, rfl, p, _, _, rfl, rfl, hp2, line_small (by rw [nV_len]; omega), _, rfl, Same.step s2 hp0, ?_, ?_⟩
      · rw [upd_ne (fun z => hpt z.symm)]
        exact h2
      · rw [upd_same, take_more hn, List.foldl_append]
        show _ = some (HO.lst (nV (putNew _ n)))
        rw [show putNew _ n = _ ++ [n] from if_neg (by rw [c]; exact Bool.false_ne_true), nV_snoc]
  · rintro σ H' ⟨v4, rfl, s2, h2, hp2⟩
    refine k H' v4 s2 ?_
    rw [take_more hi, varsOf_snoc, List.foldl_append]
    exact hp2
theorem ok_variables_of (T : Top K mg CR CS) : C8.Cal P w K mg base 1 "variables_of" (spVariables K) [] := by
  refine cal_of T.d_variables_of sc_variables_of (fun _ _ _ _ _ _ us hl => match us, hl with | [_], _ => rfl) (fun vs H Q E h => by obtain ⟨t, p, rfl, _⟩ := h; rfl) (fun f cdv A outer s H vs Q E hr h => ?_)
  obtain ⟨v, l, rfl, ⟨a, xs, rfl, hv, px⟩, hl, k⟩ := h
  rcases hv with hv | hv
  · refine ⟨_, pss_cons (ps_set (i := 1) sc_variables_of.nd rfl (Or.inl rfl) (pe_lst pa_nil))
      (pss_cons (ps_for PassesOwn.never rfl (pi_list (pv 0)) (pg_name (i := 2) sc_variables_of.nd rfl (Or.inl rfl))
        (pss_one (ps_for PassesOwn.never rfl (pi_tup (pe_slice sl_tup (pv 2) (po_some pe_int) po_none)) (pg_name (i := 3) sc_variables_of.nd rfl (Or.inl rfl))
          (pss_one (ps_if (pt_cmpR op_notIn_seq (pv 3) (pv 1) rfl) (pss_one (ps_expr (pe_bm PySem.F.plainAttrs_list PySem.F.slot_list_append PySem.F.type_list_append mt_append (pv 1) (pa_cons (pv 3) pa_nil)))) pss_nil)))))
      (pss_one (ps_ret (pv 1)))), ?_⟩
    refine ⟨Nat.zero_le _, fun p hp => ?_⟩
    refine ⟨_, rfl, a, rfl, ⟨_, SqL.of' (by rw [upd_ne (ne_of_none hv hp)]; exact hv)⟩, for_list (xs := xs) (fun i σ H' => ∃ v3 v4 : Option V, σ = [some (.ref a), some (.ref p), v3, v4] ∧ Same H H' ∧
      H' p = some (.lst (nV ((varsOf (l.take i)).foldl putNew [])))) ⟨none, none, rfl, Same.new hp, upd_same⟩ (fun i σ H' _ ⟨_, _, _, h, _⟩ => SqL.of' (h _ _ hv)) ?_ ?_⟩
    · rintro i x σ H1 hx ⟨v3, v4, rfl, s1, hp1⟩
      obtain ⟨at_, ha, hat⟩ := Paired.get px hx
      exact vars_turn (pre := []) (v3 := v3) ha (AtomAt.mono (SameT.of s1) hat) hl s1 hp hp1 fun H2 v4 s2 h2 => ⟨_, v4, rfl, s2, h2⟩
    · rintro σ H1 ⟨v3, v4, rfl, s1, hp1⟩
      refine ⟨_, rfl, k H1 p s1 ?_⟩
      rw [Paired.len px, List.take_length] at hp1
      exact hp1
  · refine ⟨_, pss_cons (ps_set (i := 1) sc_variables_of.nd rfl (Or.inl rfl) (pe_lst pa_nil))
      (pss_cons (ps_for PassesOwn.never rfl (pi_tup (pv 0)) (pg_name (i := 2) sc_variables_of.nd rfl (Or.inl rfl))
        (pss_one (ps_for PassesOwn.never rfl (pi_tup (pe_slice sl_tup (pv 2) (po_some pe_int) po_none)) (pg_name (i := 3) sc_variables_of.nd rfl (Or.inl rfl))
          (pss_one (ps_if (pt_cmpR op_notIn_seq (pv 3) (pv 1) rfl) (pss_one (ps_expr (pe_bm PySem.F.plainAttrs_list PySem.F.slot_list_append PySem.F.type_list_append mt_append (pv 1) (pa_cons (pv 3) pa_nil)))) pss_nil)))))
      (pss_one (ps_ret (pv 1)))), ?_⟩
    refine ⟨Nat.zero_le _, fun p hp => ?_⟩
    refine ⟨_, rfl, a, rfl, ⟨_, SqT.of' (by rw [upd_ne (ne_of_none hv hp)]; exact hv)⟩, for_tup (xs := xs) (fun i σ H' => ∃ v3 v4 : Option V, σ = [some (.ref a), some (.ref p), v3, v4] ∧ Same H H' ∧
      H' p = some (.lst (nV ((varsOf (l.take i)).foldl putNew [])))) ⟨none, none, rfl, Same.new hp, upd_same⟩ (fun i σ H' _ ⟨_, _, _, h, _⟩ => SqT.of' (h _ _ hv)) ?_ ?_⟩
    · rintro i x σ H1 hx ⟨v3, v4, rfl, s1, hp1⟩
      obtain ⟨at_, ha, hat⟩ := Paired.get px hx
      exact vars_turn (pre := []) (v3 := v3) ha (AtomAt.mono (SameT.of s1) hat) hl s1 hp hp1 fun H2 v4 s2 h2 => ⟨_, v4, rfl, s2, h2⟩
    · rintro σ H1 ⟨v3, v4, rfl, s1, hp1⟩
      refine ⟨_, rfl, k H1 p s1 ?_⟩
      rw [Paired.len px, List.take_length] at hp1
      exact hp1
/-! ### existential_variables -/
def spExist : Sp := fun vs H Q _ => ∃ (v : V) (r : Rule), vs = [v] ∧ RuleAt H v r ∧ r.body.length ≤ 1000 ∧ r.head.length ≤ 1000 ∧
  ∀ H' p, Same H H' → H p = none → H' p = some (.lst (nV r.open_)) → Q (.ref p) H'
theorem sc_exist : FnScope ["rule", "bound", "variable"] ["rule"] (C8.fnScope s_existential_variables) := C8.fnScope_by (by decide +kernel)
theorem take_filter {α : Type} (f : α → Bool) {l : List α} {i : Nat} {x : α} (h : l[i]? = some x) : (l.take (i + 1)).filter f = (l.take i).filter f ++ (if f x = true then [x] else []) := by
  rw [take_more h, List.filter_append]
  congr 1
  by_cases c : f x = true
  · rw [if_pos c, List.filter_cons_of_pos c]
    rfl
  · rw [if_neg c, List.filter_cons_of_neg c]
    rfl
theorem ok_existential_variables (T : Top K mg CR CS) (c1 : C8.Cal P w K mg base 1 "variables_of" (spVariables K) []) (c2 : C8.Cal P w K mg base 1 "body_of" spBodyOf []) (c3 : C8.Cal P w K mg base 1 "head_of" spHeadOf []) :
    C8.Cal P w K mg base 2 "existential_variables" spExist [] := by
  refine cal_of T.d_existential_variables sc_exist (fun _ _ _ _ _ _ us hl => match us, hl with | [_], _ => rfl) (fun vs H Q E h => by obtain ⟨t, p, rfl, _⟩ := h; rfl) (fun f cdv A outer s H vs Q E hr h => ?_)
  obtain ⟨v, r, rfl, hR, hb, hh, k⟩ := h
  refine ⟨_, pss_cons (ps_set (i := 1) sc_exist.nd rfl (Or.inr rfl) (C8.pe_c c1 hr (by decide) rfl (pa_cons (C8.pe_c c2 hr (by decide) rfl (pa_cons (pv 0) pa_nil)) pa_nil)))
    (pss_one (ps_ret (pe_lc (own := [("variable", 2)]) (g := gName 2) (tt := tTest (tOp (rIn K true) (tVar 2) (tVar 1))) rfl sc_exist.nd (pi_list (C8.pe_c c1 hr (by decide) rfl (pa_cons (C8.pe_c c3 hr (by decide) rfl (pa_cons (pv 0) pa_nil)) pa_nil)))
        (blkOk_by (own := [("variable", 2)]) (N := ["rule", "bound", "variable"]) (sc := C8.fnScope s_existential_variables) (by decide +kernel)) (fun _ _ _ _ _ => pg_name (i := 2) sc_exist.nd rfl (Or.inl rfl))
        (fun _ _ _ _ _ => pts_one (pt_cmpR op_notIn_seq (pv 2) (pv 1) rfl)) (fun _ _ _ _ _ => pv 2)))), ?_⟩
  refine ⟨_, rfl, v, r, rfl, hR, fun u hu => ⟨u, r.body, rfl, hu.seq, hb, fun H1 p s1 hp => ?_⟩⟩
  refine ⟨_, rfl, v, r, rfl, hR.mono (SameT.of s1), fun u hu => ⟨u, r.head, rfl, hu.seq, hh, fun H2 q s2 hq => ?_⟩⟩
  have hp2 := s2 _ _ hp
  refine ⟨q, rfl, ⟨_, SqL.of' hq⟩, fun D hD => ?_⟩
  refine lc_list (xs := nV (Dx.places r.head)) (fun i H' => Same H2 H' ∧ H' D = some (.lst (nV (((Dx.places r.head).take i).filter fun v => !(Dx.places r.body).contains v)))) ⟨Same.new hD, upd_same⟩ (fun i H' _ h => SqL.of' (h.1 _ _ hq)) ?_ ?_
  · rintro i x H3 hx ⟨s3, hD3⟩
    obtain ⟨n, hn, rfl⟩ := of_nV hx
    refine ⟨rfl, _, rfl, _, rfl, p, _, rfl, .inl (SqL.of' (s3 _ _ hp2)), rfl, nV_flat _, _, rfl, ?_⟩
    rw [in_nat]
    have hlen : (((Dx.places r.head).take i).filter fun v => !(Dx.places r.body).contains v).length ≤ 4000 := by
      have h1 := List.length_filter_le (fun v => !(Dx.places r.body).contains v) ((Dx.places r.head).take i)
      have h2 := foldPut_len (varsOf r.head) []
      rw [varsOf_len] at h2
      have h3 : (Dx.places r.head).length = ((varsOf r.head).foldl putNew []).length := rfl
      have h4 : ([] : List Nat).length = 0 := rfl
      rw [List.length_take] at h1
      omega
    by_cases c : (Dx.places r.body).contains n = true
    · rw [c]
      refine ⟨s3, ?_⟩
      rw [take_filter _ hn, c]
      show _ = some (HO.lst (nV (_ ++ [])))
      rw [List.append_nil]
      exact hD3
    · rw [Bool.not_eq_true] at c
      rw [c]
      refine ⟨_, rfl, _, hD3, line_small (by rw [nV_len]; omega), Same.step s3 hD, ?_⟩
      rw [upd_same, take_filter _ hn, c]
      show _ = some (HO.lst (nV (_ ++ [n])))
      rw [nV_snoc]
  · rintro H3 ⟨s3, hD3⟩
    rw [nV_len, List.take_length] at hD3
    exact k H3 D ((s1.trans s2).trans s3) (same_none (s1.trans s2) hD) hD3
end
end Mw
namespace Mw
open PySem PySem.Spec PyProof.Rows L2
open Dx (Fact Facts Rule Atom Fill)
section
variable {P : Program} {w : World} {K : PySem.W.Frag} {mg : Str → Option Value} {base : Heap} {CR CS : Addr}
/-! ## composition.py: small defs -/
def spCopied : Sp := fun vs H Q _ => ∃ v i : Nat, vs = [.int v, .int i] ∧ i ≤ 1000 ∧ Q (.int (copied v i : Nat)) H
theorem sc_copied : FnScope ["variable", "copy_number"] ["variable", "copy_number"] (C8.fnScope s_copied) := C8.fnScope_by (by decide +kernel)
theorem ok_copied (T : Top K mg CR CS) : C8.Cal P w K mg base 1 "copied" spCopied [] := by
  refine cal_of T.d_copied sc_copied (fun _ _ _ _ _ _ us hl => match us, hl with | [_, _], _ => rfl) (fun vs H Q E h => by obtain ⟨t, p, rfl, _⟩ := h; rfl) (fun f cdv A outer s H vs Q E hr h => ?_)
  obtain ⟨v, i, rfl, hi, k⟩ := h
  obtain ⟨t5, m5⟩ := T.c_VARIABLES
  refine ⟨_, pss_one (ps_ret (pe_op op_add (pe_op op_mul (pv 1) (pgI m5)) (pv 0))), ?_⟩
  refine ⟨_, rfl, _, _, rfl, rfl, .inl ⟨by omega, by omega⟩, _, rfl, _, _, rfl, rfl, ?_⟩
  have e : ((i : Int) * 5 + (v : Int)) = ((copied v i : Nat) : Int) := by
    unfold copied
    omega
  show Q (.int ((i : Int) * 5 + (v : Int))) H
  rw [e]
  exact k
def spMadeEqual (K : PySem.W.Frag) : Sp := fun vs H Q _ => ∃ (a : Addr) (ns : List Nat) (v u : Nat), vs = [.ref a, .int v, .int u] ∧ SqL K H a (nV ns) ∧ v < ns.length ∧ u < ns.length ∧ ns.length ≤ 1000 ∧
  ∀ H' p, Same H H' → H' p = some (.lst (nV (mkEq ns v u))) → Q (.ref p) H'
theorem sc_made_equal : FnScope ["names", "variable", "other", "kept", "dropped", "name"] ["names", "variable", "other"] (C8.fnScope s_made_equal) := C8.fnScope_by (by decide +kernel)
theorem getD_at {ns : List Nat} {v : Nat} (h : v < ns.length) : ns[v]? = some (ns.getD v 0) := by
  rw [List.getD_eq_getElem?_getD, List.getElem?_eq_getElem h]
  rfl
theorem ok_made_equal (T : Top K mg CR CS) : C8.Cal P w K mg base 1 "made_equal" (spMadeEqual K) [] := by
  refine cal_of T.d_made_equal sc_made_equal (fun _ _ _ _ _ _ us hl => match us, hl with | [_, _, _], _ => rfl) (fun vs H Q E h => by obtain ⟨t, p, q, r, rfl, _⟩ := h; rfl) (fun f cdv A outer s H vs Q E hr h => ?_)
  obtain ⟨a, ns, v, u, rfl, hS, hv, hu, hl, k⟩ := h
  refine ⟨_, pss_cons (ps_set (i := 3) sc_made_equal.nd rfl (Or.inr rfl) (pe_ix ix_list (pv 0) (pv 1) (fun _ _ => rfl)))
    (pss_cons (ps_set (i := 4) sc_made_equal.nd rfl (Or.inr rfl) (pe_ix ix_list (pv 0) (pv 2) (fun _ _ => rfl)))
    (pss_one (ps_ret (pe_lc (own := [("name", 5)]) (g := gName 5) (tt := tYes) rfl sc_made_equal.nd (pi_list (pv 0))
      (blkOk_by (own := [("name", 5)]) (N := ["names", "variable", "other", "kept", "dropped", "name"]) (sc := C8.fnScope s_made_equal) (by decide +kernel)) (fun _ _ _ _ _ => pg_name (i := 5) sc_made_equal.nd rfl (Or.inl rfl)) (fun _ _ _ _ _ => pts_nil)
      (fun _ _ _ _ _ => pe_ifExp (pt_cmpR op_eq (pv 5) (pv 4) (nomark _)) (pv 3) (pv 5)))))), ?_⟩
  refine ⟨_, rfl, _, rfl, a, _, v, _, rfl, rfl, hS, ix_at (nV_get (getD_at hv)), ?_⟩
  refine ⟨_, rfl, _, rfl, a, _, u, _, rfl, rfl, hS, ix_at (nV_get (getD_at hu)), ?_⟩
  refine ⟨_, rfl, a, rfl, ⟨_, hS⟩, fun D hD => ?_⟩
  refine lc_list (xs := nV ns) (fun i H' => Same H H' ∧ H' D = some (.lst (nV ((ns.take i).map fun n => if n = ns.getD u 0 then ns.getD v 0 else n)))) ⟨Same.new hD, upd_same⟩ (fun i H' _ h => h.1.seq hS) ?_ ?_
  · rintro i x H1 hx ⟨s1, hD1⟩
    obtain ⟨n, hn, rfl⟩ := of_nV hx
    refine ⟨rfl, _, rfl, _, rfl, rfl, _, rfl, ?_⟩
    rw [int_dec]
    have fin : ∀ m : Nat, m = (if n = ns.getD u 0 then ns.getD v 0 else n) → ∃ acc, H1 D = some (.lst acc) ∧ acc.length < sizeLine ∧ Same H (upd H1 D (.lst (acc ++ [V.int (m : Int)]))) ∧
        upd H1 D (.lst (acc ++ [V.int (m : Int)])) D = some (.lst (nV ((ns.take (i + 1)).map fun n => if n = ns.getD u 0 then ns.getD v 0 else n))) := by
      intro m em
      refine ⟨_, hD1, line_small (by rw [nV_len, List.length_map, List.length_take]; omega), Same.step s1 hD, ?_⟩
      rw [upd_same, take_more hn, List.map_append, nV_snoc, em]
      rfl
    by_cases c : n = ns.getD u 0
    · rw [decide_eq_true c]
      exact ⟨_, rfl, fin _ (if_pos c).symm⟩
    · rw [decide_eq_false c]
      exact ⟨_, rfl, fin _ (if_neg c).symm⟩
  · rintro H1 ⟨s1, hD1⟩
    rw [nV_len, List.take_length] at hD1
    exact k H1 D s1 hD1
/-- an atom with its variables' names -/
def spNamedAtom (K : PySem.W.Frag) : Sp := fun vs H Q _ => ∃ (x : V) (at_ : Atom) (i : Nat) (a : Addr) (ns : List Nat), vs = [x, .int i, .ref a] ∧ AtomAt H x at_ ∧ i ≤ 1000 ∧ SqL K H a (nV ns) ∧ copied at_.x i < ns.length ∧ copied at_.y i < ns.length ∧
  ∀ H' v, Same H H' → AtomAt H' v (namedAtom ns at_ i) → Q v H'
theorem sc_named_atom : FnScope ["atom", "copy_number", "names"] ["atom", "copy_number", "names"] (C8.fnScope s_named_atom) := C8.fnScope_by (by decide +kernel)
theorem ok_named_atom (T : Top K mg CR CS) (c1 : C8.Cal P w K mg base 1 "copied" spCopied []) : C8.Cal P w K mg base 2 "named_atom" (spNamedAtom K) [] := by
  refine cal_of T.d_named_atom sc_named_atom (fun _ _ _ _ _ _ us hl => match us, hl with | [_, _, _], _ => rfl) (fun vs H Q E h => by obtain ⟨t, p, q, r, z, rfl, _⟩ := h; rfl) (fun f cdv A outer s H vs Q E hr h => ?_)
  obtain ⟨x, at_, i, a, ns, rfl, ⟨q, rfl, hq⟩, hi, hS, h1, h2, k⟩ := h
  refine ⟨_, pss_one (ps_ret (pe_tup (pa_cons (pe_ix ix_tup (pv 0) pe_int (fun _ _ => rfl))
    (pa_cons (pe_ix ix_list (pv 2) (C8.pe_c c1 hr (by decide) rfl (pa_cons (pe_ix ix_tup (pv 0) pe_int (fun _ _ => rfl)) (pa_cons (pv 1) pa_nil))) (fun _ _ => rfl))
    (pa_cons (pe_ix ix_list (pv 2) (C8.pe_c c1 hr (by decide) rfl (pa_cons (pe_ix ix_tup (pv 0) pe_int (fun _ _ => rfl)) (pa_cons (pv 1) pa_nil))) (fun _ _ => rfl)) pa_nil))))), ?_⟩
  refine ⟨_, rfl, q, _, 0, _, rfl, rfl, SqT.of' hq, ix_at (i := 0) rfl, ?_⟩
  refine ⟨_, rfl, _, rfl, q, _, 1, _, rfl, rfl, SqT.of' hq, ix_at (i := 1) rfl, _, rfl, at_.x, i, rfl, hi, a, _, _, _, rfl, rfl, hS, ix_at (nV_get (getD_at h1)), ?_⟩
  refine ⟨_, rfl, _, rfl, q, _, 2, _, rfl, rfl, SqT.of' hq, ix_at (i := 2) rfl, _, rfl, at_.y, i, rfl, hi, a, _, _, _, rfl, rfl, hS, ix_at (nV_get (getD_at h2)), ?_⟩
  refine ⟨(by show 3 ≤ sizeLine; decide), fun p hp => ?_⟩
  exact k _ _ (Same.new hp) ⟨p, rfl, upd_same⟩
def ListAtoms (H : Hp) (v : V) (l : List Atom) : Prop := ∃ a xs, v = .ref a ∧ H a = some (.lst xs) ∧ Paired (AtomAt H) xs l
/-- atoms with each variable's place -/
def spNumbered (K : PySem.W.Frag) : Sp := fun vs H Q _ => ∃ (v : V) (l : List Atom) (o : Addr) (ns : List Nat), vs = [v, .ref o] ∧ ListAtoms H v l ∧ l.length ≤ 1000 ∧ SqL K H o (nV ns) ∧ (∀ a ∈ l, a.x ∈ ns ∧ a.y ∈ ns) ∧
  ∀ H' v, Same H H' → AtomsAt H' v (numbered l ns) → Q v H'
theorem sc_numbered_atoms : FnScope ["atoms", "order", "atom"] ["atoms", "order"] (C8.fnScope s_numbered_atoms) := C8.fnScope_by (by decide +kernel)
theorem idx_first : ∀ {ns : List Nat} {n : Nat}, n ∈ ns → ns[ns.idxOf n]? = some n ∧ ∀ m, m < ns.idxOf n → ns[m]? ≠ some n
  | a :: r, n, h => by
    by_cases e : a = n
    · subst e
      rw [List.idxOf_cons_self]
      exact ⟨rfl, fun m hm => absurd hm (Nat.not_lt_zero _)⟩
    · have hr : n ∈ r := by
        rcases List.mem_cons.mp h with z | z
        · exact absurd z.symm e
        · exact z
      obtain ⟨h1, h2⟩ := idx_first hr
      rw [List.idxOf_cons, show (a == n) = false from beq_eq_false_iff_ne.mpr e]
      refine ⟨h1, fun m hm => ?_⟩
      cases m with
      | zero => exact fun z => e (Option.some.inj z)
      | succ m => exact h2 m (Nat.lt_of_succ_lt_succ hm)
/-- order.index(n): what mt_index asks -/
theorem index_facts {ns : List Nat} {n : Nat} (hm : n ∈ ns) : (nV ns)[ns.idxOf n]? = some (.int (n : Int)) ∧ eqV (.int (n : Int)) (.int (n : Int)) = true ∧ ∀ (m : Nat) (z : V), m < ns.idxOf n → (nV ns)[m]? = some z → eqV z (.int (n : Int)) = false := by
  obtain ⟨h1, h2⟩ := idx_first hm
  refine ⟨nV_get h1, ?_, ?_⟩
  · rw [eqV_int]
    exact decide_eq_true rfl
  · intro m z hlt hz
    obtain ⟨y, hy, rfl⟩ := of_nV hz
    rw [eqV_int]
    exact decide_eq_false fun e => h2 m hlt (by rw [hy]; congr 1; omega)
theorem ok_numbered_atoms (T : Top K mg CR CS) : C8.Cal P w K mg base 1 "numbered_atoms" (spNumbered K) [] := by
  refine cal_of T.d_numbered_atoms sc_numbered_atoms (fun _ _ _ _ _ _ us hl => match us, hl with | [_, _], _ => rfl) (fun vs H Q E h => by obtain ⟨t, p, q, r, rfl, _⟩ := h; rfl) (fun f cdv A outer s H vs Q E hr h => ?_)
  obtain ⟨v, l, o, ns, rfl, ⟨a, xs, rfl, ha, px⟩, hl, hS, hm, k⟩ := h
  refine ⟨_, pss_one (ps_ret (pe_tuple K rfl T.b_tuple
    (pe_lc (own := [("atom", 2)]) (g := gName 2) (tt := tYes) rfl sc_numbered_atoms.nd (pi_list (pv 0))
      (blkOk_by (own := [("atom", 2)]) (N := ["atoms", "order", "atom"]) (sc := C8.fnScope s_numbered_atoms) (by decide +kernel)) (fun _ _ _ _ _ => pg_name (i := 2) sc_numbered_atoms.nd rfl (Or.inl rfl)) (fun _ _ _ _ _ => pts_nil)
      (fun _ _ _ _ _ => pe_tup (pa_cons (pe_ix (r := rIxT K) ix_tup (pv 2) pe_int (fun _ _ => rfl))
        (pa_cons (pe_bmK K rfl (r := rIndex K) PySem.F.plainAttrs_list PySem.F.slot_list_index PySem.F.type_list_index mt_index (pv 1) (pa_cons (pe_ix (r := rIxT K) ix_tup (pv 2) pe_int (fun _ _ => rfl)) pa_nil))
        (pa_cons (pe_bmK K rfl (r := rIndex K) PySem.F.plainAttrs_list PySem.F.slot_list_index PySem.F.type_list_index mt_index (pv 1) (pa_cons (pe_ix (r := rIxT K) ix_tup (pv 2) pe_int (fun _ _ => rfl)) pa_nil)) pa_nil))))))), ?_⟩
  refine ⟨_, rfl, a, rfl, ⟨_, SqL.of' ha⟩, fun D hD => ?_⟩
  refine lc_list (xs := xs) (fun i H' => Same H H' ∧ ∃ ys, H' D = some (.lst ys) ∧ Paired (AtomAt H') ys ((numbered l ns).take i)) ⟨Same.new hD, [], upd_same, by rw [List.take_zero]; exact .nil⟩ (fun i H' _ h => SqL.of' (h.1 _ _ ha)) ?_ ?_
  · rintro i x H1 hx ⟨s1, ys, hD1, py⟩
    obtain ⟨at_, hat, hA⟩ := Paired.get px hx
    obtain ⟨q, rfl, hq⟩ := AtomAt.mono (SameT.of s1) hA
    have hmem := hm at_ (List.mem_of_getElem? hat)
    obtain ⟨x1, x2, x3⟩ := index_facts hmem.1
    obtain ⟨y1, y2, y3⟩ := index_facts hmem.2
    refine ⟨rfl, _, rfl, q, _, 0, _, rfl, rfl, SqT.of' hq, ix_at (i := 0) rfl, ?_⟩
    refine ⟨_, rfl, .inl ⟨rfl, _, s1.seq hS⟩, _, rfl, q, _, 1, _, rfl, rfl, SqT.of' hq, ix_at (i := 1) rfl, o, nV ns, _, ns.idxOf at_.x, _, rfl, rfl, s1.seq hS, rfl, nV_flat _, x1, x2, x3, ?_⟩
    refine ⟨_, rfl, .inl ⟨rfl, _, s1.seq hS⟩, _, rfl, q, _, 2, _, rfl, rfl, SqT.of' hq, ix_at (i := 2) rfl, o, nV ns, _, ns.idxOf at_.y, _, rfl, rfl, s1.seq hS, rfl, nV_flat _, y1, y2, y3, ?_⟩
    refine ⟨(by show 3 ≤ sizeLine; decide), fun p hp => ?_⟩
    have hDp : D ≠ p := ne_of_none hD1 hp
    refine ⟨ys, by rw [upd_ne hDp]; exact hD1, line_small (by rw [Paired.len py, List.length_take, numbered, List.length_map]; omega), Same.step (s1.trans (Same.new hp)) hD, _, upd_same, ?_⟩
    have hn : (numbered l ns)[i]? = some ⟨at_.t, ns.idxOf at_.x, ns.idxOf at_.y⟩ := by
      unfold numbered
      rw [List.getElem?_map, hat]
      rfl
    rw [take_more hn]
    refine Paired.snoc (Paired.imp (fun _ _ z => AtomAt.mono ((SameT.new hp).trans (SameT.lst (ys := ys) (by rw [upd_ne hDp]; exact hD1))) z) py) ⟨p, rfl, ?_⟩
    rw [upd_ne (fun z => hDp z.symm)]
    exact upd_same
  · rintro H1 ⟨s1, ys, hD1, py⟩
    refine ⟨D, ys, rfl, .inl ⟨SqL.of' hD1, fun p hp => ?_⟩⟩
    refine k _ _ (s1.trans (Same.new hp)) ⟨p, ys, rfl, upd_same, ?_⟩
    rw [List.take_of_length_le (by rw [numbered, List.length_map, ← Paired.len px]; exact Nat.le_refl _)] at py
    exact Paired.imp (fun _ _ z => AtomAt.mono (SameT.new hp) z) py
/-! ## options and choices -/
/-- a list of rules -/
def RulesAt (H : Hp) (a : Addr) (l : List Rule) : Prop := ∃ xs, H a = some (.lst xs) ∧ Paired (RuleAt H) xs l
def makersT (one : List Rule) (t : Nat) : List Dx07.Made := one.flatMap fun r => (r.head.filter fun h => h.t == t).map fun h => (r, h)
theorem makersT_len {one : List Rule} (hn : one.length ≤ 2) (h : ∀ r ∈ one, r.head.length ≤ 2) (t : Nat) : (makersT one t).length ≤ 4 := by
  have := flat_le (fun r : Rule => (r.head.filter fun h => h.t == t).map fun h => (r, h)) 2 one fun r hr => by
    rw [List.length_map]
    exact Nat.le_trans (List.length_filter_le _ _) (h r hr)
  show (one.flatMap fun r => (r.head.filter fun h => h.t == t).map fun h => (r, h)).length ≤ 4
  omega
def spOptions : Sp := fun vs H Q _ => ∃ (t : Nat) (a : Addr) (one : List Rule), vs = [.int t, .ref a] ∧ RulesAt H a one ∧ one.length ≤ 2 ∧ (∀ r ∈ one, r.head.length ≤ 2) ∧
  ∀ H' p ys, Same H H' → H' p = some (.lst ys) → H p = none → Paired (MadeAt H') ys (makersT one t) → Q (.ref p) H'
theorem sc_options : FnScope ["table", "first_rules", "found", "rule", "atom"] ["table", "first_rules"] (C8.fnScope s_options) := C8.fnScope_by (by decide +kernel)
theorem int_beqN (a b : Nat) : decide (V.int (a : Int) = V.int (b : Int)) = (a == b) := by
  rw [int_dec]
  exact (Bool.beq_eq_decide_eq a b).symm
theorem ok_options (T : Top K mg CR CS) (c1 : C8.Cal P w K mg base 1 "head_of" spHeadOf []) : C8.Cal P w K mg base 2 "options" spOptions [] := by
  refine cal_of T.d_options sc_options (fun _ _ _ _ _ _ us hl => match us, hl with | [_, _], _ => rfl) (fun vs H Q E h => by obtain ⟨t, p, q, rfl, _⟩ := h; rfl) (fun f cdv A outer s H vs Q E hr h => ?_)
  obtain ⟨t, a, one, rfl, ⟨xs, ha, px⟩, hn, hh, k⟩ := h
  refine ⟨_, pss_cons (ps_set (i := 2) sc_options.nd rfl (Or.inl rfl) (pe_lst pa_nil))
    (pss_cons (ps_for PassesOwn.never rfl (pi_list (pv 1)) (pg_name (i := 3) sc_options.nd rfl (Or.inl rfl))
      (pss_one (ps_for PassesOwn.never rfl (pi_tup (C8.pe_c c1 hr (by decide) rfl (pa_cons (pv 3) pa_nil))) (pg_name (i := 4) sc_options.nd rfl (Or.inl rfl))
        (pss_one (ps_if (pt_cmpR op_eq (pe_ix ix_tup (pv 4) pe_int (fun _ _ => rfl)) (pv 0) (nomark _))
          (pss_one (ps_expr (pe_bm PySem.F.plainAttrs_list PySem.F.slot_list_append PySem.F.type_list_append mt_append (pv 2) (pa_cons (pe_tup (pa_cons (pv 3) (pa_cons (pv 4) pa_nil))) pa_nil)))) pss_nil)))))
    (pss_one (ps_ret (pv 2)))), ?_⟩
  refine ⟨Nat.zero_le _, fun p hp => ?_⟩
  refine ⟨_, rfl, a, rfl, ⟨_, SqL.of' (by rw [upd_ne (ne_of_none ha hp)]; exact ha)⟩, for_list (xs := xs) (fun i σ H' => ∃ v3 v4 : Option V, σ = [some (.int t), some (.ref a), some (.ref p), v3, v4] ∧ Same H H' ∧
    ∃ ys, H' p = some (.lst ys) ∧ Paired (MadeAt H') ys (makersT (one.take i) t)) ⟨none, none, rfl, Same.new hp, [], upd_same, by rw [List.take_zero]; exact .nil⟩ (fun i σ H' _ ⟨_, _, _, h, _⟩ => SqL.of' (h _ _ ha)) ?_ ?_⟩
  · rintro i x σ H1 hx ⟨v3, v4, rfl, s1, ys, hy, py⟩
    obtain ⟨r, hri, hR⟩ := Paired.get px hx
    have hR1 := RuleAt.mono (SameT.of s1) hR
    have hhl := hh r (List.mem_of_getElem? hri)
    refine ⟨_, rfl, x, r, rfl, hR1, fun u ⟨q, as, eu, hq, pq⟩ => ?_⟩
    subst eu
    refine ⟨q, rfl, ⟨_, SqT.of' hq⟩, for_tup (xs := as) (fun j σ H' => ∃ v4 : Option V, σ = [some (.int t), some (.ref a), some (.ref p), some x, v4] ∧ Same H H' ∧ SameT H1 H' ∧
      ∃ ys, H' p = some (.lst ys) ∧ Paired (MadeAt H') ys (makersT (one.take i) t ++ ((r.head.take j).filter fun h => h.t == t).map fun h => (r, h))) ⟨v4, rfl, s1, SameT.refl _, ys, hy, by rw [List.take_zero]; simpa using py⟩
      (fun j σ H' _ ⟨_, _, _, h, _⟩ => SqT.of' (h _ _ hq)) ?_ ?_⟩
    · rintro j y σ H2 hj ⟨v4, rfl, s2, t2, zs, hz, pz⟩
      obtain ⟨at_, hat, hA⟩ := Paired.get pq hj
      obtain ⟨z, rfl, hzt⟩ := AtomAt.mono t2 hA
      have hlen : zs.length ≤ 100 := by
        rw [Paired.len pz, List.length_append, List.length_map]
        have h1 := makersT_len (one := one.take i) (by rw [List.length_take]; omega) (fun r hr => hh r (List.mem_of_mem_take hr)) t
        have h2 := List.length_filter_le (fun h : Atom => h.t == t) (r.head.take j)
        rw [List.length_take] at h2
        omega
      refine ⟨_, rfl, z, _, 0, _, rfl, rfl, SqT.of' hzt, ix_at (i := 0) rfl, _, rfl, rfl, _, rfl, ?_⟩
      rw [int_beqN]
      by_cases c : (at_.t == t) = true
      · rw [c]
        refine ⟨_, rfl, .inl ⟨rfl, _, SqL.of' hz⟩, _, rfl, _, rfl, (by show 2 ≤ sizeLine; decide), fun b hb => ?_⟩
        have hpb : p ≠ b := ne_of_none hz hb
        refine ⟨p, zs, _, rfl, rfl, by rw [upd_ne hpb]; exact hz, line_small (by omega), _, rfl, Same.step (s2.trans (Same.new hb)) hp, ?_, _, upd_same, ?_⟩
        · exact (t2.trans (SameT.new hb)).trans (SameT.lst (ys := zs) (by rw [upd_ne hpb]; exact hz))
        · have t3 : SameT H2 (upd (upd H2 b (.tup [x, .ref z])) p (.lst (zs ++ [V.ref b]))) := (SameT.new hb).trans (SameT.lst (ys := zs) (by rw [upd_ne hpb]; exact hz))
          rw [take_filter _ hat, if_pos c, List.map_append, ← List.append_assoc]
          refine Paired.snoc (Paired.imp (fun _ _ k => MadeAt.mono t3 k) pz) ⟨b, x, .ref z, rfl, ?_, RuleAt.mono (t2.trans t3) hR1, ⟨z, rfl, t3 _ _ hzt⟩⟩
          rw [upd_ne (fun e => hpb e.symm)]
          exact upd_same
      · rw [Bool.not_eq_true] at c
        rw [c]
        refine ⟨_, rfl, s2, t2, zs, hz, ?_⟩
        rw [take_filter _ hat, if_neg (by rw [c]; exact Bool.false_ne_true), List.append_nil]
        exact pz
    · rintro σ H2 ⟨v4, rfl, s2, t2, zs, hz, pz⟩
      refine ⟨_, _, rfl, s2, zs, hz, ?_⟩
      rw [Paired.len pq, List.take_length] at pz
      have e : makersT (one.take (i + 1)) t = makersT (one.take i) t ++ (r.head.filter fun h => h.t == t).map fun h => (r, h) := by
        unfold makersT
        rw [take_more hri, List.flatMap_append]
        simp
      rw [e]
      exact pz
  · rintro σ H1 ⟨v3, v4, rfl, s1, ys, hy, py⟩
    rw [Paired.len px, List.take_length] at py
    exact ⟨_, rfl, k H1 p ys s1 hy hp py⟩
/-- a choice: a list of options -/
def ChoiceAt (H : Hp) (v : V) (c : List Dx07.Made) : Prop := ∃ q xs, v = .ref q ∧ H q = some (.lst xs) ∧ Paired (MadeAt H) xs c
theorem ChoiceAt.same {H H' : Hp} {v : V} {c : List Dx07.Made} (s : Same H H') (h : ChoiceAt H v c) : ChoiceAt H' v c := by
  obtain ⟨q, xs, e, hq, p⟩ := h
  exact ⟨q, xs, e, s _ _ hq, Paired.imp (fun _ _ k => MadeAt.mono (SameT.of s) k) p⟩
theorem ChoiceAt.but {H H' : Hp} {v : V} {c : List Dx07.Made} {p : Addr} {ys : List V} (s : SameBut p H H') (hp : H p = some (.lst ys)) (n : v ≠ .ref p) (h : ChoiceAt H v c) : ChoiceAt H' v c := by
  obtain ⟨q, xs, e, hq, px⟩ := h
  subst e
  exact ⟨q, xs, rfl, s _ _ (fun z => n (by rw [z])) hq, Paired.imp (fun _ _ k => MadeAt.mono (s.tup hp) k) px⟩
def Fresh (H : Hp) (v : V) : Prop := ∀ q, v = .ref q → H q = none
def spChoices : Sp := fun vs H Q _ => ∃ (v : V) (l : List Atom) (a : Addr) (one : List Rule), vs = [v, .ref a] ∧ AtomsAt H v l ∧ l.length ≤ 2 ∧ RulesAt H a one ∧ one.length ≤ 2 ∧ (∀ r ∈ one, Fine r) ∧
  ∀ H' p ys, Same H H' → H' p = some (.lst ys) → H p = none → Paired (fun v c => ChoiceAt H' v c ∧ Fresh H v) ys (Dx07.choices one l) → Q (.ref p) H'
theorem sc_choices : FnScope ["body", "first_rules", "found", "atom", "longer", "choice", "option"] ["body", "first_rules"] (C8.fnScope s_choices) := C8.fnScope_by (by decide +kernel)
theorem choices_snoc (one : List Rule) (l : List Atom) (a : Atom) : Dx07.choices one (l ++ [a]) = (Dx07.choices one l).flatMap fun ch => (makersT one a.t).map fun o => ch ++ [o] := by
  rw [← choices_eq, ← choices_eq, List.foldl_append]
  rfl
theorem pow4 {n : Nat} (h : n ≤ 2) : 4 ^ n ≤ 16 := by
  match n, h with
  | 0, _ => decide
  | 1, _ => decide
  | 2, _ => decide
theorem take_flat_len {α β : Type} (f : α → List β) : ∀ (l : List α) (j : Nat), ((l.take j).flatMap f).length ≤ (l.flatMap f).length
  | [], j => by simp
  | a :: l, 0 => by simp
  | a :: l, j + 1 => by
    have := take_flat_len f l j
    rw [List.take_succ_cons, List.flatMap_cons, List.flatMap_cons, List.length_append, List.length_append]
    omega
theorem ok_choices (T : Top K mg CR CS) (c1 : C8.Cal P w K mg base 2 "options" spOptions []) : C8.Cal P w K mg base 3 "choices" spChoices [] := by
  refine cal_of T.d_choices sc_choices (fun _ _ _ _ _ _ us hl => match us, hl with | [_, _], _ => rfl) (fun vs H Q E h => by obtain ⟨t, p, q, r, rfl, _⟩ := h; rfl) (fun f cdv A outer s H vs Q E hr h => ?_)
  obtain ⟨v, l, a, one, rfl, ⟨qb, ab, rfl, hqb, pb⟩, hl2, ⟨rs, ha, pr⟩, hn, hf, k⟩ := h
  refine ⟨_, pss_cons (ps_set (i := 2) sc_choices.nd rfl (Or.inl rfl) (pe_lst (pa_cons (pe_lst pa_nil) pa_nil)))
    (pss_cons (ps_for PassesOwn.never rfl (pi_tup (pv 0)) (pg_name (i := 3) sc_choices.nd rfl (Or.inl rfl))
      (pss_cons (ps_set (i := 4) sc_choices.nd rfl (Or.inl rfl) (pe_lst pa_nil))
      (pss_cons (ps_for PassesOwn.never rfl (pi_list (pv 2)) (pg_name (i := 5) sc_choices.nd rfl (Or.inl rfl))
        (pss_one (ps_for PassesOwn.never rfl (pi_list (C8.pe_c c1 hr (by decide) rfl (pa_cons (pe_ix ix_tup (pv 3) pe_int (fun _ _ => rfl)) (pa_cons (pv 1) pa_nil)))) (pg_name (i := 6) sc_choices.nd rfl (Or.inl rfl))
          (pss_one (ps_expr (pe_bm PySem.F.plainAttrs_list PySem.F.slot_list_append PySem.F.type_list_append mt_append (pv 4) (pa_cons (pe_op op_cat (pv 5) (pe_lst (pa_cons (pv 6) pa_nil))) pa_nil)))))))
      (pss_one (ps_set (i := 2) sc_choices.nd rfl (Or.inl rfl) (pv 4))))))
    (pss_one (ps_ret (pv 2)))), ?_⟩
  -- found = [[]]
  refine ⟨Nat.zero_le _, fun e0 he0 => ⟨(by show 1 ≤ sizeLine; decide), fun f0 hf0 => ?_⟩⟩
  have s0 : Same H (upd (upd H e0 (.lst [])) f0 (.lst [.ref e0])) := (Same.new he0).trans (Same.new hf0)
  have hef : e0 ≠ f0 := ne_of_none upd_same hf0
  refine ⟨_, rfl, qb, rfl, ⟨_, SqT.of' (s0 _ _ hqb)⟩, for_tup (xs := ab) (fun i σ H' => ∃ (fa : Addr) (fs : List V) (v3 v4 v5 v6 : Option V), σ = [some (.ref qb), some (.ref a), some (.ref fa), v3, v4, v5, v6] ∧ Same H H' ∧
    H' fa = some (.lst fs) ∧ H fa = none ∧ Paired (fun v c => ChoiceAt H' v c ∧ Fresh H v) fs (Dx07.choices one (l.take i)))
    ⟨f0, [.ref e0], none, none, none, none, rfl, s0, upd_same, (Same.new he0).free hf0, by rw [List.take_zero]; exact .cons ⟨⟨e0, [], rfl, by rw [upd_ne hef]; exact upd_same, .nil⟩, fun q e => by cases e; exact he0⟩ .nil⟩ (fun i σ H' _ ⟨_, _, _, _, _, _, _, h, _⟩ => SqT.of' (h _ _ hqb)) ?_ ?_⟩
  · rintro i x σ H1 hx ⟨fa, fs, v3, v4, v5, v6, rfl, s1, hfa, hfaN, pf⟩
    obtain ⟨at_, hat, hA⟩ := Paired.get pb hx
    obtain ⟨q, rfl, hq⟩ := AtomAt.mono (SameT.of s1) hA
    -- longer = []
    refine ⟨Nat.zero_le _, fun lo hlo => ?_⟩
    have s2 : Same H1 (upd H1 lo (.lst [])) := Same.new hlo
    have hil : i < l.length := (List.getElem?_eq_some_iff.mp hat).1
    have htot : ((Dx07.choices one (l.take i)).flatMap fun ch => (makersT one at_.t).map fun o => ch ++ [o]).length ≤ 16 := by
      rw [← choices_snoc, ← take_more hat]
      exact Nat.le_trans (choices_num hn hf _) (pow4 (by rw [List.length_take]; omega))
    refine ⟨_, rfl, fa, rfl, ⟨_, SqL.of' (s2 _ _ hfa)⟩, for_list (xs := fs) (fun j σ H' => ∃ (v5 v6 : Option V) (ls : List V), σ = [some (.ref qb), some (.ref a), some (.ref fa), some (.ref q), some (.ref lo), v5, v6] ∧ Same H1 H' ∧
      H' lo = some (.lst ls) ∧ Paired (fun v c => (ChoiceAt H' v c ∧ v ≠ .ref lo) ∧ Fresh H v) ls (((Dx07.choices one (l.take i)).take j).flatMap fun ch => (makersT one at_.t).map fun o => ch ++ [o]))
      ⟨v5, v6, [], rfl, s2, upd_same, by rw [List.take_zero]; exact .nil⟩ (fun j σ H' _ ⟨_, _, _, _, h, _⟩ => SqL.of' (h _ _ hfa)) ?_ ?_⟩
    · rintro j y σ H2 hj ⟨v5, v6, ls, rfl, s3, hl, pl⟩
      obtain ⟨ch, hch, hC, hCF⟩ := Paired.get pf hj
      obtain ⟨qc, cs, rfl, hqc, pc⟩ := ChoiceAt.same s3 hC
      have hlq : lo ≠ qc := by
        obtain ⟨q', xs', e', h', _⟩ := hC
        cases e'
        exact (ne_of_none h' hlo).symm
      refine ⟨_, rfl, q, _, 0, _, rfl, rfl, SqT.of' (s3 _ _ hq), ix_at (i := 0) rfl, _, rfl, at_.t, a, one, rfl, ⟨rs, (s1.trans s3) _ _ ha, Paired.imp (fun _ _ k => RuleAt.mono (SameT.of (s1.trans s3)) k) pr⟩, hn, fun r hr => (hf r hr).hl.2, fun H3 op os s4 hop hopn po => ?_⟩
      have hlo3 : lo ≠ op := ne_of_none hl hopn
      refine ⟨op, rfl, ⟨_, SqL.of' hop⟩, for_list (xs := os) (fun m σ H' => ∃ (v6 : Option V) (ms : List V), σ = [some (.ref qb), some (.ref a), some (.ref fa), some (.ref q), some (.ref lo), some (.ref qc), v6] ∧ SameBut lo H3 H' ∧
        H' lo = some (.lst ms) ∧ Paired (fun v c => (ChoiceAt H' v c ∧ v ≠ .ref lo) ∧ Fresh H v) ms ((((Dx07.choices one (l.take i)).take j).flatMap fun ch => (makersT one at_.t).map fun o => ch ++ [o]) ++ ((makersT one at_.t).take m).map fun o => ch ++ [o]))
        ⟨v6, ls, rfl, SameBut.refl _ _, s4 _ _ hl, by rw [List.take_zero, List.map_nil, List.append_nil]; exact Paired.imp (fun _ _ k => ⟨⟨ChoiceAt.same s4 k.1.1, k.1.2⟩, k.2⟩) pl⟩ (fun m σ H' _ ⟨_, _, _, h, _⟩ => SqL.of' (h _ _ hlo3.symm hop)) ?_ ?_⟩
      · rintro m z σ H4 hm ⟨v6, ms, rfl, b1, hl4, pm⟩
        obtain ⟨mk, hmk, hM⟩ := Paired.get po hm
        have hqc4 : H4 qc = some (.lst cs) := b1 _ _ hlq.symm (s4 _ _ hqc)
        have t4 : SameT H3 H4 := b1.tup (s4 _ _ hl)
        refine ⟨_, rfl, .inl ⟨rfl, _, SqL.of' hl4⟩, _, rfl, _, rfl, (by show 1 ≤ sizeLine; decide), fun b hb => ?_⟩
        have hcb : qc ≠ b := ne_of_none hqc4 hb
        have hlb : lo ≠ b := ne_of_none hl4 hb
        have hcl : cs.length ≤ 2 := by
          rw [Paired.len pc, choices_len one _ _ (List.mem_of_getElem? hch), List.length_take]
          omega
        refine ⟨qc, b, cs, [z], rfl, rfl, by rw [upd_ne hcb]; exact hqc4, upd_same, Nat.le_of_lt (line_small (by show cs.length + 1 ≤ _; omega)), fun n hnn => ?_⟩
        have hln : lo ≠ n := ne_of_none (show upd H4 b _ lo = some (.lst ms) by rw [upd_ne hlb]; exact hl4) hnn
        have hms : ms.length ≤ 16 := by
          rw [Paired.len pm, List.length_append, List.length_map, List.length_take]
          have h1 := take_flat_len (fun ch : List Dx07.Made => (makersT one at_.t).map fun o => ch ++ [o]) (Dx07.choices one (l.take i)) (j + 1)
          rw [take_more hch, List.flatMap_append, List.length_append] at h1
          have h2 : (List.flatMap (fun ch : List Dx07.Made => (makersT one at_.t).map fun o => ch ++ [o]) [ch]).length = (makersT one at_.t).length := by simp
          omega
        refine ⟨lo, ms, _, rfl, rfl, by rw [upd_ne hln, upd_ne hlb]; exact hl4, line_small (by omega), ?_⟩
        have b2 : SameBut lo H4 (upd (upd (upd H4 b (.lst [z])) n (.lst (cs ++ [z]))) lo (.lst (ms ++ [V.ref n]))) := ((SameBut.of (Same.new hb)).trans (SameBut.of (Same.new hnn))).trans SameBut.set
        refine ⟨_, _, rfl, b1.trans b2, upd_same, ?_⟩
        rw [take_more hmk, List.map_append, ← List.append_assoc]
        refine Paired.snoc (Paired.imp (fun _ _ k => ⟨⟨ChoiceAt.but b2 hl4 k.1.2 k.1.1, k.1.2⟩, k.2⟩) pm) ⟨⟨⟨n, cs ++ [z], rfl, ?_, ?_⟩, fun e => hln (by injection e with e; exact e.symm)⟩, fun q e => by cases e; exact ((Same.but ((s1.trans s3).trans s4) b1 (s1.free hlo)).trans (Same.new hb)).free hnn⟩
        · rw [upd_ne (fun e => hln e.symm)]
          exact upd_same
        · exact Paired.snoc (Paired.imp (fun _ _ k => MadeAt.mono ((SameT.of s4).trans (t4.trans (b2.tup hl4))) k) pc) (MadeAt.mono (t4.trans (b2.tup hl4)) hM)
      · rintro σ H4 ⟨v6, ms, rfl, b1, hl4, pm⟩
        rw [Paired.len po, List.take_length] at pm
        refine ⟨_, v6, ms, rfl, Same.but (s3.trans s4) b1 hlo, hl4, ?_⟩
        have e : ((Dx07.choices one (l.take i)).take (j + 1)).flatMap (fun ch => (makersT one at_.t).map fun o => ch ++ [o]) = (((Dx07.choices one (l.take i)).take j).flatMap fun ch => (makersT one at_.t).map fun o => ch ++ [o]) ++ (makersT one at_.t).map fun o => ch ++ [o] := by
          rw [take_more hch, List.flatMap_append]
          simp
        rw [e]
        exact pm
    · rintro σ H2 ⟨v5, v6, ls, rfl, s3, hl, pl⟩
      rw [Paired.len pf, List.take_length] at pl
      refine ⟨_, rfl, lo, ls, _, _, _, _, rfl, s1.trans s3, hl, s1.free hlo, ?_⟩
      rw [take_more hat, choices_snoc]
      exact Paired.imp (fun _ _ k => ⟨k.1.1, k.2⟩) pl
  · rintro σ H1 ⟨fa, fs, v3, v4, v5, v6, rfl, s1, hfa, hfaN, pf⟩
    rw [Paired.len pb, List.take_length] at pf
    exact ⟨_, rfl, k H1 fa fs s1 hfa hfaN pf⟩
/-! ## names_of_variables -/
theorem for_enumK {K : PySem.W.Frag} {a : Addr} {k : Int} {xs : List V} {g : TG} {tb : TS} {D : Ends} {σ : L2.St} {H : Hp} (Pv : Nat → L2.St → Hp → Prop) (h0 : Pv 0 σ H) (hl : ∀ i σ H, i ≤ xs.length → Pv i σ H → SqL K H a xs)
    (hs : ∀ i x σ H T, xs[i]? = some x → Pv i σ H → H T = none → g (.ref T) σ (upd H T (.tup [.int (k + (i : Nat)), x])) fun σ2 H2 => tb { D with nx := Pv (i + 1), ct := Pv (i + 1), bk := D.nx } σ2 H2) (hd : ∀ σ H, Pv xs.length σ H → D.nx σ H) :
    ∃ W : Nat → Nat → L2.St → Hp → Prop, (∃ m, W 0 m σ H) ∧ ∀ i m σ H, W i m σ H →
      ((IteK K a k).stop i H ∧ D.nx σ H) ∨ ((IteK K a k).go i H ∧ ∃ N : L2.St → Hp → Prop, (∀ σ' H', N σ' H' → ∃ m', m' < m ∧ W (i + 1) m' σ' H') ∧ ∀ x H', (IteK K a k).yld i H x H' → g x σ H' fun σ2 H2 => tb { D with nx := N, ct := N, bk := D.nx } σ2 H2) := by
  refine ⟨fun i r σ H => r = xs.length - i ∧ i ≤ xs.length ∧ Pv i σ H, ⟨xs.length, by simp, Nat.zero_le _, h0⟩, ?_⟩
  rintro i r σ H ⟨rfl, hi, p⟩
  have q := hl i σ H hi p
  by_cases hlt : i < xs.length
  · refine .inr ⟨⟨xs, xs[i], q, by simp [hlt]⟩, Pv (i + 1), fun σ' H' p' => ⟨xs.length - (i + 1), by omega, rfl, hlt, p'⟩, fun x H' y => ?_⟩
    obtain ⟨T, z, e1, hT, e2, y⟩ := y
    subst e1 e2
    exact hs i z σ _ T (y xs q) p hT
  · have e : i = xs.length := by omega
    subst e
    exact .inl ⟨⟨xs, q, rfl⟩, hd σ H p⟩
theorem eqs_more : ∀ (b : List Atom) (c : List Dx07.Made) (s i : Nat) (a : Atom) (m : Dx07.Made), b[i]? = some a → c[i]? = some m → eqs s b (c.take (i + 1)) = eqs s b (c.take i) ++ [(a.x, copied m.2.x (s + i + 1)), (a.y, copied m.2.y (s + i + 1))]
  | [], _, _, _, _, _, h, _ => by simp at h
  | _ :: _, [], _, _, _, _, _, h => by simp at h
  | x :: b, y :: c, s, 0, a, m, h1, h2 => by
    have e1 := Option.some.inj (show some x = some a from h1)
    have e2 := Option.some.inj (show some y = some m from h2)
    subst e1 e2
    show eqs s (x :: b) (y :: c.take 0) = eqs s (x :: b) [] ++ _
    cases b <;> rfl
  | x :: b, y :: c, s, i + 1, a, m, h1, h2 => by
    have ih := eqs_more b c (s + 1) i a m h1 h2
    show eqs s (x :: b) (y :: c.take (i + 1)) = eqs s (x :: b) (y :: c.take i) ++ _
    show (x.x, copied y.2.x (s + 1)) :: (x.y, copied y.2.y (s + 1)) :: eqs (s + 1) b (c.take (i + 1)) = ((x.x, copied y.2.x (s + 1)) :: (x.y, copied y.2.y (s + 1)) :: eqs (s + 1) b (c.take i)) ++ _
    rw [ih, show s + 1 + i + 1 = s + (i + 1) + 1 by omega]
    rfl
theorem rgV_nat (n : Nat) : rgV 0 (n : Int) = nV (List.range n) := by
  unfold rgV nV
  rw [show ((n : Int) - 0).toNat = n by omega]
  refine List.map_congr_left fun i _ => ?_
  rw [Int.zero_add]
abbrev eqStep (ns : List Nat) (p : Nat × Nat) : List Nat := mkEq ns p.1 p.2
def spNames : Sp := fun vs H Q _ => ∃ (v : V) (b : List Atom) (a : Addr) (c : List Dx07.Made), vs = [v, .ref a] ∧ AtomsAt H v b ∧ ChoiceAt H (.ref a) c ∧ c.length = b.length ∧ b.length ≤ 2 ∧ (∀ x ∈ b, x.x < 5 ∧ x.y < 5) ∧ (∀ m ∈ c, m.2.x < 5 ∧ m.2.y < 5) ∧
  ∀ H' p, Same H H' → H' p = some (.lst (nV (namesOf b c))) → Q (.ref p) H'
theorem sc_names : FnScope ["body", "choice", "names", "copy_number", "option", "atom", "chosen", "place"] ["body", "choice"] (C8.fnScope s_names_of_variables) := C8.fnScope_by (by decide +kernel)
theorem ok_names_of_variables (T : Top K mg CR CS) (c1 : C8.Cal P w K mg base 1 "made_equal" (spMadeEqual K) []) (c2 : C8.Cal P w K mg base 1 "copied" spCopied []) : C8.Cal P w K mg base 2 "names_of_variables" spNames [] := by
  refine cal_of T.d_names_of_variables sc_names (fun _ _ _ _ _ _ us hl => match us, hl with | [_, _], _ => rfl) (fun vs H Q E h => by obtain ⟨t, p, q, r, rfl, _⟩ := h; rfl) (fun f cdv A outer s H vs Q E hr h => ?_)
  obtain ⟨v, b, a, c, rfl, ⟨qb, ab, rfl, hqb, pb⟩, ⟨a', cs, ea, hca, pc⟩, hl, h2, hb, hc, k⟩ := h
  cases ea
  obtain ⟨t5, m5⟩ := T.c_VARIABLES
  obtain ⟨t1, m1⟩ := T.c_FIRST_COPY
  refine ⟨_, pss_cons (ps_set (i := 2) sc_names.nd rfl (Or.inl rfl) (pe_listRg rfl rfl T.b_list (prg_1 rfl T.b_range (pe_op op_mul (pgI m5) (pe_op op_add (pe_len K rfl T.b_len (pv 1)) (pgI m1))))))
    (pss_cons (ps_for PassesOwn.never rfl (pi_enumK T.b_enumerate (pa_cons (pv 1) pa_nil) (pk_cons (pgI m1) pk_nil)) (pg_tup rfl (pgs_cons (pg_name (i := 3) sc_names.nd rfl (Or.inl rfl)) (pgs_cons (pg_name (i := 4) sc_names.nd rfl (Or.inl rfl)) pgs_nil)))
      (pss_cons (ps_set (i := 5) sc_names.nd rfl (Or.inl rfl) (pe_ix ix_tup (pv 0) (pe_op op_sub (pv 3) (pgI m1)) (fun _ _ => rfl)))
      (pss_cons (ps_set (i := 6) sc_names.nd rfl (Or.inl rfl) (pe_ix ix_tup (pv 4) pe_int (fun _ _ => rfl)))
      (pss_one (ps_for PassesOwn.never rfl (pi_tup (pe_tup (pa_cons pe_int (pa_cons pe_int pa_nil)))) (pg_name (i := 7) sc_names.nd rfl (Or.inl rfl))
        (pss_one (ps_set (i := 2) sc_names.nd rfl (Or.inl rfl) (C8.pe_c c1 hr (by decide) rfl (pa_cons (pv 2) (pa_cons (pe_ix ix_tup (pv 5) (pv 7) (fun _ _ => rfl))
          (pa_cons (C8.pe_c c2 hr (by decide) rfl (pa_cons (pe_ix ix_tup (pv 6) (pv 7) (fun _ _ => rfl)) (pa_cons (pv 3) pa_nil))) pa_nil)))))))))))
    (pss_one (ps_ret (pv 2)))), ?_⟩
  have ecs : cs.length = c.length := Paired.len pc
  refine ⟨_, rfl, a, _, rfl, .inl (SqL.of' hca), _, _, rfl, rfl, _, _, rfl, rfl, .inl ⟨by decide, by decide⟩, _, rfl, RgOk.of_le (by decide) (by rw [ecs]; omega) (by decide) (by omega), fun p0 hp0 => ?_⟩
  have e5 : ((5 : Int) * ((cs.length : Int) + 1)) = ((5 * (c.length + 1) : Nat) : Int) := by
    rw [ecs]
    omega
  rw [e5, rgV_nat] at *
  have s0 : Same H (upd H p0 (.lst (nV (List.range (5 * (c.length + 1)))))) := Same.new hp0
  have nlen : ∀ l : List (Nat × Nat), (l.foldl eqStep (List.range (5 * (c.length + 1)))).length = 5 * (c.length + 1) := fun l => by
    rw [show l.foldl eqStep (List.range (5 * (c.length + 1))) = l.foldl (fun ns p => mkEq ns p.1 p.2) (List.range (5 * (c.length + 1))) from rfl, names_len, List.length_range]
  refine ⟨_, rfl, a, cs, 1, rfl, rfl, SqL.of' (s0 _ _ hca), ⟨by decide, by decide⟩, for_enumK (xs := cs) (fun i σ H' => ∃ (p : Addr) (v3 v4 v5 v6 v7 : Option V), σ = [some (.ref qb), some (.ref a), some (.ref p), v3, v4, v5, v6, v7] ∧ Same H H' ∧
    H' p = some (.lst (nV ((eqs 0 b (c.take i)).foldl eqStep (List.range (5 * (c.length + 1))))))) ⟨p0, none, none, none, none, none, rfl, s0, by rw [List.take_zero]; cases b <;> exact upd_same⟩ (fun i σ H' _ ⟨_, _, _, _, _, _, _, h, _⟩ => SqL.of' (h _ _ hca)) ?_ ?_⟩
  · rintro i x σ H1 t hx ⟨p, v3, v4, v5, v6, v7, rfl, s1, hp⟩ ht
    obtain ⟨mk, hmk, hM⟩ := Paired.get pc hx
    have hib : i < b.length := by
      have := (List.getElem?_eq_some_iff.mp hmk).1
      omega
    have hbi := List.getElem?_eq_getElem hib
    generalize b[i] = at_ at hbi
    obtain ⟨xb, hxb, hA⟩ := Paired.get' pb hbi
    have s2 : Same H (upd H1 t (.tup [.int (1 + (i : Nat)), x])) := s1.trans (Same.new ht)
    obtain ⟨qm, mr, ma, rfl, hqm, hmr, hma⟩ := MadeAt.mono (SameT.of s2) hM
    obtain ⟨qc, rfl, hqc⟩ := hma
    obtain ⟨qa, rfl, hqa⟩ := AtomAt.mono (SameT.of s2) hA
    have hpt : p ≠ t := ne_of_none hp ht
    refine ⟨t, _, rfl, SqT.of' upd_same, rfl, _, _, rfl, _, _, rfl, rfl, ?_⟩
    refine ⟨_, rfl, _, rfl, _, _, rfl, rfl, qb, ab, _, _, rfl, rfl, SqT.of' (s2 _ _ hqb), (by rw [show (1 + (i : Int) - 1) = (i : Int) by omega]; exact ix_at hxb), ?_⟩
    refine ⟨_, rfl, qm, _, 1, _, rfl, rfl, SqT.of' hqm, ix_at (i := 1) rfl, ?_⟩
    -- for place in (1, 2)
    refine ⟨(by show 2 ≤ sizeLine; decide), fun pl hpl => ?_⟩
    have hbl := hb at_ (List.mem_of_getElem? hbi)
    have hml := hc mk (List.mem_of_getElem? hmk)
    have s3 := s2.trans (Same.new (o := .tup [V.int 1, V.int 2]) hpl)
    refine ⟨pl, rfl, ⟨_, SqT.of' upd_same⟩, for_tup (xs := [V.int 1, V.int 2]) (fun j σ H' => ∃ (p : Addr) (v7 : Option V), σ = [some (.ref qb), some (.ref a), some (.ref p), some (.int (1 + (i : Nat))), some (.ref qm), some (.ref qa), some (.ref qc), v7] ∧
      Same (upd (upd H1 t (.tup [.int (1 + (i : Nat)), .ref qm])) pl (.tup [V.int 1, V.int 2])) H' ∧
      H' p = some (.lst (nV (([(at_.x, copied mk.2.x (i + 1)), (at_.y, copied mk.2.y (i + 1))].take j).foldl eqStep ((eqs 0 b (c.take i)).foldl eqStep (List.range (5 * (c.length + 1))))))))
      ⟨p, v7, rfl, Same.refl _, by rw [upd_ne (ne_of_none (show upd H1 t _ p = _ by rw [upd_ne hpt]; exact hp) hpl), upd_ne hpt]; exact hp⟩ (fun j σ H' _ ⟨_, _, _, h, _⟩ => SqT.of' (h _ _ upd_same)) ?_ ?_⟩
    · rintro j y σ H2 hj ⟨p, v7, rfl, s4, hp2⟩
      have hq1 := s4 _ _ (Same.new hpl _ _ hqa)
      have hq2 := s4 _ _ (Same.new hpl _ _ hqc)
      have hi2 : i + 1 ≤ c.length := (List.getElem?_eq_some_iff.mp hmk).1
      have hlen : ∀ j : Nat, (([(at_.x, copied mk.2.x (i + 1)), (at_.y, copied mk.2.y (i + 1))].take j).foldl eqStep ((eqs 0 b (c.take i)).foldl eqStep (List.range (5 * (c.length + 1))))).length = 5 * (c.length + 1) := fun j => by
        rw [← List.foldl_append]
        exact nlen _
      have e1 : (1 + ((i : Nat) : Int)) = ((i + 1 : Nat) : Int) := by omega
      match j, hj with
      | 0, hj =>
        cases hj
        refine ⟨_, rfl, _, rfl, _, rfl, qa, _, ((1 : Nat) : Int), _, rfl, rfl, SqT.of' hq1, ix_at (i := 1) rfl, _, rfl, _, rfl, qc, _, ((1 : Nat) : Int), _, rfl, rfl, SqT.of' hq2, ix_at (i := 1) rfl, _, rfl, mk.2.x, i + 1, (by rw [e1]; rfl), by omega, ?_⟩
        refine ⟨p, _, at_.x, copied mk.2.x (i + 1), rfl, SqL.of' hp2, ?_, ?_, ?_, fun H3 p' s5 hp3 => ⟨p', _, rfl, s4.trans s5, hp3⟩⟩
        · rw [hlen]
          omega
        · rw [hlen]
          unfold copied
          omega
        · rw [hlen]
          omega
      | 1, hj =>
        cases hj
        refine ⟨_, rfl, _, rfl, _, rfl, qa, _, ((2 : Nat) : Int), _, rfl, rfl, SqT.of' hq1, ix_at (i := 2) rfl, _, rfl, _, rfl, qc, _, ((2 : Nat) : Int), _, rfl, rfl, SqT.of' hq2, ix_at (i := 2) rfl, _, rfl, mk.2.y, i + 1, (by rw [e1]; rfl), by omega, ?_⟩
        refine ⟨p, _, at_.y, copied mk.2.y (i + 1), rfl, SqL.of' hp2, ?_, ?_, ?_, fun H3 p' s5 hp3 => ⟨p', _, rfl, s4.trans s5, hp3⟩⟩
        · rw [hlen]
          omega
        · rw [hlen]
          unfold copied
          omega
        · rw [hlen]
          omega
      | j + 2, hj => simp at hj
    · rintro σ H2 ⟨p, v7, rfl, s4, hp2⟩
      refine ⟨p, _, _, _, _, _, rfl, s3.trans s4, ?_⟩
      rw [eqs_more b c 0 i at_ mk hbi hmk, List.foldl_append, show 0 + i + 1 = i + 1 by omega]
      exact hp2
  · rintro σ H1 ⟨p, v3, v4, v5, v6, v7, rfl, s1, hp⟩
    rw [ecs, List.take_length] at hp
    exact ⟨_, rfl, k H1 p s1 hp⟩
/-! ## composed_rule -/
theorem hu65 {k : Nat} {A : Around} (hr : Room k A) : A.units + 65 < cLine := by
  have := hr.un
  omega
theorem bodyFrom_more (ns : List Nat) : ∀ (c : List Dx07.Made) (s i : Nat) (acc : List Atom) (m : Dx07.Made), c[i]? = some m → bodyFrom ns s (c.take (i + 1)) acc = m.1.body.foldl (fun acc a => putNew acc (namedAtom ns a (s + i + 1))) (bodyFrom ns s (c.take i) acc)
  | [], _, _, _, _, h => by simp at h
  | y :: c, s, 0, acc, m, h => by
    have e := Option.some.inj (show some y = some m from h)
    subst e
    rfl
  | y :: c, s, i + 1, acc, m, h => by
    have ih := bodyFrom_more ns c (s + 1) i (y.1.body.foldl (fun acc a => putNew acc (namedAtom ns a (s + 1))) acc) m h
    show bodyFrom ns (s + 1) (c.take (i + 1)) _ = _
    rw [ih, show s + 1 + i + 1 = s + (i + 1) + 1 by omega]
    rfl
theorem foldNew_len {α β : Type} [BEq β] (f : α → β) : ∀ (l : List α) (m : List β), (l.foldl (fun acc a => putNew acc (f a)) m).length ≤ m.length + l.length
  | [], m => Nat.le_refl _
  | a :: l, m => by
    have h1 := putNew_len m (f a)
    have h2 := foldNew_len f l (putNew m (f a))
    rw [List.foldl_cons, List.length_cons]
    omega
theorem bodyFrom_len (ns : List Nat) : ∀ (c : List Dx07.Made) (s : Nat) (acc : List Atom), (∀ m ∈ c, m.1.body.length ≤ 2) → (bodyFrom ns s c acc).length ≤ acc.length + 2 * c.length
  | [], _, _, _ => Nat.le_refl _
  | y :: c, s, acc, h => by
    have h1 := foldNew_len (fun a => namedAtom ns a (s + 1)) y.1.body acc
    have h2 := bodyFrom_len ns c (s + 1) (y.1.body.foldl (fun acc a => putNew acc (namedAtom ns a (s + 1))) acc) fun m hm => h m (List.Mem.tail _ hm)
    have h3 := h y (List.Mem.head _)
    show (bodyFrom ns (s + 1) c _).length ≤ _
    rw [List.length_cons]
    omega
theorem mem_put {α : Type} [BEq α] [LawfulBEq α] (m : List α) (a : α) : a ∈ putNew m a := by
  unfold putNew
  split
  · next h => exact List.contains_iff_mem.mp h
  · exact List.mem_append_right _ (List.mem_singleton.mpr rfl)
theorem mem_put_old {α : Type} [BEq α] {m : List α} {a x : α} (h : x ∈ m) : x ∈ putNew m a := by
  unfold putNew
  split
  · exact h
  · exact List.mem_append_left _ h
theorem mem_folded_old {α : Type} [BEq α] : ∀ (l m : List α) (x : α), x ∈ m → x ∈ l.foldl putNew m
  | [], _, _, h => h
  | a :: l, m, x, h => mem_folded_old l (putNew m a) x (mem_put_old h)
theorem mem_folded {α : Type} [BEq α] [LawfulBEq α] : ∀ (l m : List α) (x : α), x ∈ l → x ∈ l.foldl putNew m
  | a :: l, m, x, h => by
    rcases List.mem_cons.mp h with z | z
    · rw [z]
      exact mem_folded_old l (putNew m a) a (mem_put m a)
    · exact mem_folded l (putNew m a) x z
theorem places_mem {l : List Atom} {a : Atom} (h : a ∈ l) : a.x ∈ Dx.places l ∧ a.y ∈ Dx.places l := by
  rw [places_eq]
  exact ⟨mem_folded _ _ _ (List.mem_flatMap.mpr ⟨a, h, List.Mem.head _⟩), mem_folded _ _ _ (List.mem_flatMap.mpr ⟨a, h, List.Mem.tail _ (List.Mem.head _)⟩)⟩
theorem namesOf_len (b : List Atom) (c : List Dx07.Made) : (namesOf b c).length = 5 * (c.length + 1) := by
  unfold namesOf
  rw [names_len, List.length_range]
def spComposedRule : Sp := fun vs H Q _ => ∃ (v : V) (r : Rule) (a : Addr) (c : List Dx07.Made), vs = [v, .ref a] ∧ RuleAt H v r ∧ ChoiceAt H (.ref a) c ∧ c.length = r.body.length ∧ Fine r ∧ (∀ m ∈ c, (m.2.x < 5 ∧ m.2.y < 5) ∧ (∀ x ∈ m.1.body, x.x < 5 ∧ x.y < 5) ∧ m.1.body.length ≤ 2) ∧
  ∀ H' v, Same H H' → RuleAt H' v (throughM r c) → Q v H'
theorem sc_composed_rule : FnScope ["second_rule", "choice", "names", "body", "copy_number", "option", "atom", "named", "head", "order"] ["second_rule", "choice"] (C8.fnScope s_composed_rule) := C8.fnScope_by (by decide +kernel)
theorem ok_composed_rule (T : Top K mg CR CS) (c1 : C8.Cal P w K mg base 2 "names_of_variables" spNames []) (c2 : C8.Cal P w K mg base 1 "body_of" spBodyOf []) (c3 : C8.Cal P w K mg base 1 "head_of" spHeadOf [])
    (c4 : C8.Cal P w K mg base 2 "named_atom" (spNamedAtom K) []) (c5 : C8.Cal P w K mg base 1 "variables_of" (spVariables K) []) (c6 : C8.Cal P w K mg base 1 "numbered_atoms" (spNumbered K) []) : C8.Cal P w K mg base 3 "composed_rule" spComposedRule [] := by
  refine cal_of T.d_composed_rule sc_composed_rule (fun _ _ _ _ _ _ us hl => match us, hl with | [_, _], _ => rfl) (fun vs H Q E h => by obtain ⟨t, p, q, r, rfl, _⟩ := h; rfl) (fun f cdv A outer s H vs Q E hr h => ?_)
  obtain ⟨v, r, a, c, rfl, hR, hC, hl, hF, hc, k⟩ := h
  obtain ⟨tS, mS⟩ := T.c_SECOND_RULE
  obtain ⟨t1, m1⟩ := T.c_FIRST_COPY
  refine ⟨_, pss_cons (ps_set (i := 2) sc_composed_rule.nd rfl (Or.inr rfl) (C8.pe_c c1 hr (by decide) rfl (pa_cons (C8.pe_c c2 hr (by decide) rfl (pa_cons (pv 0) pa_nil)) (pa_cons (pv 1) pa_nil))))
    (pss_cons (ps_set (i := 3) sc_composed_rule.nd rfl (Or.inl rfl) (pe_lst pa_nil))
    (pss_cons (ps_for PassesOwn.never rfl (pi_enumK T.b_enumerate (pa_cons (pv 1) pa_nil) (pk_cons (pgI m1) pk_nil)) (pg_tup rfl (pgs_cons (pg_name (i := 4) sc_composed_rule.nd rfl (Or.inl rfl)) (pgs_cons (pg_name (i := 5) sc_composed_rule.nd rfl (Or.inl rfl)) pgs_nil)))
      (pss_one (ps_for PassesOwn.never rfl (pi_tup (C8.pe_c c2 hr (by decide) rfl (pa_cons (pe_ix ix_tup (pv 5) pe_int (fun _ _ => rfl)) pa_nil))) (pg_name (i := 6) sc_composed_rule.nd rfl (Or.inl rfl))
        (pss_cons (ps_set (i := 7) sc_composed_rule.nd rfl (Or.inl rfl) (C8.pe_c c4 hr (by decide) rfl (pa_cons (pv 6) (pa_cons (pv 4) (pa_cons (pv 2) pa_nil)))))
        (pss_one (ps_if (pt_cmpR (op_notInD (hu65 hr)) (pv 7) (pv 3) rfl)
          (pss_one (ps_expr (pe_bm PySem.F.plainAttrs_list PySem.F.slot_list_append PySem.F.type_list_append mt_append (pv 3) (pa_cons (pv 7) pa_nil)))) pss_nil))))))
    (pss_cons (ps_setLc (i := 8) (own := [("atom", 6)]) (g := gName 6) (tt := tYes) rfl sc_composed_rule.nd rfl rfl (sw_true rfl rfl rfl (by decide +kernel)) (pi_tup (C8.pe_c c3 hr (by decide) rfl (pa_cons (pv 0) pa_nil)))
      (blkOk_by (own := [("atom", 6)]) (N := ["second_rule", "choice", "names", "body", "copy_number", "option", "atom", "named", "head", "order"]) (sc := C8.fnScope s_composed_rule) (by decide +kernel)) (fun _ _ _ _ _ => pg_name (i := 6) sc_composed_rule.nd rfl (Or.inl rfl)) (fun _ _ _ _ _ => pts_nil)
      (fun _ _ _ _ _ => C8.pe_c c4 hr (by decide) rfl (pa_cons (pv 6) (pa_cons (pgI mS) (pa_cons (pv 2) pa_nil)))))
    (pss_cons (ps_set (i := 9) sc_composed_rule.nd rfl (Or.inl rfl) (C8.pe_c c5 hr (by decide) rfl (pa_cons (pe_op op_cat (pv 3) (pv 8)) pa_nil)))
    (pss_one (ps_ret (pe_tup (pa_cons (C8.pe_c c6 hr (by decide) rfl (pa_cons (pv 3) (pa_cons (pv 9) pa_nil))) (pa_cons (C8.pe_c c6 hr (by decide) rfl (pa_cons (pv 8) (pa_cons (pv 9) pa_nil))) pa_nil))))))))), ?_⟩
  obtain ⟨a', cs, ea, hca, pc⟩ := id hC
  cases ea
  have ecs : cs.length = c.length := Paired.len pc
  have hcl : c.length ≤ 2 := by
    rw [hl]
    exact hF.bl.2
  refine ⟨_, rfl, v, r, rfl, hR, fun u hu => ⟨_, rfl, u, r.body, a, c, rfl, hu, hC, hl, hF.bl.2, hF.bs, (fun m hm => (hc m hm).1), fun H1 pn s1 hpn => ?_⟩⟩
  refine ⟨Nat.zero_le _, fun pb hpb => ?_⟩
  have hnl : (namesOf r.body c).length = 5 * (c.length + 1) := namesOf_len _ _
  generalize hns : namesOf r.body c = ns at hpn hnl
  have s2 : Same H1 (upd H1 pb (.lst [])) := Same.new hpb
  refine ⟨_, rfl, a, cs, 1, rfl, rfl, SqL.of' (s2 _ _ (s1 _ _ hca)), ⟨by decide, by decide⟩, for_enumK (xs := cs) (fun i σ H' => ∃ (v4 v5 v6 v7 : Option V) (bs : List V), σ = [some v, some (.ref a), some (.ref pn), some (.ref pb), v4, v5, v6, v7, none, none] ∧ Same H1 H' ∧
    H' pb = some (.lst bs) ∧ Paired (AtomAt H') bs (bodyFrom ns 0 (c.take i) [])) ⟨none, none, none, none, [], rfl, s2, upd_same, by rw [List.take_zero]; exact .nil⟩ (fun i σ H' _ ⟨_, _, _, _, _, _, h, _⟩ => SqL.of' (h _ _ (s1 _ _ hca))) ?_ ?_⟩
  · rintro i x σ H2 t hx ⟨v4, v5, v6, v7, bs, rfl, s3, hb, pbs⟩ ht
    obtain ⟨mk, hmk, hM⟩ := Paired.get pc hx
    have hi2 : i + 1 ≤ c.length := (List.getElem?_eq_some_iff.mp hmk).1
    have s4 : Same H1 (upd H2 t (.tup [.int (1 + (i : Nat)), x])) := s3.trans (Same.new ht)
    have hbt : pb ≠ t := ne_of_none hb ht
    obtain ⟨qm, mr, ma, rfl, hqm, hmr, hma⟩ := MadeAt.mono (SameT.of (s1.trans s4)) hM
    have hcm := hc mk (List.mem_of_getElem? hmk)
    refine ⟨t, _, rfl, SqT.of' upd_same, rfl, _, _, rfl, _, _, rfl, rfl, ?_⟩
    refine ⟨_, rfl, qm, _, 0, _, rfl, rfl, SqT.of' hqm, ix_at (i := 0) rfl, mr, mk.1, rfl, hmr, fun u ⟨qa, as, eu, hqa, pa⟩ => ?_⟩
    subst eu
    refine ⟨qa, rfl, ⟨_, SqT.of' hqa⟩, for_tup (xs := as) (fun j σ H' => ∃ (v6 v7 : Option V) (bs : List V), σ = [some v, some (.ref a), some (.ref pn), some (.ref pb), some (.int (1 + (i : Nat))), some (.ref qm), v6, v7, none, none] ∧ Same H1 H' ∧ SameT (upd H2 t (.tup [.int (1 + (i : Nat)), .ref qm])) H' ∧
      H' pb = some (.lst bs) ∧ Paired (AtomAt H') bs ((mk.1.body.take j).foldl (fun acc a => putNew acc (namedAtom ns a (i + 1))) (bodyFrom ns 0 (c.take i) [])))
      ⟨v6, v7, bs, rfl, s4, SameT.refl _, by rw [upd_ne hbt]; exact hb, by rw [List.take_zero]; exact Paired.imp (fun _ _ k => AtomAt.mono (SameT.new ht) k) pbs⟩ (fun j σ H' _ ⟨_, _, _, _, _, h, _⟩ => SqT.of' (h _ _ hqa)) ?_ ?_⟩
    · rintro j y σ H3 hj ⟨v6, v7, bs, rfl, s5, t5, hb3, pbs3⟩
      obtain ⟨at_, hat, hA⟩ := Paired.get pa hj
      have hax := hcm.2.1 at_ (List.mem_of_getElem? hat)
      have e1 : (1 + ((i : Nat) : Int)) = ((i + 1 : Nat) : Int) := by omega
      refine ⟨_, rfl, _, rfl, _, rfl, y, at_, i + 1, pn, ns, (by rw [e1]; rfl), AtomAt.mono t5 hA, by omega, SqL.of' (s5 _ _ hpn), ?_, ?_, fun H4 u s6 hu => ?_⟩
      · rw [hnl]
        unfold copied
        omega
      · rw [hnl]
        unfold copied
        omega
      · have hb4 := s6 _ _ hb3
        have pbs4 := Paired.imp (fun _ _ k => AtomAt.mono (SameT.of s6) k) pbs3
        refine ⟨_, rfl, _, rfl, dAtom (namedAtom ns at_ (i + 1)), _, TriAt.dp hu, .lst (SqL.of' hb4) (dp_all (d := dAtom) (fun _ _ k => TriAt.dp k) pbs4), shaped_tri _ _ _, shaped_list (fun a => dTri_lay _ _ _) (fun a => by show (dTri a.t a.x a.y).depth ≤ 63; rw [dTri_depth]; decide) _, _, rfl, ?_⟩
        rw [any_eqv dAtom_eqv]
        have hlen : bs.length ≤ 100 := by
          rw [Paired.len pbs3]
          have h1 := foldNew_len (fun a => namedAtom ns a (i + 1)) (mk.1.body.take j) (bodyFrom ns 0 (c.take i) [])
          have h2 := bodyFrom_len ns (c.take i) 0 [] fun m hm => (hc m (List.mem_of_mem_take hm)).2.2
          rw [List.length_take] at h1 h2
          have h3 := hcm.2.2
          have h4 : ([] : List Atom).length = 0 := rfl
          omega
        by_cases cc : ((mk.1.body.take j).foldl (fun acc a => putNew acc (namedAtom ns a (i + 1))) (bodyFrom ns 0 (c.take i) [])).contains (namedAtom ns at_ (i + 1)) = true
        · rw [cc]
          refine ⟨_, _, bs, rfl, s5.trans s6, t5.trans (SameT.of s6), hb4, ?_⟩
          rw [take_more hat, List.foldl_append]
          show Paired _ bs (putNew _ _)
          rw [show ∀ (m : List Atom) a, m.contains a = true → putNew m a = m from fun m a h => if_pos h]
          · exact pbs4
          · exact cc
        · rw [Bool.not_eq_true] at cc
          rw [cc]
          refine ⟨_, rfl, .inl ⟨rfl, _, SqL.of' hb4⟩, _, rfl, pb, bs, u, rfl, rfl, hb4, line_small (by omega), _, _, _, rfl, Same.step (s5.trans s6) hpb, (t5.trans (SameT.of s6)).trans (SameT.lst hb4), upd_same, ?_⟩
          rw [take_more hat, List.foldl_append]
          show Paired _ _ (putNew _ _)
          rw [show ∀ (m : List Atom) a, m.contains a = false → putNew m a = m ++ [a] from fun m a h => if_neg (by rw [h]; exact Bool.false_ne_true)]
          · exact Paired.snoc (Paired.imp (fun _ _ k => AtomAt.mono (SameT.lst hb4) k) pbs4) (AtomAt.mono (SameT.lst hb4) hu)
          · exact cc
    · rintro σ H3 ⟨v6, v7, bs, rfl, s5, t5, hb3, pbs3⟩
      refine ⟨_, _, _, _, bs, rfl, s5, hb3, ?_⟩
      rw [bodyFrom_more ns c 0 i [] mk hmk, show 0 + i + 1 = i + 1 by omega]
      rw [Paired.len pa, List.take_length] at pbs3
      exact pbs3
  · rintro σ H2 ⟨v4, v5, v6, v7, bs, rfl, s3, hb, pbs⟩
    rw [ecs, List.take_length] at pbs
    have s13 := s1.trans s3
    refine ⟨_, rfl, v, r, rfl, RuleAt.mono (SameT.of s13) hR, fun u ⟨qh, ah, eu, hqh, ph⟩ => ?_⟩
    subst eu
    refine ⟨qh, rfl, ⟨_, SqT.of' hqh⟩, fun D hD => ?_⟩
    refine lc_tup (xs := ah) (fun i H' => Same H2 H' ∧ ∃ hs, H' D = some (.lst hs) ∧ Paired (AtomAt H') hs ((r.head.take i).map fun a => namedAtom ns a 0)) ⟨Same.new hD, [], upd_same, by rw [List.take_zero]; exact .nil⟩ (fun i H' _ h => SqT.of' (h.1 _ _ hqh)) ?_ ?_
    · rintro i x H3 hx ⟨s4, hs, hD3, phs⟩
      obtain ⟨at_, hat, hA⟩ := Paired.get ph hx
      have hax := hF.hs at_ (List.mem_of_getElem? hat)
      refine ⟨rfl, _, rfl, _, rfl, x, at_, 0, pn, ns, rfl, AtomAt.mono (SameT.of s4) hA, by omega, SqL.of' (s4 _ _ (s3 _ _ hpn)), ?_, ?_, fun H4 u s5 hu => ?_⟩
      · rw [hnl]
        unfold copied
        omega
      · rw [hnl]
        unfold copied
        omega
      · have hD4 := s5 _ _ hD3
        refine ⟨hs, hD4, line_small (by rw [Paired.len phs, List.length_map, List.length_take]; have := hF.hl.2; omega), Same.step (s4.trans s5) hD, _, upd_same, ?_⟩
        rw [take_more hat, List.map_append]
        exact Paired.snoc (Paired.imp (fun _ _ k => AtomAt.mono ((SameT.of s5).trans (SameT.lst hD4)) k) phs) (AtomAt.mono (SameT.lst hD4) hu)
    · rintro H3 ⟨s4, hs, hD3, phs⟩
      rw [Paired.len ph, List.take_length] at phs
      have hb3 := s4 _ _ hb
      have pbs3 := Paired.imp (fun _ _ k => AtomAt.mono (SameT.of s4) k) pbs
      have hbl : bs.length ≤ 4 := by
        rw [Paired.len pbs]
        have h2 := bodyFrom_len ns c 0 [] fun m hm => (hc m hm).2.2
        have h4 : ([] : List Atom).length = 0 := rfl
        omega
      have hhl : hs.length ≤ 2 := by
        rw [Paired.len phs, List.length_map]
        exact hF.hl.2
      refine ⟨_, rfl, _, rfl, pb, D, bs, hs, rfl, rfl, hb3, hD3, Nat.le_of_lt (line_small (by omega)), fun q hq => ?_⟩
      have s5 : Same H3 (upd H3 q (.lst (bs ++ hs))) := Same.new hq
      refine ⟨_, bodyFrom ns 0 c [] ++ r.head.map fun a => namedAtom ns a 0, rfl, ⟨q, _, rfl, .inl upd_same, Paired.app (Paired.imp (fun _ _ k => AtomAt.mono (SameT.of s5) k) pbs3) (Paired.imp (fun _ _ k => AtomAt.mono (SameT.of s5) k) phs)⟩, ?_, fun H4 o s6 ho => ?_⟩
      · rw [List.length_append, ← Paired.len pbs, ← Paired.len phs]
        omega
      · have s7 := s5.trans s6
        refine ⟨_, rfl, _, rfl, _, bodyFrom ns 0 c [], o, _, rfl, ⟨pb, bs, rfl, s7 _ _ hb3, Paired.imp (fun _ _ k => AtomAt.mono (SameT.of s7) k) pbs3⟩, by rw [← Paired.len pbs]; omega, SqL.of' ho, (fun a ha => places_mem (List.mem_append_left _ ha)), fun H5 u1 s8 hu1 => ?_⟩
        refine ⟨_, rfl, _, rfl, _, r.head.map fun a => namedAtom ns a 0, o, _, rfl, ⟨D, hs, rfl, s8 _ _ (s7 _ _ hD3), Paired.imp (fun _ _ k => AtomAt.mono (SameT.of (s7.trans s8)) k) phs⟩, by rw [← Paired.len phs]; omega, SqL.of' (s8 _ _ ho), (fun a ha => places_mem (List.mem_append_right _ ha)), fun H6 u2 s9 hu2 => ?_⟩
        refine ⟨(by show 2 ≤ sizeLine; decide), fun z hz => ?_⟩
        refine k _ _ (((((s13.trans s4).trans s7).trans s8).trans s9).trans (Same.new hz)) ⟨z, u1, u2, rfl, upd_same, ?_, ?_⟩
        · have e : (throughM r c).body = numbered (bodyFrom ns 0 c []) (Dx.places (bodyFrom ns 0 c [] ++ r.head.map fun a => namedAtom ns a 0)) := by
            rw [← hns]
            rfl
          rw [e]
          exact AtomsAt.mono ((SameT.of s9).trans (SameT.new hz)) hu1
        · have e : (throughM r c).head = numbered (r.head.map fun a => namedAtom ns a 0) (Dx.places (bodyFrom ns 0 c [] ++ r.head.map fun a => namedAtom ns a 0)) := by
            rw [← hns]
            rfl
          rw [e]
          exact AtomsAt.mono (SameT.new hz) hu2
/-! ## composed_rules -/
def spComposedRules : Sp := fun vs H Q _ => ∃ (a1 a2 : Addr) (one two : List Rule), vs = [.ref a1, .ref a2] ∧ RulesAt H a1 one ∧ RulesAt H a2 two ∧ one.length ≤ 2 ∧ two.length ≤ 2 ∧ (∀ r ∈ one, Fine r) ∧ (∀ r ∈ two, Fine r) ∧
  ∀ H' p ys, Same H H' → H' p = some (.lst ys) → H p = none → Paired (RuleAt H') ys (Dx07.Book.composed ⟨one, two⟩) → Q (.ref p) H'
theorem sc_composed_rules : FnScope ["first_rules", "second_rules", "rules", "second_rule", "choice", "rule"] ["first_rules", "second_rules"] (C8.fnScope s_composed_rules) := C8.fnScope_by (by decide +kernel)
theorem composed_len {one : List Rule} (hn : one.length ≤ 2) (hf : ∀ r ∈ one, Fine r) : ∀ (two : List Rule) (m : List Rule), (∀ r ∈ two, Fine r) → (two.foldl (fun m r => (Dx07.choices one r.body).foldl (fun m c => putNew m (throughM r c)) m) m).length ≤ m.length + 16 * two.length
  | [], m, _ => Nat.le_refl _
  | r :: two, m, h => by
    have h1 := foldNew_len (throughM r) (Dx07.choices one r.body) m
    have h2 := composed_len hn hf two ((Dx07.choices one r.body).foldl (fun m c => putNew m (throughM r c)) m) fun x hx => h x (List.Mem.tail _ hx)
    have h3 := choices_num hn hf r.body
    have h4 := pow4 (h r (List.Mem.head _)).bl.2
    rw [List.foldl_cons, List.length_cons]
    omega
theorem ok_composed_rules (T : Top K mg CR CS) (c1 : C8.Cal P w K mg base 3 "choices" spChoices []) (c2 : C8.Cal P w K mg base 1 "body_of" spBodyOf []) (c3 : C8.Cal P w K mg base 3 "composed_rule" spComposedRule []) : C8.Cal P w K mg base 4 "composed_rules" spComposedRules [] := by
  refine cal_of T.d_composed_rules sc_composed_rules (fun _ _ _ _ _ _ us hl => match us, hl with | [_, _], _ => rfl) (fun vs H Q E h => by obtain ⟨t, p, q, r, rfl, _⟩ := h; rfl) (fun f cdv A outer s H vs Q E hr h => ?_)
  obtain ⟨a1, a2, one, two, rfl, ⟨rs1, ha1, pr1⟩, ⟨rs2, ha2, pr2⟩, hn1, hn2, hf1, hf2, k⟩ := h
  refine ⟨_, pss_cons (ps_set (i := 2) sc_composed_rules.nd rfl (Or.inl rfl) (pe_lst pa_nil))
    (pss_cons (ps_for PassesOwn.never rfl (pi_list (pv 1)) (pg_name (i := 3) sc_composed_rules.nd rfl (Or.inl rfl))
      (pss_one (ps_for PassesOwn.never rfl (pi_list (C8.pe_c c1 hr (by decide) rfl (pa_cons (C8.pe_c c2 hr (by decide) rfl (pa_cons (pv 3) pa_nil)) (pa_cons (pv 0) pa_nil)))) (pg_name (i := 4) sc_composed_rules.nd rfl (Or.inl rfl))
        (pss_cons (ps_set (i := 5) sc_composed_rules.nd rfl (Or.inl rfl) (C8.pe_c c3 hr (by decide) rfl (pa_cons (pv 3) (pa_cons (pv 4) pa_nil))))
        (pss_one (ps_if (pt_cmpR (op_notInD (hu65 hr)) (pv 5) (pv 2) rfl)
          (pss_one (ps_expr (pe_bm PySem.F.plainAttrs_list PySem.F.slot_list_append PySem.F.type_list_append mt_append (pv 2) (pa_cons (pv 5) pa_nil)))) pss_nil))))))
    (pss_one (ps_ret (pv 2)))), ?_⟩
  refine ⟨Nat.zero_le _, fun p hp => ?_⟩
  refine ⟨_, rfl, a2, rfl, ⟨_, SqL.of' (Same.new hp _ _ ha2)⟩, for_list (xs := rs2) (fun i σ H' => ∃ (v3 v4 v5 : Option V) (ys : List V), σ = [some (.ref a1), some (.ref a2), some (.ref p), v3, v4, v5] ∧ Same H H' ∧
    H' p = some (.lst ys) ∧ Paired (RuleAt H') ys (composedM one (two.take i))) ⟨none, none, none, [], rfl, Same.new hp, upd_same, by rw [List.take_zero]; exact .nil⟩ (fun i σ H' _ ⟨_, _, _, _, _, h, _⟩ => SqL.of' (h _ _ ha2)) ?_ ?_⟩
  · rintro i x σ H1 hx ⟨v3, v4, v5, ys, rfl, s1, hy, py⟩
    obtain ⟨r, hri, hR⟩ := Paired.get pr2 hx
    have hF := hf2 r (List.mem_of_getElem? hri)
    have hR1 := RuleAt.mono (SameT.of s1) hR
    refine ⟨_, rfl, x, r, rfl, hR1, fun u hu => ⟨_, rfl, u, r.body, a1, one, rfl, hu, hF.bl.2, ⟨rs1, s1 _ _ ha1, Paired.imp (fun _ _ k => RuleAt.mono (SameT.of s1) k) pr1⟩, hn1, hf1, fun H2 op os s2 hop hopn po => ?_⟩⟩
    have hpo : p ≠ op := ne_of_none hy hopn
    have hy2 := s2 _ _ hy
    refine ⟨op, rfl, ⟨_, SqL.of' hop⟩, for_list (xs := os) (fun j σ H' => ∃ (v4 v5 : Option V) (ys : List V), σ = [some (.ref a1), some (.ref a2), some (.ref p), some x, v4, v5] ∧ SameBut p H2 H' ∧
      H' p = some (.lst ys) ∧ Paired (RuleAt H') ys (((Dx07.choices one r.body).take j).foldl (fun m c => putNew m (throughM r c)) (composedM one (two.take i))))
      ⟨v4, v5, ys, rfl, SameBut.refl _ _, hy2, by rw [List.take_zero]; exact Paired.imp (fun _ _ k => RuleAt.mono (SameT.of s2) k) py⟩ (fun j σ H' _ ⟨_, _, _, _, h, _⟩ => SqL.of' (h _ _ hpo.symm hop)) ?_ ?_⟩
    · rintro j y σ H3 hj ⟨v4, v5, zs, rfl, b1, hz, pz⟩
      obtain ⟨c, hc, hC, hFr⟩ := Paired.get po hj
      obtain ⟨qc, cs, rfl, hqc, pc⟩ := id hC
      have hpq : p ≠ qc := ne_of_none hy (hFr qc rfl)
      have t3 := b1.tup hy2
      have hcm : c ∈ Dx07.choices one r.body := List.mem_of_getElem? hc
      have hfine := choices_fine hf1 r.body c hcm
      refine ⟨_, rfl, _, rfl, x, r, qc, c, rfl, RuleAt.mono ((SameT.of s2).trans t3) hR1, ChoiceAt.but b1 hy2 (fun e => hpq (by injection e with e; exact e.symm)) hC, choices_len one _ c hcm, hF, (fun m hm => ⟨(hfine m hm).1, (hfine m hm).2, (hf1 _ (choices_mem one _ c hcm m hm).1).bl.2⟩), fun H4 u s4 hu => ?_⟩
      have hz4 := s4 _ _ hz
      have pz4 := Paired.imp (fun _ _ k => RuleAt.mono (SameT.of s4) k) pz
      refine ⟨_, rfl, _, rfl, dRule (throughM r c), _, RuleAt.dp hu, .lst (SqL.of' hz4) (dp_all (d := dRule) (fun _ _ k => RuleAt.dp k) pz4), shaped_of (dRule_lay _) (Nat.le_trans (dRule_depth _) (by decide)), shaped_list dRule_lay (fun a => Nat.le_trans (dRule_depth a) (by decide)) _, _, rfl, ?_⟩
      rw [any_eqv dRule_eqv]
      have hlen : zs.length ≤ 100 := by
        rw [Paired.len pz]
        have h1 := foldNew_len (throughM r) ((Dx07.choices one r.body).take j) (composedM one (two.take i))
        have h2 := composed_len hn1 hf1 (two.take i) [] fun x hx => hf2 x (List.mem_of_mem_take hx)
        have h3 := choices_num hn1 hf1 r.body
        have h4 := pow4 hF.bl.2
        have h5 : ([] : List Rule).length = 0 := rfl
        rw [List.length_take] at h1 h2
        have h6 : (composedM one (two.take i)).length = ((two.take i).foldl (fun m r => (Dx07.choices one r.body).foldl (fun m c => putNew m (throughM r c)) m) []).length := rfl
        omega
      by_cases cc : (((Dx07.choices one r.body).take j).foldl (fun m c => putNew m (throughM r c)) (composedM one (two.take i))).contains (throughM r c) = true
      · rw [cc]
        refine ⟨_, _, zs, rfl, b1.trans (SameBut.of s4), hz4, ?_⟩
        rw [take_more hc, List.foldl_append]
        show Paired _ zs (putNew _ _)
        rw [show ∀ (m : List Rule) a, m.contains a = true → putNew m a = m from fun m a h => if_pos h]
        · exact pz4
        · exact cc
      · rw [Bool.not_eq_true] at cc
        rw [cc]
        refine ⟨_, rfl, .inl ⟨rfl, _, SqL.of' hz4⟩, _, rfl, p, zs, u, rfl, rfl, hz4, line_small (by omega), _, _, _, rfl, (b1.trans (SameBut.of s4)).trans SameBut.set, upd_same, ?_⟩
        rw [take_more hc, List.foldl_append]
        show Paired _ _ (putNew _ _)
        rw [show ∀ (m : List Rule) a, m.contains a = false → putNew m a = m ++ [a] from fun m a h => if_neg (by rw [h]; exact Bool.false_ne_true)]
        · exact Paired.snoc (Paired.imp (fun _ _ k => RuleAt.mono (SameT.lst hz4) k) pz4) (RuleAt.mono (SameT.lst hz4) hu)
        · exact cc
    · rintro σ H3 ⟨v4, v5, zs, rfl, b1, hz, pz⟩
      refine ⟨_, _, _, zs, rfl, Same.but (s1.trans s2) b1 hp, hz, ?_⟩
      rw [Paired.len po, List.take_length] at pz
      unfold composedM
      rw [take_more hri, List.foldl_append]
      exact pz
  · rintro σ H1 ⟨v3, v4, v5, ys, rfl, s1, hy, py⟩
    rw [Paired.len pr2, List.take_length, composedM_eq hf1 hf2] at py
    exact ⟨_, rfl, k H1 p ys s1 hy hp py⟩
end
end Mw
namespace Mw
open PySem PySem.Spec PyProof.Rows L2
open Dx (Fact Facts Rule Atom Fill)
section
variable {P : Program} {w : World} {K : PySem.W.Frag} {mg : Str → Option Value} {base : Heap} {CR CS : Addr}
/-! ## reader.py -/
theorem lk_here {k : Str} {v : V} {r : List (Str × V)} : List.lookup k ((k, v) :: r) = some v := by
  have e : (k == k) = true := beq_self_eq_true k
  simp only [List.lookup, e]
theorem lk_past {k g : Str} {v : V} {r : List (Str × V)} (h : (k == g) = false) : List.lookup k ((g, v) :: r) = List.lookup k r := by
  simp only [List.lookup, h]
theorem put_here {f : Str} {v x : V} {r : List (Str × V)} : putF f v ((f, x) :: r) = (f, v) :: r := if_pos rfl
theorem put_past {f g : Str} {v x : V} {r : List (Str × V)} (h : ¬ g = f) : putF f v ((g, x) :: r) = (g, x) :: putF f v r := if_neg h
def rF (c : Addr) (i : Nat) : List (Str × V) := [("calls", .ref c), ("position", .int (i : Int))]
def ReaderAt (CR : Addr) (H : Hp) (a c : Addr) (i : Nat) : Prop := ∃ dx, H a = some (.ins CR dx (rF c i))
theorem rF_calls (c : Addr) (i : Nat) : (rF c i).lookup ("calls" : Str) = some (.ref c) := lk_here
theorem rF_pos (c : Addr) (i : Nat) : (rF c i).lookup ("position" : Str) = some (.int (i : Int)) := (lk_past (by decide +kernel)).trans lk_here
theorem rF_put (c : Addr) (i j : Nat) : putF "position" (.int (j : Int)) (rF c i) = rF c j := (put_past (by decide +kernel)).trans (congrArg _ put_here)
theorem rF_new (c : Addr) : putF "position" (.int 0) (putF "calls" (.ref c) []) = rF c 0 := (put_past (by decide +kernel)).trans rfl
theorem rF_none {f : Str} (c : Addr) (i : Nat) (h1 : (f == ("calls" : Str)) = false) (h2 : (f == ("position" : Str)) = false) : (rF c i).lookup f = none := (lk_past h1).trans ((lk_past h2).trans rfl)
theorem SqL.ne_ins {H : Hp} {a c C dx : Addr} {xs : List V} {fs : List (Str × V)} (h : SqL K H c xs) (ha : H a = some (.ins C dx fs)) (hk : K.lookup a = none) : c ≠ a := by
  rintro rfl
  rcases h with (h | ⟨o, h⟩) | ⟨o, its, n, h, _⟩
  · rw [h] at ha
    cases ha
  · rw [h] at ha
    cases ha
  · rw [h] at hk
    cases hk
/-- a list that is read stays, whatever happens to an instance -/
theorem SqL.ins {H H' : Hp} {a c C dx : Addr} {xs : List V} {fs : List (Str × V)} (h : SqL K H c xs) (ha : H a = some (.ins C dx fs)) (s : SameBut a H H') : SqL K H' c xs := by
  rcases h with (h | ⟨o, h⟩) | h
  · exact .inl (.inl (s _ _ (ne_of h ha (by intro z; cases z)) h))
  · exact .inl (.inr ⟨o, s _ _ (ne_of h ha (by intro z; cases z)) h⟩)
  · exact .inr h
def iV (l : List Int) : List V := l.map V.int
theorem iV_nat {l : List Int} (h : ∀ z ∈ l, 0 ≤ z) : iV l = nV (l.map Int.toNat) := by
  unfold iV nV
  rw [List.map_map]
  refine List.map_congr_left fun z hz => ?_
  have := h z hz
  show V.int z = V.int ((z.toNat : Nat) : Int)
  rw [Int.toNat_of_nonneg this]
def spReaderInit (CR : Addr) : Sp := fun vs H Q _ => ∃ (p dx c : Addr), vs = [.ref p, .ref c] ∧ H p = some (.ins CR dx []) ∧
  ∀ H' : Hp, ReaderAt CR H' p c 0 → SameBut p H H' → Q .non H'
theorem sc_Reader_init : FnScope ["self", "calls"] ["self", "calls"] (C8.fnScope s_Reader_init) := C8.fnScope_by (by decide +kernel)
theorem ok_Reader_init (T : Top K mg CR CS) : C8.Mak P w K mg base 1 "Reader" CR (spReaderInit CR) [] := by
  refine mak_of T.g_Reader T.m_Reader_init sc_Reader_init (fun _ _ _ _ _ _ us hl => match us, hl with | [_, _], _ => rfl) (fun vs H Q E h => by obtain ⟨t, p, q, rfl, _⟩ := h; rfl) (fun f cdv A outer s H vs Q E hr h => ?_)
  obtain ⟨p, dx, c, rfl, hp, k⟩ := h
  refine ⟨_, pss_cons (ps_fld (pv 0) (pv 1) rfl) (pss_one (ps_fld (pv 0) pe_int rfl)), ?_⟩
  refine ⟨_, rfl, _, rfl, p, CR, dx, [], rfl, hp, T.k_Reader, T.a_Reader_calls, (by show 0 < 1000; decide), ?_⟩
  refine ⟨_, rfl, p, CR, dx, _, rfl, upd_same, T.k_Reader, T.a_Reader_position, (by show 1 < 1000; decide), ?_⟩
  exact k _ ⟨dx, Eq.trans upd_same (congrArg (fun q => some (HO.ins CR dx q)) (rF_new c))⟩ (SameBut.set.trans SameBut.set)
def spIsDone (K : PySem.W.Frag) (CR : Addr) : Sp := fun vs H Q _ => ∃ (a c : Addr) (i : Nat) (l : List Int), vs = [.ref a] ∧ ReaderAt CR H a c i ∧ SqL K H c (iV l) ∧ Q (.bl (decide (l.length ≤ i))) H
theorem sc_is_done : FnScope ["self"] ["self"] (C8.fnScope s_Reader_is_done) := C8.fnScope_by (by decide +kernel)
theorem ok_is_done (T : Top K mg CR CS) : C8.Met P w K mg base 1 CR "is_done" (spIsDone K CR) [] := by
  refine met_of T.k_Reader T.m_Reader_is_done sc_is_done (fun _ _ _ _ _ _ us hl => match us, hl with | [_], _ => rfl) (fun vs H Q E h => by obtain ⟨t, p, q, r, rfl, _⟩ := h; rfl) (fun f cdv A outer s H vs Q E hr h => ?_)
  obtain ⟨a, c, i, l, rfl, ⟨dx, ha⟩, hS, k⟩ := h
  refine ⟨_, pss_one (ps_ret (pe_cmpR op_ge (pe_fld (pv 0) rfl) (pe_len K rfl T.b_len (pe_fld (pv 0) rfl)) (nomark _))), ?_⟩
  refine ⟨_, rfl, a, CR, dx, _, _, rfl, ha, T.k_Reader, T.a_Reader_position, rF_pos c i, _, rfl, a, CR, dx, _, _, rfl, ha, T.k_Reader, T.a_Reader_calls, rF_calls c i, c, _, rfl, .inl hS, _, _, rfl, rfl, ?_⟩
  have e : decide (((iV l).length : Int) ≤ (i : Int)) = decide (l.length ≤ i) := by
    unfold iV
    rw [List.length_map]
    by_cases h : l.length ≤ i
    · rw [decide_eq_true h]
      exact decide_eq_true (by omega)
    · rw [decide_eq_false h]
      exact decide_eq_false (by omega)
  show Q (.bl (decide (((iV l).length : Int) ≤ (i : Int)))) H
  rw [e]
  exact k
def spNumber (K : PySem.W.Frag) (CR : Addr) : Sp := fun vs H Q _ => ∃ (a c : Addr) (i : Nat) (l : List Int) (n : Int), vs = [.ref a] ∧ ReaderAt CR H a c i ∧ SqL K H c (iV l) ∧ l[i]? = some n ∧
  ∀ H', SameBut a H H' → ReaderAt CR H' a c (i + 1) → Q (.int n) H'
theorem sc_number : FnScope ["self", "taken"] ["self"] (C8.fnScope s_Reader_number) := C8.fnScope_by (by decide +kernel)
theorem ok_number (T : Top K mg CR CS) : C8.Met P w K mg base 1 CR "number" (spNumber K CR) [] := by
  refine met_of T.k_Reader T.m_Reader_number sc_number (fun _ _ _ _ _ _ us hl => match us, hl with | [_], _ => rfl) (fun vs H Q E h => by obtain ⟨t, p, q, r, z, rfl, _⟩ := h; rfl) (fun f cdv A outer s H vs Q E hr h => ?_)
  obtain ⟨a, c, i, l, n, rfl, ⟨dx, ha⟩, hS, hn, k⟩ := h
  refine ⟨_, pss_cons (ps_set (i := 1) sc_number.nd rfl (Or.inl rfl) (pe_ix ix_list (pe_fld (pv 0) rfl) (pe_fld (pv 0) rfl) (fun _ _ => rfl)))
    (pss_cons (ps_fldaug (pv 0) pe_int in_add) (pss_one (ps_ret (pv 1)))), ?_⟩
  refine ⟨_, rfl, a, CR, dx, _, _, rfl, ha, T.k_Reader, T.a_Reader_calls, rF_calls c i, _, rfl, a, CR, dx, _, _, rfl, ha, T.k_Reader, T.a_Reader_position, rF_pos c i, c, _, _, V.int n, rfl, rfl, hS, ix_at (by unfold iV; rw [List.getElem?_map, hn]; rfl), ?_⟩
  refine ⟨_, rfl, a, CR, dx, _, _, rfl, ha, T.k_Reader, T.a_Reader_position, rF_pos c i, _, _, rfl, rfl, dx, _, ha, (by show 2 < 1000; decide), _, rfl, ?_⟩
  have e : ((i : Int) + 1) = ((i + 1 : Nat) : Int) := by omega
  refine k _ SameBut.set ⟨dx, Eq.trans upd_same ?_⟩
  rw [e, rF_put]
def spRow (K : PySem.W.Frag) (CR : Addr) : Sp := fun vs H Q _ => ∃ (a c : Addr) (i : Nat) (l xs rest : List Int), vs = [.ref a] ∧ ReaderAt CR H a c i ∧ SqL K H c (iV l) ∧ l.drop i = putRow xs ++ rest ∧
  ∀ H' p, SameBut a H H' → ReaderAt CR H' a c (i + 1 + xs.length) → H' p = some (.lst (iV xs)) → H p = none → Q (.ref p) H'
theorem sc_row : FnScope ["self", "length", "start"] ["self"] (C8.fnScope s_Reader_row) := C8.fnScope_by (by decide +kernel)
theorem drop_at {α : Type} {l r : List α} {i : Nat} {x : α} (h : l.drop i = x :: r) : l[i]? = some x ∧ l.drop (i + 1) = r := by
  have h1 : (l.drop i)[0]? = some x := by
    rw [h]
    rfl
  rw [List.getElem?_drop] at h1
  refine ⟨h1, ?_⟩
  have h2 : (l.drop i).drop 1 = r := by
    rw [h]
    rfl
  rw [List.drop_drop] at h2
  exact h2
theorem ok_row (T : Top K mg CR CS) (c1 : C8.Met P w K mg base 1 CR "number" (spNumber K CR) []) : C8.Met P w K mg base 2 CR "row" (spRow K CR) [] := by
  refine met_of T.k_Reader T.m_Reader_row sc_row (fun _ _ _ _ _ _ us hl => match us, hl with | [_], _ => rfl) (fun vs H Q E h => by obtain ⟨t, p, q, r, z, y, rfl, _⟩ := h; rfl) (fun f cdv A outer s H vs Q E hr h => ?_)
  obtain ⟨a, c, i, l, xs, rest, rfl, ⟨dx, ha⟩, hS, hd, k⟩ := h
  obtain ⟨h1, h2⟩ := drop_at (show l.drop i = (xs.length : Int) :: (xs ++ rest) from hd)
  refine ⟨_, pss_cons (ps_set (i := 1) sc_row.nd rfl (Or.inl rfl) (C8.pe_mt0 c1 hr (by decide) (pv 0)))
    (pss_cons (ps_set (i := 2) sc_row.nd rfl (Or.inl rfl) (pe_fld (pv 0) rfl))
    (pss_cons (ps_fld (pv 0) (pe_op op_add (pv 2) (pv 1)) rfl)
    (pss_one (ps_ret (pe_slice sl_list (pe_fld (pv 0) rfl) (po_some (pv 2)) (po_some (pe_op op_add (pv 2) (pv 1)))))))), ?_⟩
  refine ⟨_, rfl, a, dx, _, rfl, ha, rF_none c i (by decide +kernel) (by decide +kernel), a, c, i, l, _, rfl, ⟨dx, ha⟩, hS, h1, fun H1 b1 ⟨dx1, ha1⟩ => ?_⟩
  refine ⟨_, rfl, a, CR, dx1, _, _, rfl, ha1, T.k_Reader, T.a_Reader_position, rF_pos c (i + 1), ?_⟩
  refine ⟨_, rfl, _, rfl, _, _, rfl, rfl, _, rfl, a, CR, dx1, _, rfl, ha1, T.k_Reader, T.a_Reader_position, (by show 2 < 1000; decide), ?_⟩
  have e : (((i + 1 : Nat) : Int) + (xs.length : Int)) = ((i + 1 + xs.length : Nat) : Int) := by omega
  have hup : (upd H1 a (.ins CR dx1 (putF "position" (.int (((i + 1 : Nat) : Int) + (xs.length : Int))) (rF c (i + 1))))) a = some (.ins CR dx1 (rF c (i + 1 + xs.length))) := by
    rw [upd_same, e, rF_put]
  have b2 : SameBut a H (upd H1 a (.ins CR dx1 (putF "position" (.int (((i + 1 : Nat) : Int) + (xs.length : Int))) (rF c (i + 1))))) := b1.trans SameBut.set
  have hS2 := SqL.ins hS ha b2
  refine ⟨_, rfl, a, CR, dx1, _, _, rfl, hup, T.k_Reader, T.a_Reader_calls, rF_calls c _, _, rfl, _, rfl, _, rfl, _, rfl, _, _, rfl, rfl, _, rfl, c, _, rfl, hS2, fun p hp => ?_⟩
  have hap : a ≠ p := ne_of_none hup hp
  have hlen : i + 1 + xs.length ≤ l.length := by
    have h3 : (l.drop (i + 1)).length = xs.length + rest.length := by
      rw [h2, List.length_append]
    rw [List.length_drop] at h3
    by_cases hz : i + 1 ≤ l.length
    · omega
    · have : l[i]? = none := List.getElem?_eq_none_iff.mpr (by omega)
      rw [this] at h1
      cases h1
  have ec : cutV (iV l) (some ((i + 1 : Nat) : Int)) (some (((i + 1 : Nat) : Int) + (xs.length : Int))) = iV xs := by
    rw [e, cut_nat _ _ _ (by unfold iV; rw [List.length_map]; exact hlen), show i + 1 + xs.length - (i + 1) = xs.length by omega]
    unfold iV
    rw [← List.map_drop, h2, ← List.map_take, List.take_left]
  refine k _ p (b2.trans (SameBut.of (Same.new hp))) ⟨dx1, ?_⟩ ?_ ?_
  · rw [upd_ne hap]
    exact hup
  · rw [upd_same]
    exact congrArg (fun z => some (HO.lst z)) ec
  · cases q : H p with
    | none => rfl
    | some o =>
      have := b2 p o (fun z => hap z.symm) q
      rw [hp] at this
      cases this
end
end Mw
namespace Mw
open PySem PyProof.Rows L2
/-! ## tables of sets with any power of two of slots: the order of the searched slots meets them all -/
/-- one less than a power of two, as large as 40000 members ask for -/
def MaskP (m : Nat) : Prop := ∃ e, 3 ≤ e ∧ e ≤ 17 ∧ m + 1 = 2 ^ e
/-- 1 + 5 + 25 + ..: k summands -/
def geo : Nat → Nat
  | 0 => 0
  | k + 1 => 5 * geo k + 1
theorem geo_four : ∀ k, 4 * geo k + 1 = 5 ^ k
  | 0 => rfl
  | k + 1 => by
    have := geo_four k
    rw [Nat.pow_succ]
    show 4 * (5 * geo k + 1) + 1 = _
    omega
theorem geo_add (a : Nat) : ∀ b, geo (a + b) = 5 ^ b * geo a + geo b
  | 0 => by simp [geo]
  | b + 1 => by
    show 5 * geo (a + b) + 1 = 5 ^ b * 5 * geo a + (5 * geo b + 1)
    rw [geo_add a b, Nat.mul_add, Nat.mul_comm (5 ^ b) 5, Nat.mul_assoc]
    omega
theorem geo_pow : ∀ e, ∃ u, geo (2 ^ e) = 2 ^ e * (2 * u + 1)
  | 0 => ⟨0, rfl⟩
  | e + 1 => by
    obtain ⟨u, hu⟩ := geo_pow e
    have h4 := geo_four (2 ^ e)
    refine ⟨2 * u * geo (2 ^ e) + geo (2 ^ e) + u, ?_⟩
    rw [Nat.pow_succ, Nat.mul_two, geo_add, ← h4]
    generalize geo (2 ^ e) = g at *
    have e1 : (4 * g + 1) * g + g = g * (2 * (2 * g + 1)) := by
      rw [Nat.add_mul, Nat.mul_comm g (2 * (2 * g + 1))]
      have : 2 * (2 * g + 1) * g = 4 * g * g + 2 * g := by
        rw [show 2 * (2 * g + 1) = 4 * g + 2 by omega, Nat.add_mul]
      omega
    have e2 : g * (2 * (2 * g + 1)) = 2 ^ e * ((2 * u + 1) * (2 * (2 * g + 1))) := by
      rw [← Nat.mul_assoc (2 ^ e) (2 * u + 1), ← hu]
    have e3 : (2 * u + 1) * (2 * (2 * g + 1)) = 2 * (2 * (2 * u * g + g + u) + 1) := by
      rw [Nat.add_mul, Nat.mul_comm (2 * u), show 2 * (2 * g + 1) = 4 * g + 2 by omega, Nat.add_mul, Nat.mul_comm (2 * u) g, Nat.mul_assoc 4]
      rw [show g * (2 * u) = 2 * (g * u) by rw [Nat.mul_left_comm]]
      omega
    rw [e1, e2, e3, ← Nat.mul_two, Nat.mul_assoc (2 ^ e) 2]
theorem five_odd : ∀ k, 5 ^ k % 2 = 1
  | 0 => rfl
  | k + 1 => by
    have := five_odd k
    rw [Nat.pow_succ]
    omega
theorem geo_hits : ∀ (e j : Nat), ∃ k, k < 2 ^ e ∧ geo k % 2 ^ e = j % 2 ^ e
  | 0, j => ⟨0, by decide, by rw [Nat.pow_zero, Nat.mod_one, Nat.mod_one]⟩
  | e + 1, j => by
    obtain ⟨k, hk, h⟩ := geo_hits e j
    obtain ⟨u, hu⟩ := geo_pow e
    have hp : 0 < 2 ^ e := Nat.pow_pos (by decide)
    rw [Nat.pow_succ]
    have e5 := five_odd k
    have e6 : geo (2 ^ e + k) = 2 ^ e * (5 ^ k * (2 * u + 1)) + geo k := by
      rw [geo_add, hu, Nat.mul_left_comm]
    have odd : 5 ^ k * (2 * u + 1) % 2 = 1 := by
      rw [Nat.mul_mod, e5]
      omega
    generalize 5 ^ k * (2 * u + 1) = v at e6 odd
    obtain ⟨x, hx⟩ : ∃ x, v = 2 * x + 1 := ⟨v / 2, by omega⟩
    generalize 2 ^ e = n at *
    have d1 := Nat.div_add_mod (geo k) n
    have d2 := Nat.div_add_mod j n
    generalize hq : geo k / n = q at d1
    generalize hr : j / n = r at d2
    have m1 : ∀ (y z : Nat), z < n → (n * y + z) % (n * 2) = n * (y % 2) + z := fun y z hz => by
      have e7 : n * y + z = n * 2 * (y / 2) + (n * (y % 2) + z) := by
        have e8 : n * y = n * (2 * (y / 2) + y % 2) := by rw [Nat.div_add_mod]
        rw [e8, Nat.mul_add, ← Nat.mul_assoc]
        omega
      rw [e7, Nat.mul_add_mod]
      refine Nat.mod_eq_of_lt ?_
      have : n * (y % 2) ≤ n * 1 := Nat.mul_le_mul_left n (by omega)
      omega
    have hz := Nat.mod_lt (geo k) hp
    have hw := Nat.mod_lt j hp
    have t1 : geo k % (n * 2) = n * (q % 2) + geo k % n := by
      conv => lhs; rw [← d1]
      exact m1 q _ hz
    have t2 : j % (n * 2) = n * (r % 2) + j % n := by
      conv => lhs; rw [← d2]
      exact m1 r _ hw
    by_cases c : q % 2 = r % 2
    · exact ⟨k, by omega, by rw [t1, t2, c, h]⟩
    · refine ⟨n + k, by omega, ?_⟩
      have e9 : n * v + geo k = n * (v + q) + geo k % n := by
        rw [Nat.mul_add]
        omega
      rw [e6, e9, m1 _ _ hz, t2, h]
      have : (v + q) % 2 = r % 2 := by omega
      rw [this]
theorem lcgN_geo (m : Nat) : ∀ k, lcgN m k = geo k % (m + 1)
  | 0 => by rw [show geo 0 = 0 from rfl, Nat.zero_mod]; rfl
  | k + 1 => by
    show (lcgN m k * 5 + 1) % (m + 1) = (5 * geo k + 1) % (m + 1)
    rw [lcgN_geo m k, Nat.mul_comm 5, Nat.add_mod, Nat.mul_mod, Nat.mod_mod, ← Nat.mul_mod, ← Nat.add_mod]
theorem lcg_hits {m : Nat} (hm : MaskP m) {i j : Nat} (hi : i ≤ m) (hj : j ≤ m) : ∃ k, k ≤ m ∧ lcgI m i k = j := by
  obtain ⟨e, _, _, he⟩ := hm
  obtain ⟨a, ha, ea⟩ := geo_hits e i
  obtain ⟨b, hb, eb⟩ := geo_hits e j
  have ia : lcgN m a = i := by rw [lcgN_geo, he, ea, Nat.mod_eq_of_lt (by omega)]
  have jb : lcgN m b = j := by rw [lcgN_geo, he, eb, Nat.mod_eq_of_lt (by omega)]
  by_cases c : a ≤ b
  · exact ⟨b - a, by omega, by rw [← ia, lcgN_add, Nat.add_sub_cancel' c, jb]⟩
  · refine ⟨b + 2 ^ e - a, by omega, ?_⟩
    obtain ⟨u, hu⟩ := geo_pow e
    rw [← ia, lcgN_add, show a + (b + 2 ^ e - a) = 2 ^ e + b by omega, lcgN_geo, he, geo_add, hu, Nat.mul_left_comm, Nat.mul_add_mod, ← he, ← lcgN_geo, jb]
/-- every slot begins a run of the search, soon -/
theorem runs_hit {m : Nat} (hm : MaskP m) (h : Int) {j : Nat} (hj : j ≤ m) : ∃ n, n ≤ m + 12 ∧ runI m (SetTable.bits h) n = j := by
  obtain ⟨k, hk, e⟩ := lcg_hits hm (runI_le m (SetTable.bits h) 12) hj
  exact ⟨12 + k, by omega, (runI_tail (bits_lt h) k).trans e⟩
theorem ways_hit {m : Nat} (hm : MaskP m) (h : Int) {j : Nat} (hj : j ≤ m) : ∃ k, k < 10 * SetTable.turns m ∧ way m h k = j := by
  obtain ⟨n, hn, e⟩ := runs_hit hm h hj
  obtain ⟨k, hk, e2⟩ := run_nth m (SetTable.bits h) n
  exact ⟨k, by unfold SetTable.turns; omega, (congrArg SetTable.Probe.j e2).trans e⟩
theorem way_in (m : Nat) (h : Int) (k : Nat) : way m h k ≤ m := by
  have a : SetTable.bits h % (m + 1) ≤ m := Nat.le_of_lt_succ (Nat.mod_lt _ m.succ_pos)
  have c : ∀ i, i ≤ m → (runAt m i (SetTable.bits h)).j + (runAt m i (SetTable.bits h)).more ≤ m := fun i hi => by
    have b := runEnd_bd hi
    show i + (SetTable.runEnd m i - i) ≤ m
    omega
  exact Nat.le_trans (Nat.le_add_right _ _) (nth_in k _ (c _ a))
/-- laying anew finds the first free slot of the way -/
theorem free_first {m : Nat} (hm : MaskP m) (ow : Array (Option Nat)) (h : Int) {j : Nat} (hj : j ≤ m) (hf : oAt ow j = none) :
    ∃ K, SetTable.layClean.free m ow (SetTable.turns m) (SetTable.bits h % (m + 1)) (SetTable.bits h) = some (way m h K) ∧ oAt ow (way m h K) = none ∧ ∀ k, k < K → oAt ow (way m h k) ≠ none := by
  obtain ⟨n, hn, e⟩ := runs_hit hm h hj
  generalize ho : off m (SetTable.bits h % (m + 1)) (SetTable.bits h) n = N
  have hN : oAt ow (way m h N) = none := by
    have z : way m h N = j := by
      rw [← ho, way, nth_off, itL_run]
      exact e
    rw [z, hf]
  obtain ⟨K, k1, k2, k3⟩ := st_least (p := fun k => oAt ow (way m h k) = none) N hN
  refine ⟨K, free_spec m ow _ n _ _ K (by unfold SetTable.turns; omega) (ho ▸ k1) (fun k hk => ?_) (Option.isNone_iff_eq_none.mpr k2), k2, k3⟩
  exact Option.isNone_eq_false_iff.mpr (Option.isSome_iff_ne_none.mpr (k3 k hk))

/-! ### a table from which every member is found again -/
structure TabP (t : SetTable) (hs : List Int) : Prop where
  up : Ris t.place.toList
  nodum : t.dummies = #[]
  many : t.place.size = hs.length
  mask : MaskP t.mask
  within : ∀ x ∈ t.place.toList, x ≤ t.mask
  found : ∀ q ∈ hs.zip t.place.toList, ∃ k, way t.mask q.1 k = q.2 ∧ ∀ c, c < k → way t.mask q.1 c ∈ t.place.toList
theorem TabP.plen {t : SetTable} {hs : List Int} (T : TabP t hs) : t.place.toList.length = hs.length := by
  rw [Array.length_toList, T.many]
theorem TabP.gap {t : SetTable} {hs : List Int} (T : TabP t hs) (hl : hs.length ≤ t.mask) (h : Int) : ∃ K, K < 10 * SetTable.turns t.mask ∧ way t.mask h K ∉ t.place.toList ∧ ∀ c, c < K → way t.mask h c ∈ t.place.toList := by
  obtain ⟨j, hj, hn⟩ := st_missing t.place.toList (t.mask + 1) (by rw [T.plen]; omega)
  obtain ⟨k, hk, e⟩ := ways_hit T.mask h (Nat.le_of_lt_succ hj)
  obtain ⟨K, a, b, c⟩ := st_least (p := fun k => way t.mask h k ∉ t.place.toList) k (e ▸ hn)
  exact ⟨K, by omega, b, fun i hi => Classical.not_not.mp (c i hi)⟩
theorem TabP.ahead {t : SetTable} {hs : List Int} (T : TabP t hs) {h : Int} {K j : Nat} (hK : way t.mask h K ∉ t.place.toList) (hq : (h, j) ∈ hs.zip t.place.toList) : ∃ c, c < K ∧ way t.mask h c = j := by
  obtain ⟨c, e, all⟩ := T.found _ hq
  have hj : j ∈ t.place.toList := (List.of_mem_zip hq).2
  refine ⟨c, Nat.lt_of_not_le fun z => ?_, e⟩
  rcases Nat.lt_or_eq_of_le z with y | y
  · exact hK (all K y)
  · exact hK (by rw [y]; exact e ▸ hj)
theorem zip_ins {α β : Type} {l : List α} {r : List β} (e : l.length = r.length) (p : Nat) (x : α) (y : β) {q : α × β} (h : q ∈ (l.take p ++ x :: l.drop p).zip (r.take p ++ y :: r.drop p)) : q = (x, y) ∨ q ∈ l.zip r := by
  have tk : (l.take p).length = (r.take p).length := by rw [List.length_take, List.length_take, e]
  rw [List.zip_append tk, List.zip_cons_cons] at h
  have z : l.zip r = (l.take p).zip (r.take p) ++ (l.drop p).zip (r.drop p) := by
    rw [← List.zip_append tk, List.take_append_drop, List.take_append_drop]
  rw [z]
  rcases List.mem_append.mp h with h | h
  · exact .inr (List.mem_append_left _ h)
  · rcases List.mem_cons.mp h with h | h
    · exact .inl h
    · exact .inr (List.mem_append_right _ h)
/-- one more in the first free slot of its way -/
theorem TabP.more {t : SetTable} {hs : List Int} (T : TabP t hs) {h : Int} {K : Nat} (hK : way t.mask h K ∉ t.place.toList) (hb : ∀ c, c < K → way t.mask h c ∈ t.place.toList) :
    ∃ (t' : SetTable) (p : Nat), t.put (way t.mask h K) = (t', p) ∧ p ≤ hs.length ∧ TabP t' (hs.take p ++ h :: hs.drop p) ∧ t'.mask = t.mask ∧ t'.led = t.led ∧ t'.plain = t.plain ∧ t'.fill = hs.length + 1 := by
  generalize hj : way t.mask h K = j at hK
  obtain ⟨cut, _, _⟩ := below_cut T.up j
  rw [T.many] at cut
  have hp := put_place t j
  have hd := put_dm T.nodum j
  have hnew : t.place[SetTable.below t.place j]? ≠ some j := fun z => hK (List.mem_of_getElem? ((Array.getElem?_toList).trans z))
  have old : ∀ x ∈ t.place.toList, x ∈ (t.put j).1.place.toList := fun x hx => by
    rw [hp]
    exact mem_ins.mpr (.inr hx)
  have hsz : (t.put j).1.place.size = hs.length + 1 := by
    rw [← Array.length_toList, hp, len_ins _ (by rw [T.plen]; exact cut), T.plen]
  refine ⟨(t.put j).1, SetTable.below t.place j, rfl, cut, ⟨ris_insert T.up hnew, hd, by rw [len_ins _ cut]; exact hsz, T.mask, fun x hx => ?_, fun q hq => ?_⟩, rfl, rfl, rfl, ?_⟩
  · rw [hp] at hx
    rcases mem_ins.mp hx with z | z
    · rw [z, ← hj]
      exact way_in ..
    · exact T.within x z
  · rw [hp] at hq
    rcases zip_ins T.plen.symm _ _ _ hq with z | z
    · rw [z]
      exact ⟨K, hj, fun c hc => old _ (hb c hc)⟩
    · obtain ⟨k, a, b⟩ := T.found q z
      exact ⟨k, a, fun c hc => old _ (b c hc)⟩
  · unfold SetTable.fill
    rw [hsz, hd]
    rfl
/-! ### a table laid anew -/
theorem own_more {m : Nat} (hm : MaskP m) {hs : List Int} {ow : Array (Option Nat)} (W : Own m hs ow) (hl : hs.length ≤ m) (h : Int) :
    ∃ j, SetTable.layClean.free m ow (SetTable.turns m) (SetTable.bits h % (m + 1)) (SetTable.bits h) = some j ∧ Own m (hs ++ [h]) (ow.setIfInBounds j (some hs.length)) := by
  obtain ⟨used, hu, cov⟩ := W.ps
  obtain ⟨j, hj, hn⟩ := st_missing used (m + 1) (by omega)
  have hfree : oAt ow j = none := Classical.byContradiction fun z => hn (cov j (by omega) z)
  obtain ⟨K, e, free, occ⟩ := free_first hm ow h (Nat.le_of_lt_succ hj) hfree
  refine ⟨_, e, ?_⟩
  have hK := way_in m h K
  generalize hg : way m h K = g at *
  have hgs : g < ow.size := by rw [W.sz]; omega
  have self := oAt_set_self (some hs.length) hgs
  have stay : ∀ i, i ≠ g → oAt (ow.setIfInBounds g (some hs.length)) i = oAt ow i := fun i hi => oAt_set_ne _ hi
  have grow : ∀ i, oAt ow i ≠ none → oAt (ow.setIfInBounds g (some hs.length)) i ≠ none := fun i hi => by
    by_cases c : i = g
    · rw [c, self]
      exact Option.some_ne_none _
    · rw [stay i c]
      exact hi
  exact {
    sz := by rw [Array.size_setIfInBounds, W.sz]
    at_ := fun i k hi ek => by
      by_cases c : i = g
      · rw [c, self] at ek
        refine ⟨h, K, ?_, by rw [c, hg], fun d hd => grow _ (occ d hd)⟩
        rw [← Option.some.inj ek, List.getElem?_concat_length]
      · rw [stay i c] at ek
        obtain ⟨h', K', a, b, d⟩ := W.at_ i k hi ek
        exact ⟨h', K', by rw [List.getElem?_append_left (List.getElem?_eq_some_iff.mp a).1, a], b, fun z hz => grow _ (d z hz)⟩
    all := fun k hk => by
      rcases Nat.lt_or_eq_of_le (Nat.le_of_lt_succ (by rw [List.length_append] at hk; exact hk : k < hs.length + 1)) with z | z
      · obtain ⟨i, hi, ei⟩ := W.all k z
        exact ⟨i, hi, by rw [stay i (fun y => by rw [y, free] at ei; cases ei), ei]⟩
      · exact ⟨g, hK, by rw [self, z]⟩
    ps := ⟨g :: used, by rw [List.length_cons, hu, List.length_append]; rfl, fun i hi ne => by
      by_cases c : i = g
      · exact c ▸ List.mem_cons_self
      · rw [stay i c] at ne
        exact List.mem_cons_of_mem _ (cov i hi ne)⟩ }
theorem own_all {m : Nat} (hm : MaskP m) : ∀ (rest hs : List Int) (ow : Array (Option Nat)), Own m hs ow → hs.length + rest.length ≤ m →
    ∃ ow', rest.foldl (stepF m) (some (ow, hs.length)) = some (ow', (hs ++ rest).length) ∧ Own m (hs ++ rest) ow'
  | [], hs, ow, W, _ => ⟨ow, by rw [List.append_nil]; rfl, by rw [List.append_nil]; exact W⟩
  | h :: rest, hs, ow, W, hl => by
    have hl : hs.length + (rest.length + 1) ≤ m := hl
    obtain ⟨j, e, W2⟩ := own_more hm W (by omega) h
    have len : (hs ++ [h]).length = hs.length + 1 := List.length_append
    obtain ⟨ow', f, W3⟩ := own_all hm rest (hs ++ [h]) _ W2 (by omega)
    rw [len, List.append_cons hs h rest |>.symm] at f
    rw [List.append_cons hs h rest |>.symm] at W3
    exact ⟨ow', by rw [List.foldl_cons, stepF_some e]; exact f, W3⟩
theorem laid_anew (t : SetTable) {hs : Array Int} {wanted M : Nat} (hw : SetTable.sizeAbove wanted - 1 = M) (hM : MaskP M) (hn : hs.size ≤ M) :
    ∃ t' order, t.relaid hs wanted = some (t', order) ∧ order.toList.Perm (List.range hs.size) ∧ TabP t' (order.toList.map fun i => hs.getD i 0) ∧ t'.mask = M ∧ t'.led = t.led ∧ t'.plain = t.plain := by
  obtain ⟨ow, f, W⟩ := own_all hM hs.toList [] _ (Own.init M) (by rw [Array.length_toList]; exact (Nat.zero_add _).symm ▸ hn)
  rw [List.nil_append] at W f
  have lay : SetTable.layClean M hs = some ow := by
    rw [layClean_eq]
    exact congrArg (Option.map (·.1)) f
  have run : t.relaid hs wanted = some (tabOf t M ow, ((liveOf M ow).map (·.2)).toArray) := by
    rw [relaid_eq, hw, lay]
    rfl
  have rr := ris_live (fun j => ow.getD j none) (List.range (M + 1)) List.pairwise_lt_range
  have nd : ((liveOf M ow).map (·.1)).Nodup := List.Pairwise.imp Nat.ne_of_lt rr.1
  obtain ⟨used, hu, cov⟩ := W.ps
  have many : (liveOf M ow).length = hs.size := by
    have a := nat_nodup_len _ used nd fun x hx => by
      obtain ⟨⟨y, k⟩, hq, rfl⟩ := List.mem_map.mp hx
      obtain ⟨b, c⟩ := (mem_live W.sz).mp hq
      exact cov y b (by rw [c]; exact Option.some_ne_none _)
    have b := nat_nodup_len (List.range hs.size) ((liveOf M ow).map (·.2)) List.nodup_range fun k hk => by
      obtain ⟨j, c, d⟩ := W.all k (by rw [Array.length_toList]; exact List.mem_range.mp hk)
      exact List.mem_map_of_mem (f := Prod.snd) ((mem_live W.sz).mpr ⟨c, d⟩)
    have e : hs.toList.length = hs.size := rfl
    rw [List.length_map] at a
    rw [List.length_map, List.length_range] at b
    exact Nat.le_antisymm (by omega) b
  refine ⟨_, _, run, perm_range _ _ (by rw [List.length_map, many]) (fun k hk => ?_), ⟨rr.1, rfl, ?_, hM, fun x hx => Nat.le_of_lt_succ (List.mem_range.mp (rr.2 x hx)), fun q hq => ?_⟩, rfl, rfl, rfl⟩
  · obtain ⟨j, c, d⟩ := W.all k (by rw [Array.length_toList]; exact hk)
    exact List.mem_map_of_mem (f := Prod.snd) ((mem_live W.sz).mpr ⟨c, d⟩)
  · show ((liveOf M ow).map (·.1)).toArray.size = _
    simp
  · have hq : q ∈ (((liveOf M ow).map (·.2)).map fun i => hs.getD i 0).zip ((liveOf M ow).map (·.1)) := hq
    rw [List.map_map, List.zip_map', List.mem_map] at hq
    obtain ⟨⟨j, k⟩, hv, rfl⟩ := hq
    obtain ⟨b, c⟩ := (mem_live W.sz).mp hv
    obtain ⟨h, K, a1, a2, a3⟩ := W.at_ j k b c
    have eh : hs.getD k 0 = h := by
      rw [Array.getD_eq_getD_getElem?, ← Array.getElem?_toList, a1]
      rfl
    refine ⟨K, (congrArg (fun z => way M z K) eh).trans a2, fun d hd => ?_⟩
    show way M (hs.getD k 0) d ∈ (liveOf M ow).map (·.1)
    rw [eh]
    obtain ⟨i, hi⟩ := Option.ne_none_iff_exists'.mp (a3 d hd)
    exact List.mem_map_of_mem (f := Prod.fst) ((mem_live W.sz).mpr ⟨way_in M h d, hi⟩)
end Mw
namespace Mw
open PySem PyProof.Rows L2
/-! ## how many slots are searched: fewer than 100000 while 9998 others are met at most -/
theorem off_next (m : Nat) : ∀ (n i b : Nat), off m i b (n + 1) = off m i b n + (SetTable.runEnd m (itL m i b n).1 - (itL m i b n).1 + 1)
  | 0, i, b => by
    show (SetTable.runEnd m i - i + 1) + 0 = 0 + (SetTable.runEnd m i - i + 1)
    omega
  | n + 1, i, b => by
    have e : off m i b (n + 2) = (SetTable.runEnd m i - i + 1) + off m (SetTable.leap m i b).1 (SetTable.leap m i b).2 (n + 1) := rfl
    have e2 : off m i b (n + 1) = (SetTable.runEnd m i - i + 1) + off m (SetTable.leap m i b).1 (SetTable.leap m i b).2 n := rfl
    have e3 : itL m i b (n + 1) = itL m (SetTable.leap m i b).1 (SetTable.leap m i b).2 n := rfl
    rw [e, e2, e3, off_next m n]
    omega
/-- the steps ahead of run n; its first slot -/
abbrev ahead (m : Nat) (h : Int) (n : Nat) : Nat := off m (SetTable.bits h % (m + 1)) (SetTable.bits h) n
abbrev head (m : Nat) (h : Int) (n : Nat) : Nat := runI m (SetTable.bits h) n
theorem ahead_next (m : Nat) (h : Int) (n : Nat) : ahead m h (n + 1) = ahead m h n + (SetTable.runEnd m (head m h n) - head m h n + 1) := by
  rw [ahead, off_next, itL_run]
theorem way_head (m : Nat) (h : Int) (n d : Nat) (hd : d ≤ SetTable.runEnd m (head m h n) - head m h n) : way m h (ahead m h n + d) = head m h n + d := by
  rw [way, nth_add, nth_off, itL_run, nth_run _ _ _ _ hd]
theorem run_long {m i : Nat} (h : i + 9 ≤ m) : SetTable.runEnd m i = i + 9 := if_pos h
theorem run_short {m i : Nat} (h : ¬ i + 9 ≤ m) : SetTable.runEnd m i = i := if_neg h
theorem ahead_le (m : Nat) (h : Int) : ∀ n, ahead m h n ≤ 10 * n
  | 0 => Nat.le_refl _
  | n + 1 => by
    have a := ahead_le m h n
    have b := runEnd_bd (runI_le m (SetTable.bits h) n)
    rw [ahead_next]
    show _ + (SetTable.runEnd m (runI m (SetTable.bits h) n) - runI m (SetTable.bits h) n + 1) ≤ _
    omega
/-- behind the twelfth the heads go their round -/
abbrev rnd (h : Int) (n : Nat) : Nat := head 32767 h (12 + n)
theorem rnd_next (h : Int) (n : Nat) : rnd h (n + 1) = (5 * rnd h n + 1) % 32768 := by
  have e : ∀ j, rnd h j = lcgI 32767 (runI 32767 (SetTable.bits h) 12) j := runI_tail (bits_lt h)
  rw [e, e]
  show (lcgI 32767 _ n * 5 + 1) % 32768 = _
  rw [Nat.mul_comm]
theorem rnd_le (h : Int) (n : Nat) : rnd h n ≤ 32767 := runI_le ..
theorem mask_big : MaskP 32767 := ⟨15, by decide, by decide, by decide⟩
theorem rnd_inj (h : Int) (N : Nat) (hN : N ≤ 32768) : ((List.range N).map (rnd h)).Nodup := by
  have all : ((List.range 32768).map (rnd h)).Perm (List.range 32768) := perm_range _ _ (by rw [List.length_map, List.length_range]) fun k hk => by
    obtain ⟨n, hn, e⟩ := lcg_hits mask_big (rnd_le h 0) (show k ≤ 32767 by omega)
    refine List.mem_map.mpr ⟨n, List.mem_range.mpr (by omega), ?_⟩
    rw [← e]
    exact runI_tail (bits_lt h) n
  have nd := all.nodup_iff.mpr List.nodup_range
  have sub : List.Sublist (List.range N) (List.range 32768) := by
    have e : List.range N = (List.range 32768).take N := by rw [List.take_range, Nat.min_eq_left hN]
    rw [e]
    exact List.take_sublist _ _
  exact nd.sublist (sub.map _)
/-- heads near the end have short runs -/
def short (h : Int) (N : Nat) : Nat := ((List.range N).filter fun n => decide (¬ rnd h n + 9 ≤ 32767)).length
theorem short_next (h : Int) (N : Nat) : short h (N + 1) = short h N + if rnd h N + 9 ≤ 32767 then 0 else 1 := by
  unfold short
  rw [List.range_succ, List.filter_append, List.length_append]
  by_cases c : rnd h N + 9 ≤ 32767
  · rw [if_pos c, List.filter_cons_of_neg (by simpa using c)]
    rfl
  · rw [if_neg c, List.filter_cons_of_pos (by simpa using c)]
    rfl
theorem short_le (h : Int) {N : Nat} (hN : N ≤ 32768) : short h N ≤ 9 := by
  have nd : (((List.range N).filter fun n => decide (¬ rnd h n + 9 ≤ 32767)).map (rnd h)).Nodup := (rnd_inj h N hN).sublist (List.Sublist.map _ List.filter_sublist)
  have := nat_nodup_len _ (List.range' 32759 9) nd fun x hx => by
    obtain ⟨n, hn, rfl⟩ := List.mem_map.mp hx
    have a := (List.mem_filter.mp hn).2
    have b := rnd_le h n
    simp only [decide_eq_true_eq] at a
    rw [List.mem_range'_1]
    omega
  rw [List.length_map, List.length_range'] at this
  exact this
theorem ahead_short (h : Int) : ∀ n, ahead 32767 h (12 + n) + 9 * short h n ≤ 120 + 10 * n
  | 0 => by
    have := ahead_le 32767 h 12
    show ahead 32767 h 12 + 9 * 0 ≤ 120
    omega
  | n + 1 => by
    have a := ahead_short h n
    have e : head 32767 h (12 + n) = rnd h n := rfl
    rw [short_next, show 12 + (n + 1) = 12 + n + 1 by omega, ahead_next, e]
    by_cases c : rnd h n + 9 ≤ 32767
    · rw [if_pos c, run_long c]
      omega
    · rw [if_neg c, run_short c]
      omega
/-- as many runs more as are short -/
theorem short_fix (h : Int) : ∃ β, β ≤ 9 ∧ short h (9987 + β) = β := by
  obtain ⟨β, hb, le, least⟩ := st_least (p := fun β => short h (9987 + β) ≤ β) 9 (short_le h (by decide))
  refine ⟨β, hb, Nat.le_antisymm le ?_⟩
  cases β with
  | zero => exact Nat.zero_le _
  | succ β =>
    have a := least β (Nat.lt_succ_self β)
    have b := short_next h (9987 + β)
    rw [show 9987 + (β + 1) = 9987 + β + 1 by omega]
    split at b <;> omega
/-- what is covered by ten places from each of these -/
theorem cover (O : List Nat) : ∀ (l : List Nat) (v : Nat), (v :: l).Pairwise (· < ·) → (∀ x ∈ v :: l, ∀ d, d ≤ 9 → x + d ∈ O) →
    ∃ U : List Nat, U.Nodup ∧ (∀ u ∈ U, u ∈ O ∧ v ≤ u) ∧ ((∃ z, (∀ x ∈ v :: l, x ≤ z) ∧ v + l.length ≤ z ∧ U.length = (z - v) + 10) ∨ l.length + 13 ≤ U.length)
  | [], v, _, hO => by
    refine ⟨List.range' v 10, List.nodup_range', fun u hu => ?_, .inl ⟨v, fun x hx => by rw [List.mem_singleton.mp hx]; exact Nat.le_refl _, Nat.le_refl _, by rw [List.length_range']; omega⟩⟩
    rw [List.mem_range'_1] at hu
    have := hO v List.mem_cons_self (u - v) (by omega)
    rw [Nat.add_sub_cancel' hu.1] at this
    exact ⟨this, hu.1⟩
  | w :: r, v, hp, hO => by
    obtain ⟨h1, h2⟩ := List.pairwise_cons.mp hp
    have hw := h1 w List.mem_cons_self
    obtain ⟨U, nd, hU, alt⟩ := cover O r w h2 fun x hx => hO x (List.mem_cons_of_mem _ hx)
    refine ⟨List.range' v (min (w - v) 10) ++ U, ?_, fun u hu => ?_, ?_⟩
    · refine List.nodup_append.mpr ⟨List.nodup_range', nd, fun a ha b hb e => ?_⟩
      rw [List.mem_range'_1] at ha
      have := (hU b hb).2
      omega
    · rcases List.mem_append.mp hu with z | z
      · rw [List.mem_range'_1] at z
        have := hO v List.mem_cons_self (u - v) (by omega)
        rw [Nat.add_sub_cancel' z.1] at this
        exact ⟨this, z.1⟩
      · exact ⟨(hU u z).1, by have := (hU u z).2; omega⟩
    · rw [List.length_append, List.length_range', List.length_cons]
      rcases alt with ⟨z, a, b, c⟩ | b
      · by_cases g : w - v ≤ 10
        · refine .inl ⟨z, fun x hx => ?_, by omega, by omega⟩
          rcases List.mem_cons.mp hx with y | y
          · omega
          · exact a x y
        · exact .inr (by omega)
      · exact .inr (by omega)
/-- the round leaves every such range soon -/
theorem leaves (v z : Nat) (hv : v + 9988 ≤ 32767 + 9988) : ∃ c, c + 3 ≤ 6600 ∧ ∀ r, r < 3 → v + c + r ≠ z ∧ ((5 * (v + c + r) + 1) % 32768 < v ∨ v + 9988 < (5 * (v + c + r) + 1) % 32768) ∧ (5 * (v + c + r) + 1) % 32768 + 9 ≤ 32767 := by
  obtain ⟨T, hT⟩ : ∃ T, (T + 40 ≤ v ∨ v + 9988 < T) ∧ T + 60 ≤ 32767 := by
    by_cases c : v ≤ 200
    · exact ⟨v + 9989, .inr (by omega), by omega⟩
    · exact ⟨v - 100, .inl (by omega), by omega⟩
  obtain ⟨D, q, hD, h1, h2⟩ : ∃ D q, 32768 * q + D = T + 5 * 32768 - (5 * v + 1) ∧ D < 32768 ∧ q ≤ 5 := by
    refine ⟨(T + 5 * 32768 - (5 * v + 1)) % 32768, (T + 5 * 32768 - (5 * v + 1)) / 32768, Nat.div_add_mod .., Nat.mod_lt _ (by decide), ?_⟩
    refine Nat.le_of_lt_succ (Nat.div_lt_of_lt_mul ?_)
    omega
  obtain ⟨j, hj, hj2⟩ : ∃ j, j ≤ 5 ∧ q + j = 5 := ⟨5 - q, by omega, by omega⟩
  have key : ∀ r, r < 6 → T ≤ (5 * (v + (D + 4) / 5 + r) + 1) % 32768 ∧ (5 * (v + (D + 4) / 5 + r) + 1) % 32768 < T + 30 := fun r hr => by
    obtain ⟨y, hy, hy2⟩ : ∃ y, 5 * ((D + 4) / 5) = D + y ∧ y ≤ 4 := ⟨5 * ((D + 4) / 5) - D, by omega, by omega⟩
    have e : 5 * (v + (D + 4) / 5 + r) + 1 = 32768 * j + (T + y + 5 * r) := by omega
    rw [e, Nat.mul_add_mod, Nat.mod_eq_of_lt (by omega)]
    omega
  by_cases c : z = v + (D + 4) / 5 ∨ z = v + (D + 4) / 5 + 1 ∨ z = v + (D + 4) / 5 + 2
  · refine ⟨(D + 4) / 5 + 3, by omega, fun r hr => ?_⟩
    have := key (3 + r) (by omega)
    rw [show v + (D + 4) / 5 + (3 + r) = v + ((D + 4) / 5 + 3) + r by omega] at this
    omega
  · refine ⟨(D + 4) / 5, by omega, fun r hr => ?_⟩
    have := key r (by omega)
    omega
theorem few_steps (h : Int) (O : List Nat) (hO : O.length ≤ 9998) (G : Nat) (all : ∀ c, c < G → way 32767 h c ∈ O) : G < 100000 := by
  refine Nat.lt_of_not_le fun big => ?_
  obtain ⟨β, hb, fix⟩ := short_fix h
  generalize hN : 9987 + β = N at fix
  have hN2 : N ≤ 32768 := by omega
  have inO : ∀ n, n < N → ∀ d, d ≤ SetTable.runEnd 32767 (rnd h n) - rnd h n → rnd h n + d ∈ O := fun n hn d hd => by
    rw [← way_head _ _ _ _ hd]
    refine all _ ?_
    have a := ahead_next 32767 h (12 + n)
    have b : ∀ j k, ahead 32767 h j ≤ ahead 32767 h (j + k) := fun j k => by
      induction k with
      | zero => exact Nat.le_refl _
      | succ k ih =>
        have := ahead_next 32767 h (j + k)
        rw [← Nat.add_assoc]
        omega
    have c := b (12 + n + 1) (N - (n + 1))
    rw [show 12 + n + 1 + (N - (n + 1)) = 12 + N by omega] at c
    have e := ahead_short h N
    have : SetTable.runEnd 32767 (rnd h n) - rnd h n = SetTable.runEnd 32767 (head 32767 h (12 + n)) - head 32767 h (12 + n) := rfl
    omega
  -- the heads with long runs, in order
  obtain ⟨V, hV⟩ : ∃ V, V = (List.range 32768).filter fun x => decide (∃ n, n < N ∧ rnd h n = x ∧ x + 9 ≤ 32767) := ⟨_, rfl⟩
  have memV : ∀ x, x ∈ V ↔ ∃ n, n < N ∧ rnd h n = x ∧ x + 9 ≤ 32767 := fun x => by
    rw [hV, List.mem_filter, List.mem_range, decide_eq_true_eq]
    exact ⟨fun z => z.2, fun z => ⟨by obtain ⟨_, _, _, _⟩ := z; omega, z⟩⟩
  have srt : V.Pairwise (· < ·) := hV ▸ List.Pairwise.filter _ List.pairwise_lt_range
  have ndV : V.Nodup := srt.imp Nat.ne_of_lt
  have long : 9987 ≤ V.length := by
    have nd : (((List.range N).filter fun n => decide (rnd h n + 9 ≤ 32767)).map (rnd h)).Nodup := (rnd_inj h N hN2).sublist (List.Sublist.map _ List.filter_sublist)
    have a := nat_nodup_len _ V nd fun x hx => by
      obtain ⟨n, hn, e⟩ := List.mem_map.mp hx
      obtain ⟨a, b⟩ := List.mem_filter.mp hn
      simp only [decide_eq_true_eq] at b
      exact (memV x).mpr ⟨n, List.mem_range.mp a, e, e ▸ b⟩
    have b : ∀ l : List Nat, (l.filter fun n => decide (rnd h n + 9 ≤ 32767)).length + (l.filter fun n => decide (¬ rnd h n + 9 ≤ 32767)).length = l.length := by
      intro l
      induction l with
      | nil => rfl
      | cons x l ih =>
        by_cases c : rnd h x + 9 ≤ 32767
        · rw [List.filter_cons_of_pos (by simpa using c), List.filter_cons_of_neg (by simpa using c), List.length_cons, List.length_cons]
          omega
        · rw [List.filter_cons_of_neg (by simpa using c), List.filter_cons_of_pos (by simpa using c), List.length_cons, List.length_cons]
          omega
    have c := b (List.range N)
    have e : ((List.range N).filter fun n => decide (¬ rnd h n + 9 ≤ 32767)).length = β := fix
    rw [List.length_range, e] at c
    rw [List.length_map] at a
    omega
  match hVl : V, long with
  | v :: l, long =>
    obtain ⟨U, nd, hU, alt⟩ := cover O l v srt fun x hx d hd => by
      obtain ⟨n, hn, e, hx9⟩ := (memV x).mp hx
      rw [← e]
      exact inO n hn d (by rw [e, run_long hx9]; omega)
    have hUl := nat_nodup_len U O nd fun u hu => (hU u hu).1
    have long : 9987 ≤ l.length + 1 := long
    rcases alt with ⟨z, top, b, c⟩ | b
    · have within : ∀ x ∈ v :: l, v ≤ x ∧ x ≤ v + 9988 := fun x hx => by
        have := top x hx
        refine ⟨?_, by omega⟩
        rcases List.mem_cons.mp hx with y | y
        · omega
        · exact Nat.le_of_lt (List.rel_of_pairwise_cons srt y)
      have hv : v + 9 ≤ 32767 := by
        obtain ⟨n, _, e, q⟩ := (memV v).mp List.mem_cons_self
        exact q
      obtain ⟨p, hp, out⟩ := leaves v (rnd h (N - 1)) (by omega)
      have no : ∀ r, r < 3 → v + p + r ∉ v :: l := fun r hr hm => by
        obtain ⟨n, hn, e, _⟩ := (memV _).mp hm
        obtain ⟨o1, o2, o3⟩ := out r hr
        have last : n + 1 < N := by
          by_cases y : n = N - 1
          · exact absurd (by rw [← e, y]) o1
          · omega
        have nx := rnd_next h n
        rw [e] at nx
        have := within _ ((memV _).mpr ⟨n + 1, last, nx, o3⟩)
        omega
      have no0 := no 0 (by decide)
      have no1 := no 1 (by decide)
      have no2 := no 2 (by decide)
      have cnt := nat_nodup_len ((v + p + 0) :: (v + p + 1) :: (v + p + 2) :: (v :: l)) (List.range' v 9989) (by
        refine List.nodup_cons.mpr ⟨fun y => ?_, List.nodup_cons.mpr ⟨fun y => ?_, List.nodup_cons.mpr ⟨no2, ndV⟩⟩⟩
        · rcases List.mem_cons.mp y with y | y
          · omega
          · rcases List.mem_cons.mp y with y | y
            · omega
            · exact no0 y
        · rcases List.mem_cons.mp y with y | y
          · omega
          · exact no1 y) fun x hx => by
        rw [List.mem_range'_1]
        rcases List.mem_cons.mp hx with y | hx
        · omega
        · rcases List.mem_cons.mp hx with y | hx
          · omega
          · rcases List.mem_cons.mp hx with y | hx
            · omega
            · have := within x hx
              omega
      rw [List.length_range', List.length_cons, List.length_cons, List.length_cons, List.length_cons] at cnt
      omega
    · omega
end Mw
namespace Mw
open PySem PySem.Spec PyProof.Rows L2
/-! ## sets of tuples of numbers, up to 40000 of them -/
/-- the masks that come -/
def MaskS (m : Nat) : Prop := m = 7 ∨ m = 31 ∨ m = 127 ∨ m = 511 ∨ m = 2047 ∨ m = 8191 ∨ m = 32767
theorem MaskS.p {m : Nat} (h : MaskS m) : MaskP m := by
  rcases h with e | e | e | e | e | e | e
  · exact ⟨3, by decide, by decide, by rw [e]⟩
  · exact ⟨5, by decide, by decide, by rw [e]⟩
  · exact ⟨7, by decide, by decide, by rw [e]⟩
  · exact ⟨9, by decide, by decide, by rw [e]⟩
  · exact ⟨11, by decide, by decide, by rw [e]⟩
  · exact ⟨13, by decide, by decide, by rw [e]⟩
  · exact ⟨15, by decide, by decide, by rw [e]⟩
structure SetP (P : Program) (w : World) (h : Heap) (a : Addr) (L : List (Addr × List Int)) (es : Array (Int × Value)) (n : Nat) (t : SetTable) : Prop where
  obj : ∃ ob, h.get? a = some ob ∧ ob.ExactSet ∧ ob.data = .set es n t
  rws : es.toList = rowsOf P w L
  tab : TabP t (L.map fun q => thash P w q.2)
  once : (L.map (·.2)).Nodup
  tups : ∀ q ∈ L, IsT P w h q.2 q.1
  pln : t.plain = true
  ld : w.params.followText "set-order" = true ∨ t.led = true
  room : L.length * 5 < t.mask * 3
  few : L.length ≤ 9999
  msk : MaskS t.mask
section
variable {P : Program} {w : World} {A : Around} {E : Value → Shared → Prop} {s : Shared} {a : Addr} {L : List (Addr × List Int)} {es : Array (Int × Value)} {n : Nat} {t : SetTable}
theorem rows_size (h : es.toList = rowsOf P w L) : es.size = L.length := by
  rw [← Array.length_toList, h, rowsOf, List.length_map]
theorem SetP.sz (R : SetP P w s.heap a L es n t) : es.size = L.length := rows_size R.rws
theorem SetP.pl (R : SetP P w s.heap a L es n t) : t.place.toList.length = L.length := by rw [R.tab.plen, List.length_map]
theorem fits_of {t : SetTable} {k : Nat} (h1 : t.place.size = k) (h2 : t.dummies = #[]) (h3 : k ≤ t.mask) : t.fits k = true := by
  unfold SetTable.fits SetTable.fill
  rw [h1, h2, beq_self_eq_true, Bool.true_and]
  exact decide_eq_true (by show k + 0 ≤ t.mask; omega)
theorem SetP.fit (R : SetP P w s.heap a L es n t) : t.fits es.size = true := by
  have := R.room
  have e := R.pl
  rw [Array.length_toList] at e
  exact fits_of (e.trans R.sz.symm) R.tab.nodum (by rw [R.sz]; omega)
theorem maskP_odd {m : Nat} (h : MaskP m) : m % 2 = 1 := by
  obtain ⟨e, h3, _, he⟩ := h
  obtain ⟨d, rfl⟩ : ∃ d, e = d + 1 := ⟨e - 1, by omega⟩
  rw [Nat.pow_succ] at he
  omega
theorem maskP_le {m : Nat} (h : MaskP m) : m < 131072 := by
  obtain ⟨e, _, h17, he⟩ := h
  have := Nat.pow_le_pow_right (show 0 < 2 by decide) h17
  omega
theorem SetP.odd (R : SetP P w s.heap a L es n t) : ¬ t.gaveWay = true := by
  unfold SetTable.gaveWay
  rw [maskP_odd R.tab.mask]
  decide
theorem SetP.row (R : SetP P w s.heap a L es n t) {i : Nat} {q : Addr × List Int} (h : L[i]? = some q) : es[i]? = some (thash P w q.2, Value.ref q.1) := by
  rw [← Array.getElem?_toList, R.rws, rowsOf, List.getElem?_map, h]
  rfl
theorem same_mem (t : SetTable) : t.sameMemory t.moves t.mask = some true := if_pos (beq_self_eq_true _)
theorem nth_dummy (m : Nat) : ∀ (c : Nat) (p : SetTable.Probe), p.dummy = none → (nth m p c).dummy = none
  | 0, _, h => h
  | c + 1, p, h => nth_dummy m c (adv m p) (by unfold adv; split <;> exact h)
/-- the c-th slot that is searched, with all that the search keeps -/
abbrev stp (t : SetTable) (h : Int) (c : Nat) : SetTable.Probe := nth t.mask (t.probeStart h) c
theorem stp_add (t : SetTable) (h : Int) (c d : Nat) : nth t.mask (stp t h c) d = stp t h (c + d) := (nth_add t.mask c _ d).symm
theorem stp_way (t : SetTable) (h : Int) (c d : Nat) : (nth t.mask (stp t h c) d).j = way t.mask h (c + d) := congrArg SetTable.Probe.j (stp_add t h c d)
/-- the search, from its c-th slot on -/
theorem seek (R : SetP P w s.heap a L es n t) {x : Addr} {k : List Int} (tx : IsT P w s.heap k x) (cu : A.units < cLine) {K G : Nat} (lim : K < 10 * SetTable.turns t.mask) (stop : G = K ∨ ∃ (i : Nat) (q : Addr × List Int), L[i]? = some q ∧ q.2 = k ∧ t.place.toList[i]? = some (way t.mask (thash P w k) G))
    (gap : way t.mask (thash P w k) K ∉ t.place.toList) (occ : ∀ c, c < K → way t.mask (thash P w k) c ∈ t.place.toList) {Q : SetFound → Shared → Prop}
    (yes : k ∈ L.map (·.2) → Q (.there none) s) (no : k ∉ L.map (·.2) → Q (.free (way t.mask (thash P w k) K) false) s) :
    ∀ (f c : Nat) (from_ : Option SetTable.Probe), from_.getD (t.probeStart (thash P w k)) = stp t (thash P w k) c → c ≤ G → G ≤ K → G < c + f →
      (∀ (i : Nat) q, L[i]? = some q → q.2 = k → ∃ d, c ≤ d ∧ d < K ∧ t.place.toList[i]? = some (way t.mask (thash P w k) d)) →
      wpAny (model P w) A (setSearchFrom a (.ref x) (thash P w k) true f from_) Q E s
  | 0, c, _, _, h1, _, h2, _ => absurd h2 (by omega)
  | f + 1, c, from_, hf, h1g, hgk, h2, lies => by
    have h1 : c ≤ K := Nat.le_trans h1g hgk
    obtain ⟨ob, gb, _, db⟩ := R.obj
    generalize hh : thash P w k = h at *
    rw [setSearchFrom_succ]
    refine wpAny_bind (wpAny_setState_of gb db R.fit ?_)
    dsimp only
    refine wp_if_neg R.odd ?_
    try refine wpAny_bind (wpAny_pure ?_)
    have hashes : ∀ (i : Nat) q, L[i]? = some q → (es[i]?.map (·.1)).getD 0 = thash P w q.2 := fun i q hq => by
      rw [R.row hq]
      rfl
    have shown := go_spec t R.tab.up R.tab.nodum (fun i => (es[i]?.map (·.1)).getD 0) h (10 * SetTable.turns t.mask) (K - c) (stp t h c) (nth_dummy _ _ _ rfl) (by omega)
      (fun d hd => by rw [stp_way]; exact occ _ (by omega)) (by rw [stp_way, Nat.add_sub_cancel' h1]; exact gap)
    rcases shown with ⟨d, i, hd, hi, hash, none_before, run⟩ | ⟨none_before, run⟩
    · rw [stp_way] at hi run
      rw [stp_add] at run
      have met : t.probe (fun i => (es[i]?.map (·.1)).getD 0) h (from_.getD (t.probeStart h)) = some (.candidate (way t.mask h (c + d)) i (stp t h (c + (d + 1)))) := hf ▸ run
      rw [met]
      dsimp only
      have hil : i < L.length := R.pl ▸ (List.getElem?_eq_some_iff.mp hi).1
      obtain ⟨q, hq⟩ : ∃ q, L[i]? = some q := ⟨_, List.getElem?_eq_getElem hil⟩
      have hqm : q ∈ L := List.mem_of_getElem? hq
      have onward : wpAny (model P w) A (searchRest a (.ref x) h true f es t (way t.mask h (c + d)) i (stp t h (c + (d + 1)))) Q E s := by
        unfold searchRest
        rw [R.row hq]
        dsimp only
        refine wpAny_bind (wpAny_holding (wpAny_eqBool_tuple cu (R.tups q hqm) tx ?_))
        refine wpAny_bind (wpAny_setState_of gb db R.fit ?_)
        dsimp only
        rcases Classical.em (q.2 = k) with same | other
        · refine wp_if_pos (by simp [same]) (wpAny_pure (yes (List.mem_map.mpr ⟨q, hqm, same⟩)))
        · refine wp_if_neg (by simp [other]) ?_
          try refine wpAny_bind (wpAny_pure ?_)
          rw [same_mem]
          dsimp only
          have lives := slot_live R.tab.up hi
          simp only [if_true, lives, R.row hq]
          refine wpAny_bind (wpAny_isSame_ref_self (wpAny_bind (wpAny_pure ?_)))
          simp only [if_true]
          refine wp_if_neg (by simp [other]) ?_
          have past : ∀ (i0 : Nat) (q0 : Addr × List Int) (g : Nat), L[i0]? = some q0 → q0.2 = k → c ≤ g → t.place.toList[i0]? = some (way t.mask h g) → c + (d + 1) ≤ g := fun i0 q0 g e0 k0 g1 g3 => by
            refine Nat.lt_of_not_le fun z => ?_
            have z : g ≤ c + d := z
            have eq0 := (hashes i0 q0 e0).trans ((congrArg (thash P w) k0).trans hh)
            by_cases y : g = c + d
            · rw [y] at g3
              have l0 := slot_live R.tab.up g3
              rw [lives] at l0
              injection l0 with l0
              rw [← l0, hq] at e0
              exact other (by rw [Option.some.inj e0, k0])
            · refine none_before (g - c) i0 (by omega) ?_ eq0
              rw [stp_way, Nat.add_sub_cancel' g1]
              exact g3
          have more : c + (d + 1) ≤ G := by
            rcases stop with z | ⟨i0, q0, e0, k0, g3⟩
            · omega
            · exact past i0 q0 G e0 k0 h1g g3
          have go := seek (K := K) (G := G) R tx cu lim (hh.symm ▸ stop) (hh.symm ▸ gap) (hh.symm ▸ occ) yes (hh.symm ▸ no) f (c + (d + 1)) (some (stp t (thash P w k) (c + (d + 1)))) rfl more hgk (by omega)
          rw [hh] at go
          refine go fun i0 q0 e0 k0 => ?_
          obtain ⟨g, g1, g2, g3⟩ := lies i0 q0 e0 k0
          exact ⟨g, past i0 q0 g e0 k0 g1 g3, g2, g3⟩
      by_cases led : t.led = true
      · refine wp_if_neg (by simp [led]) ?_
        try refine wpAny_bind (wpAny_pure ?_)
        exact onward
      · refine wp_if_pos (by simp [led]) (wpAny_bind (seen_tup tx (fun y hy => ?_) ?_))
        · obtain ⟨e, he, rfl⟩ := List.mem_map.mp hy
          have he : e ∈ es.toList := by
            have := he
            simp only [Array.toList_filter, List.mem_filter] at this
            exact this.1
          rw [R.rws] at he
          obtain ⟨q2, hq2, rfl⟩ := List.mem_map.mp he
          exact ⟨q2.2, q2.1, rfl, R.tups q2 hq2⟩
        · refine wp_if_neg (by decide) ?_
          try refine wpAny_bind (wpAny_pure ?_)
          exact onward
    · rw [stp_way, Nat.add_sub_cancel' h1] at run
      have met : t.probe (fun i => (es[i]?.map (·.1)).getD 0) h (from_.getD (t.probeStart h)) = some (.empty (way t.mask h K) none) := hf ▸ run
      rw [met]
      dsimp only
      refine wpAny_pure (no fun hm => ?_)
      obtain ⟨q0, hq0, k0⟩ := List.mem_map.mp hm
      obtain ⟨i0, e0⟩ := List.mem_iff_getElem?.mp hq0
      obtain ⟨g, g1, g2, g3⟩ := lies i0 q0 e0 k0
      refine none_before (g - c) i0 (by omega) ?_ ((hashes i0 q0 e0).trans ((congrArg (thash P w) k0).trans hh))
      rw [stp_way, Nat.add_sub_cancel' g1]
      exact g3
theorem SetP.lie (R : SetP P w s.heap a L es n t) {i : Nat} {q : Addr × List Int} (hq : L[i]? = some q) : ∃ j, t.place.toList[i]? = some j ∧ (thash P w q.2, j) ∈ (L.map fun q => thash P w q.2).zip t.place.toList := by
  have il : i < t.place.toList.length := R.pl.symm ▸ (List.getElem?_eq_some_iff.mp hq).1
  refine ⟨_, List.getElem?_eq_getElem il, List.mem_of_getElem? (i := i) (List.getElem?_zip_eq_some.mpr ⟨?_, List.getElem?_eq_getElem il⟩)⟩
  rw [List.getElem?_map, hq]
  rfl
/-- the whole search, as adding asks for it -/
theorem seek_all (R : SetP P w s.heap a L es n t) {x : Addr} {k : List Int} (tx : IsT P w s.heap k x) (cu : A.units < cLine) (small : k ∉ L.map (·.2) → L.length ≤ 9998) {Q : SetFound → Shared → Prop} (yes : k ∈ L.map (·.2) → Q (.there none) s)
    (no : ∀ K, k ∉ L.map (·.2) → way t.mask (thash P w k) K ∉ t.place.toList → (∀ c, c < K → way t.mask (thash P w k) c ∈ t.place.toList) → Q (.free (way t.mask (thash P w k) K) false) s) :
    wpAny (model P w) A (setSearch a (.ref x) (thash P w k) true) Q E s := by
  have rm := R.room
  obtain ⟨K, lim, gap, occ⟩ := R.tab.gap (by rw [List.length_map]; omega) (thash P w k)
  have stopAt : ∃ G, G ≤ K ∧ G < 100000 ∧ (G = K ∨ ∃ (i : Nat) (q : Addr × List Int), L[i]? = some q ∧ q.2 = k ∧ t.place.toList[i]? = some (way t.mask (thash P w k) G)) := by
    by_cases big : t.mask = 32767
    · by_cases mem : k ∈ L.map (·.2)
      · obtain ⟨q, hq, hk⟩ := List.mem_map.mp mem
        obtain ⟨i, hi⟩ := List.mem_iff_getElem?.mp hq
        obtain ⟨j, hj, hz⟩ := R.lie hi
        rw [hk] at hz
        obtain ⟨c, hc, e⟩ := R.tab.ahead gap hz
        obtain ⟨G, g1, g2, g3⟩ := st_least (p := fun c => way t.mask (thash P w k) c = j) c e
        refine ⟨G, by omega, ?_, .inr ⟨i, q, hi, hk, by rw [hj]; exact congrArg some g2.symm⟩⟩
        have nd : t.place.toList.Nodup := R.tab.up.imp Nat.ne_of_lt
        refine few_steps (thash P w k) (t.place.toList.erase j) ?_ G fun c hc => ?_
        · rw [List.length_erase_of_mem (List.mem_of_getElem? hj), R.pl]
          have := R.few
          omega
        · rw [← big]
          exact (List.mem_erase_of_ne (g3 c hc)).mpr (occ c (by omega))
      · refine ⟨K, Nat.le_refl _, ?_, .inl rfl⟩
        exact few_steps (thash P w k) t.place.toList (by rw [R.pl]; exact small mem) K fun c hc => big ▸ occ c hc
    · refine ⟨K, Nat.le_refl _, ?_, .inl rfl⟩
      have : 10 * SetTable.turns t.mask ≤ 82060 := by
        unfold SetTable.turns
        rcases R.msk with e | e | e | e | e | e | e <;> omega
      omega
  obtain ⟨G, g1, g2, g3⟩ := stopAt
  unfold setSearch
  refine seek R tx cu lim g3 gap occ yes (fun h => no K h gap occ) 100000 0 none rfl (Nat.zero_le _) g1 (by omega) fun i q hq hk => ?_
  obtain ⟨j, hj, hz⟩ := R.lie hq
  rw [hk] at hz
  obtain ⟨c, hc, e⟩ := R.tab.ahead gap hz
  exact ⟨c, Nat.zero_le _, hc, by rw [hj, e]⟩
end
end Mw
namespace Mw
open PySem PySem.Spec PyProof.Rows L2
section
variable {P : Program} {w : World} {A : Around} {E : Value → Shared → Prop} {s : Shared} {a : Addr} {L : List (Addr × List Int)} {es : Array (Int × Value)} {n : Nat} {t : SetTable}
/-! ### adding one -/
theorem relay_big {ob : Obj} (gb : s.heap.get? a = some ob) (xb : ob.ExactSet) (db : ob.data = .set es n t) (rws : es.toList = rowsOf P w L) (fit : t.fits es.size = true) (once : (L.map (·.2)).Nodup) (tups : ∀ q ∈ L, IsT P w s.heap q.2 q.1)
    (pln : t.plain = true) (ld : w.params.followText "set-order" = true ∨ t.led = true) (few : L.length ≤ 9999) {wanted M : Nat} (above : SetTable.sizeAbove wanted = M + 1) (hM : MaskS M) (room : L.length * 5 < M * 3) {Q : Unit → Shared → Prop}
    (fin : ∀ h' L' es' n' t', Heap.SameBut a s.heap h' → SetP P w h' a L' es' n' t' → L'.Perm L → Q () { s with heap := h' }) : wpAny (model P w) A (setRelay a wanted) Q E s := by
  have esz := rows_size rws
  obtain ⟨t2, order, run, pm, T, m2, l2, p2⟩ := laid_anew t (hs := es.map (·.1)) (wanted := wanted) (M := M) (by omega) hM.p (by rw [Array.size_map, esz]; omega)
  rw [Array.size_map, esz] at pm
  obtain ⟨L2, rws2, pm2, hash2⟩ := order_rows L es order rws pm
  rw [← hash2] at T
  have sz2 := (rows_size rws2).trans (pm2.length_eq.trans esz.symm)
  have hmM : M ≤ 32767 := by rcases hM with e | e | e | e | e | e | e <;> omega
  rw [setRelay_eq]
  refine wpAny_bind (wpAny_setState_of gb db fit ?_)
  dsimp only
  refine wp_if_neg (by rw [above, sizeLine_eq]; omega) ?_
  try refine wpAny_bind (wpAny_pure ?_)
  rw [run]
  dsimp only
  refine wpAny_bind (wp_if_neg (by rw [sz2]; simp) ?_)
  try refine wpAny_bind (wpAny_pure ?_)
  refine wpAny_pure ?_
  dsimp only
  refine wpAny_storeSet_of gb db ?_ (by rw [sz2, esz, sizeLine_eq]; omega)
  have but : Heap.SameBut a s.heap (s.heap.update a (Obj.putSet (order.filterMap (es[·]?)) t2)) := Heap.SameBut.update ..
  exact fin _ L2 _ (n + 1) t2 but {
    obj := ⟨_, store_at gb db, ⟨xb.1, xb.2.1, xb.2.2⟩, rfl⟩
    rws := rws2
    tab := T
    once := (pm2.map (·.2)).nodup_iff.mpr once
    tups := fun q hq => isT_same (tups q (pm2.mem_iff.mp hq)) gb db but
    pln := p2.trans pln
    ld := l2.symm ▸ ld
    room := by rw [pm2.length_eq, m2]; exact room
    few := pm2.length_eq ▸ few
    msk := m2.symm ▸ hM } pm2
theorem above_5 : SetTable.sizeAbove (SetTable.grown 5) = 31 + 1 := by decide +kernel
theorem above_19 : SetTable.sizeAbove (SetTable.grown 19) = 127 + 1 := by decide +kernel
theorem above_77 : SetTable.sizeAbove (SetTable.grown 77) = 511 + 1 := by decide +kernel
theorem above_307 : SetTable.sizeAbove (SetTable.grown 307) = 2047 + 1 := by decide +kernel
theorem above_1229 : SetTable.sizeAbove (SetTable.grown 1229) = 8191 + 1 := by decide +kernel
theorem above_4915 : SetTable.sizeAbove (SetTable.grown 4915) = 32767 + 1 := by decide +kernel
/-- when the table is too full, the next one is known -/
theorem next_mask {m k : Nat} (hm : MaskS m) (room : k * 5 < m * 3) (full : (k + 1) * 5 ≥ m * 3) (few : k + 1 ≤ 9999) : ∃ M, SetTable.sizeAbove (SetTable.grown (k + 1)) = M + 1 ∧ MaskS M ∧ (k + 1) * 5 < M * 3 := by
  rcases hm with e | e | e | e | e | e | e
  · have : k = 4 := by omega
    subst this
    exact ⟨31, above_5, .inr (.inl rfl), by decide⟩
  · have : k = 18 := by omega
    subst this
    exact ⟨127, above_19, .inr (.inr (.inl rfl)), by decide⟩
  · have : k = 76 := by omega
    subst this
    exact ⟨511, above_77, .inr (.inr (.inr (.inl rfl))), by decide⟩
  · have : k = 306 := by omega
    subst this
    exact ⟨2047, above_307, .inr (.inr (.inr (.inr (.inl rfl)))), by decide⟩
  · have : k = 1228 := by omega
    subst this
    exact ⟨8191, above_1229, .inr (.inr (.inr (.inr (.inr (.inl rfl))))), by decide⟩
  · have : k = 4914 := by omega
    subst this
    exact ⟨32767, above_4915, .inr (.inr (.inr (.inr (.inr (.inr rfl))))), by decide⟩
  · omega
theorem add_big (R : SetP P w s.heap a L es n t) {x : Addr} {k : List Int} (tx : IsT P w s.heap k x) (cu : A.units < cLine) (small : k ∉ L.map (·.2) → L.length ≤ 9998) {Q : Bool → Shared → Prop}
    (fin : ∀ b h' L' es' n' t', Heap.SameBut a s.heap h' → SetP P w h' a L' es' n' t' → (k ∈ L.map (·.2) → L' = L) → (k ∉ L.map (·.2) → L'.Perm ((x, k) :: L)) → Q b { s with heap := h' }) :
    wpAny (model P w) A (setAddHashed a (.ref x) (thash P w k)) Q E s := by
  obtain ⟨ob, gb, xb, db⟩ := R.obj
  unfold setAddHashed
  refine wpAny_holding ?_
  rw [show (100000 : Nat) = 99999 + 1 from rfl, setAddHashedIn_succ]
  refine wpAny_bind (wpAny_setState_of gb db R.fit ?_)
  dsimp only
  refine wp_if_neg (by simp [byScan, Value.scannable]) ?_
  try refine wpAny_bind (wpAny_pure ?_)
  refine wpAny_bind (seek_all R tx cu small (fun mem => ?_) fun K new gap occ => ?_)
  · dsimp only
    exact wpAny_pure (fin false s.heap L es n t (Heap.SameBut.refl a s.heap) R (fun _ => rfl) fun z => absurd mem z)
  dsimp only
  refine wpAny_bind (wpAny_setState_of gb db R.fit ?_)
  dsimp only
  have less := small new
  obtain ⟨t1, p, put1, hp, T1, mask1, led1, pln1, fill1⟩ := R.tab.more gap occ
  rw [put1]
  dsimp only
  rw [List.length_map] at hp fill1
  have pt1 : t1.plain = true := pln1.trans R.pln
  first
    | (refine wpAny_bind ?_; refine wp_if_pos pt1 ?_; refine hashBy_tup tx ?_)
    | refine wp_if_pos pt1 (wpAny_bind (hashBy_tup tx ?_))
  simp only [if_true]
  have rws1 : (SetTable.insertAt es p (thash P w k, Value.ref x)).toList = rowsOf P w (L.take p ++ (x, k) :: L.drop p) := by
    rw [SetTable.toList_insertAt, R.rws, ← rows_put]
  have perm1 := L2.put_perm L p (x, k)
  have hash1 : (L.take p ++ (x, k) :: L.drop p).map (fun q => thash P w q.2) = (L.map fun q => thash P w q.2).take p ++ thash P w k :: (L.map fun q => thash P w q.2).drop p := by
    rw [List.map_append, List.map_cons, List.map_take, List.map_drop]
  rw [← hash1] at T1
  generalize SetTable.insertAt es p (thash P w k, Value.ref x) = e1 at rws1 ⊢
  generalize L.take p ++ (x, k) :: L.drop p = L1 at perm1 T1 rws1
  have len1 : L1.length = L.length + 1 := perm1.length_eq
  have once1 : (L1.map (·.2)).Nodup := (perm1.map (·.2)).nodup_iff.mpr (List.nodup_cons.mpr ⟨new, R.once⟩)
  have sz1 : e1.size = L.length + 1 := (rows_size rws1).trans len1
  refine wpAny_bind (wpAny_storeSet_of gb db ?_ (by rw [sz1, sizeLine_eq]; omega))
  have but : Heap.SameBut a s.heap (s.heap.update a (Obj.putSet e1 t1)) := Heap.SameBut.update ..
  have gb1 := store_at (es' := e1) (t' := t1) gb db
  generalize s.heap.update a (Obj.putSet e1 t1) = h1 at but gb1 ⊢
  have tups1 : ∀ q ∈ L1, IsT P w h1 q.2 q.1 := fun q hq => by
    rcases List.mem_cons.mp (perm1.mem_iff.mp hq) with z | z
    · exact z ▸ isT_same tx gb db but
    · exact isT_same (R.tups q z) gb db but
  have ld1 : w.params.followText "set-order" = true ∨ t1.led = true := led1.symm ▸ R.ld
  have rm := R.room
  by_cases full : t1.tooFull = true
  · first
      | (refine wpAny_bind ?_; refine wp_if_pos (by simp [full]) ?_)
      | (refine wp_if_pos (by simp [full]) ?_; refine wpAny_bind ?_)
    have f5 : (L.length + 1) * 5 ≥ t.mask * 3 := by
      rw [SetTable.tooFull, decide_eq_true_eq, fill1, mask1] at full
      exact full
    obtain ⟨M, above, hM, roomM⟩ := next_mask R.msk rm f5 (by omega)
    rw [R.sz]
    have pl1 := T1.many
    rw [List.length_map, len1] at pl1
    refine relay_big (s := { s with heap := h1 }) gb1 ⟨xb.1, xb.2.1, xb.2.2⟩ rfl rws1 (fits_of (pl1.trans sz1.symm) T1.nodum (by rw [sz1, mask1]; rcases R.msk with e | e | e | e | e | e | e <;> omega)) once1 tups1 pt1 ld1 (by omega) above hM (by rw [len1]; exact roomM) ?_
    intro h2 L2 e2 n2 t2 but2 R2 perm2
    exact wpAny_pure (fin true h2 L2 e2 n2 t2 (but.trans but2) R2 (fun z => absurd z new) fun _ => perm2.trans perm1)
  · first
      | refine wp_if_neg (by simp [full]) ?_
      | (refine wpAny_bind ?_; refine wp_if_neg (by simp [full]) ?_; refine wpAny_pure ?_)
    have room1 : L1.length * 5 < t1.mask * 3 := by
      rw [SetTable.tooFull, decide_eq_true_eq, fill1] at full
      rw [len1]
      omega
    exact wpAny_pure (fin true h1 L1 e1 (n + 1) t1 but ⟨⟨_, gb1, ⟨xb.1, xb.2.1, xb.2.2⟩, rfl⟩, rws1, T1, once1, tups1, pt1, ld1, room1, by omega, mask1.symm ▸ R.msk⟩ (fun z => absurd z new) fun _ => perm1)
/-! ### set(xs) -/
theorem SetP.stays {h h' : Heap} (R : SetP P w h a L es n t) (ka : ∀ o, h.get? a = some o → h'.get? a = some o) (kt : ∀ q ∈ L, IsT P w h' q.2 q.1) : SetP P w h' a L es n t := by
  obtain ⟨ob, gb, r⟩ := R.obj
  exact { R with obj := ⟨ob, ka ob gb, r⟩, tups := kt }
/-- the object of a new set -/
abbrev newSetO (w : World) : Obj := { cls := .type "set", dict := none, data := .set #[] 0 (.fresh 0 0 (!w.params.followText "set-order")) }
theorem setP_new {h : Heap} (g : h.get? a = some (newSetO w)) : SetP P w h a [] #[] 0 (.fresh 0 0 (!w.params.followText "set-order")) where
  obj := ⟨_, g, ⟨rfl, rfl, rfl⟩, rfl⟩
  rws := rfl
  tab := ⟨List.Pairwise.nil, rfl, rfl, (MaskS.p (.inl rfl)), fun x hx => (nomatch hx), fun q hq => (nomatch hq)⟩
  once := List.nodup_nil
  tups := fun q hq => (nomatch hq)
  pln := rfl
  ld := by
    show _ ∨ (!w.params.followText "set-order") = true
    cases w.params.followText "set-order" <;> simp
  room := by
    show 0 * 5 < 7 * 3
    decide
  few := Nat.zero_le _
  msk := .inl rfl
/-- how many different ones there are -/
def Least (ks : List (Addr × List Int)) (k : Nat) : Prop := ∀ l : List (List Int), l.Nodup → (∀ x ∈ l, x ∈ ks.map (·.2)) → l.length ≤ k
theorem Got.inside {ks L : List (Addr × List Int)} {i : Nat} (g : Got ks i L) : ∀ x ∈ L.map (·.2), x ∈ ks.map (·.2) := fun x hx => by
  obtain ⟨q, hq, e⟩ := List.mem_map.mp hx
  exact List.mem_map.mpr ⟨q, List.mem_of_mem_take (g.sub q hq), e⟩
theorem fill_loop {I : Addr} {fp wr : List Addr} {G : Array GenState → Array GenState → Prop} {m : Nat} {Pv : Nat → Value → Prop} {St : Nat → Shared → Prop} {R : Result → Shared → Prop}
    (Wk : WalksS P w A.in1 I fp wr G m Pv St) (B : Addr) (hB : B ∉ fp) (ks : List (Addr × List Int)) (hm : m = ks.length) (few : Least ks 9999) (val : ∀ i v, Pv i v → ∃ q, ks[i]? = some q ∧ v = .ref q.1)
    (g0 : Heap) (tk : ∀ q ∈ ks, IsT P w g0 q.2 q.1) (nB : g0.get? B = none) (nw : ∀ b ∈ wr, g0.get? b = none) (cu : A.in1.units < cLine) :
    ∀ (k i : Nat) (s : Shared), m - i = k → i ≤ m → St i s → (∀ b o, g0.get? b = some o → s.heap.get? b = some o) → (∃ L es n t, SetP P w s.heap B L es n t ∧ Got ks i L) →
      (∀ s' L es n t, Moved (B :: wr) G s s' → SetP P w s'.heap B L es n t → Got ks m L → (∀ b o, g0.get? b = some o → s'.heap.get? b = some o) → R (.ok (.ret .none)) s') →
      codeAny (model P w) A (.builtin "set.update.loop" ⟨[.ref B, .ref I], []⟩) R s := by
  have hBw : B ∉ wr := fun z => hB (Wk.sub _ z)
  have up : ∀ b ∈ wr, b ∈ B :: wr := fun b hb => List.mem_cons_of_mem _ hb
  have keep : ∀ {s s' : Shared}, Moved wr G s s' → (∀ b o, g0.get? b = some o → s.heap.get? b = some o) → ∀ b o, g0.get? b = some o → s'.heap.get? b = some o := fun mv kp b o e =>
    mv.heap b o (fun hb => by rw [nw b hb] at e; exact nomatch e) (kp b o e)
  intro k
  induction k with
  | zero =>
    intro i s hk hi st kp ⟨L, es, n, t, S, g⟩ fin
    obtain rfl : i = m := by omega
    refine codeAny_builtin F.entry_set_update_loop ?_
    rw [Around.under_plainId F.plain_set_update_loop _]
    show wpAny _ A.in1 (pyNext (.ref I) >>= _) _ _ s
    refine wpAny_bind (Wk.done s _ _ st fun s2 mv => ?_)
    show wpAny _ A.in1 (ret Value.none) _ _ s2
    exact wpAny_pure (fin s2 L es n t (mv.mono up) (S.stays (fun o e => mv.heap B o hBw e) fun q hq => isT_keep (tk q (List.mem_of_mem_take (g.sub q hq))) (keep mv kp)) g (keep mv kp))
  | succ k ih =>
    intro i s hk hi st kp ⟨L, es, n, t, S, g⟩ fin
    have him : i < m := by omega
    refine codeAny_builtin F.entry_set_update_loop ?_
    rw [Around.under_plainId F.plain_set_update_loop _]
    show wpAny _ A.in1 (pyNext (.ref I) >>= _) _ _ s
    refine wpAny_bind (Wk.item i s _ _ him st fun v s2 hv st2 mv => ?_)
    obtain ⟨q, hq, rfl⟩ := val i v hv
    have kp2 := keep mv kp
    have S2 : SetP P w s2.heap B L es n t := S.stays (fun o e => mv.heap B o hBw e) fun r hr => isT_keep (tk r (List.mem_of_mem_take (g.sub r hr))) kp2
    have tq : IsT P w s2.heap q.2 q.1 := isT_keep (tk q (List.mem_of_getElem? hq)) kp2
    show wpAny _ A.in1 (holding [Value.ref q.1] (setAdd B (.ref q.1)) >>= _) _ _ s2
    refine wpAny_bind (wpAny_holding ?_)
    unfold setAdd
    refine wpAny_holding (wpAny_bind (wpAny_pyHash_tuple cu tq ?_))
    have small : q.2 ∉ L.map (·.2) → L.length ≤ 9998 := fun new => by
      have := few (q.2 :: L.map (·.2)) (List.nodup_cons.mpr ⟨new, S.once⟩) fun x hx => by
        rcases List.mem_cons.mp hx with z | z
        · exact z ▸ List.mem_map_of_mem (List.mem_of_getElem? hq)
        · exact Got.inside g x z
      rw [List.length_cons, List.length_map] at this
      omega
    refine add_big (s := { s2 with toks := s2.toks + (q.2.length + 1) }) S2 tq cu small fun b h3 L3 es3 n3 t3 but S3 old new => ?_
    have g3 : Got ks (i + 1) L3 := by
      by_cases c : q.2 ∈ L.map (·.2)
      · exact old c ▸ g.same hq c
      · exact g.more hq (new c)
    have kp3 : ∀ b o, g0.get? b = some o → h3.get? b = some o := fun b o e => (but.2 b (fun z => by rw [z, nB] at e; exact nomatch e)).trans (kp2 b o e)
    refine wpAny_pure ⟨plainId_quiet F.plain_set_update_loop _, ih (i + 1) _ (by omega) him (Wk.frame _ s2 _ _ st2 (Nat.le_add_right _ _) fun b hb o e => ?_) kp3 ⟨L3, es3, n3, t3, S3, g3⟩ fun s4 L4 es4 n4 t4 mv4 S4 g4 kp4 => ?_⟩
    · exact (but.2 b fun z : b = B => hB (z ▸ hb)).trans e
    · refine fin s4 L4 es4 n4 t4 (Moved.trans Wk.gtrans ((mv.mono up).then_heap (Nat.le_add_right _ _) fun b o hb e => ?_) mv4) S4 g4 kp4
      exact (but.2 b fun z : b = B => hb (z ▸ List.mem_cons_self)).trans e
end
end Mw
namespace Mw
open PySem PySem.Spec PyProof.Rows L2
section
variable {P : Program} {w : World} {A : Around} {E : Value → Shared → Prop} {s : Shared} {a : Addr} {L : List (Addr × List Int)} {es : Array (Int × Value)} {n : Nat} {t : SetTable}
theorem beyond {h : Heap} {b : Addr} (hb : h.objs.size ≤ b) : h.get? b = none := by
  cases e : h.get? b with
  | none => rfl
  | some o => exact absurd (Heap.lt_size e) (Nat.not_lt_of_le hb)
theorem call_set_big {l : Addr} {its : Array Value} (ks : List (Addr × List Int)) {Q : Value → Shared → Prop} (hd : A.handled = none) (gl : s.heap.IsList l its) (eq : its.toList = ks.map fun q => Value.ref q.1)
    (tk : ∀ q ∈ ks, IsT P w s.heap q.2 q.1) (few : Least ks 9999) (cu : A.units + 3 < cLine)
    (fin : ∀ (h' : Heap) (tok : Nat) L es n t, SetP P w h' s.heap.objs.size L es n t → Got ks ks.length L → (∀ b o, s.heap.get? b = some o → h'.get? b = some o) → Q (.ref s.heap.objs.size) { s with heap := h', toks := tok }) :
    wpAny (model P w) A (call (.type "set") [.ref l]) Q E s := by
  have isz : its.size = ks.length := by rw [← Array.length_toList, eq, List.length_map]
  obtain ⟨c, tl, hmro⟩ := F.called_set.mro
  have hmade := F.called_set.made
  have hsub := F.called_set.sub
  refine wpAny_call (codeAny_of_tree ?_)
  show wpAny _ _ (callAny (.type "set") _) _ _ _
  refine wpAny_pure ⟨Code.quiet_builtin _ (by decide +kernel), codeAny_builtin F.entry_type_call ?_⟩
  rw [Around.under_plain (weight_type_call_type "set" [.ref l] []) rfl]
  have f1 := F.called_set.notType
  have f2 := F.called_set.canCreate
  have f3 := F.typeCall_set_1 (.ref l)
  repeat (any_goals (first | assumption | wp_step))
  refine codeAny_mono (code_set_led1 (.ref l) (E := E) (Q₁ := fun v s1 => v = .ref s.heap.objs.size ∧ s1 = { s with heap := s.heap.push (newSetO w) }) ⟨rfl, rfl⟩) fun r s1 hr => ?_
  cases r with
  | error e => exact hr
  | ok fl =>
    cases fl with
    | ret v =>
      obtain ⟨rfl, rfl⟩ := hr
      have gB : (s.heap.push (newSetO w)).get? s.heap.objs.size = some (newSetO w) := Heap.get?_push_size _ rfl
      have tB : Shared.TypeIs { s with heap := s.heap.push (newSetO w) } (.ref s.heap.objs.size) "set" := ⟨_, gB, rfl⟩
      have f4 := F.called_set.init.lookup
      have f5 := F.called_set.init.bind (.ref s.heap.objs.size)
      repeat (any_goals (first | assumption | wp_step))
      refine codeAny_mono (codeAny_call_builtin (R := wants (fun r s2 => r = .none ∧ ∃ h' tok L es n t, s2 = { s with heap := h', toks := tok } ∧ SetP P w h' s.heap.objs.size L es n t ∧ Got ks ks.length L ∧
          (∀ b o, s.heap.get? b = some o → h'.get? b = some o)) E) F.called_set.init.plain F.entry_set_init (check_set_init_1 tB ?_)) fun r2 s2 hr2 => ?_
      · obtain ⟨⟨cl, od, dat, sl⟩, gl0, hcl, nl, hdl⟩ := gl
        simp only at hcl hdl
        subst hcl hdl
        have gl1 : (s.heap.push (newSetO w)).get? l = some { cls := .type "list", dict := od, data := .seq its nl, slots := sl } := Heap.get?_push_of_some _ gl0
        have f6 := F.sub_list_set
        have f7 := F.sub_list_frozenset
        have f8 : (Value.type "list" == Value.type "dict") = false := by decide
        have isl : (s.heap.push (newSetO w)).IsList l its := ⟨_, gl1, rfl, nl, rfl⟩
        unfold Builtin.«set.__init__» noKeywords Builtin.Frozenset.updateFrom
        generalize hPI : pyIter = PI
        wp_walk
        subst hPI
        refine wpAny_pyIter_list isl (wpAny_bind (wpAny_runValue ?_))
        have ll : l < s.heap.objs.size := Heap.lt_size gl0
        have hd3 : A.in1.in1.in1.handled = none := by simp [hd]
        have psz : (s.heap.push (newSetO w)).objs.size = s.heap.objs.size + 1 := Heap.size_push ..
        have lne : l ≠ (s.heap.push (newSetO w)).objs.size := by rw [psz]; exact Nat.ne_of_lt (Nat.lt_succ_of_lt ll)
        have Bfp : s.heap.objs.size ∉ [(s.heap.push (newSetO w)).objs.size, l] := by
          rw [psz]
          simp only [List.mem_cons, List.not_mem_nil, or_false, not_or]
          exact ⟨Nat.ne_of_lt (Nat.lt_succ_self _), Nat.ne_of_gt ll⟩
        have val : ∀ (i : Nat) (v : Value), its[i]? = some v → ∃ q, ks[i]? = some q ∧ v = .ref q.1 := fun i v hv => by
          rw [← Array.getElem?_toList, eq, List.getElem?_map] at hv
          obtain ⟨q, hq, e⟩ := Option.map_eq_some_iff.mp hv
          exact ⟨q, hq, e.symm⟩
        refine fill_loop ((Walks.list hd3 _ l lne its).toS) s.heap.objs.size Bfp ks isz few val s.heap tk (beyond (Nat.le_refl _)) (fun b hb => beyond (by
            rw [List.mem_singleton.mp hb, psz]
            omega)) cu (its.size - 0) 0 _ (by omega) (Nat.zero_le _) ⟨⟨_, Heap.get?_push_size _ rfl, rfl, rfl⟩, isl.push _⟩ (fun b o e => Heap.get?_push_of_some _ (Heap.get?_push_of_some _ e)) ?start ?finish
        case start => exact ⟨[], #[], 0, _, setP_new (Heap.get?_push_of_some _ gB), Got.zero ks⟩
        case finish =>
          intro s3 L es n t mv S g kp
          obtain ⟨h3, g3, d3, tok3, os3⟩ := s3
          obtain rfl : g3 = s.gens := mv.gens
          obtain rfl : d3 = s.drawn := mv.drawn
          obtain rfl : os3 = s.os := mv.os
          show wpAny _ _ _ _ _ _
          refine wpAny_pure ?_
          show wpAny _ _ (ret Value.none) _ _ _
          exact wpAny_pure ⟨rfl, h3, tok3, L, es, n, t, rfl, S, isz ▸ g, kp⟩
      · cases r2 with
        | error e => exact hr2
        | ok fl2 =>
          cases fl2 with
          | ret r =>
            obtain ⟨rfl, h', tok, L, es, n, t, rfl, S, g, kp⟩ := hr2
            repeat (any_goals (first | assumption | wp_step))
            exact fin _ _ _ _ _ _ S g kp
          | _ => exact hr2.elim
    | _ => exact hr.elim
/-! ### the members in a list -/
theorem iter_big {Q : Value → Shared → Prop} (S : SetAt s.heap a es n t) (fit : t.fits es.size = true) (up : Ris t.place.toList) (pln : t.plain = true) (ld : w.params.followText "set-order" = true ∨ t.led = true)
    (fin : ∀ s2 I, SetIt P w s a es s2 I → Q (.ref I) s2) : wpAny (model P w) A (pyIter (.ref a)) Q E s := by
  obtain ⟨ob, gb, cb, db⟩ := id S
  have tb : s.TypeIs (.ref a) "set" := ⟨ob, gb, cb⟩
  have ne : a ≠ s.heap.objs.size := Nat.ne_of_lt (Heap.lt_size gb)
  refine wpAny_pyIter_slot tb F.slot_set_iter (wpAny_call_entry F.slot_set_iter tb entry_s_iter ?_ (F.args_set_iter_1 _))
  unfold Builtin.«frozenset.__iter__»
  refine wpAny_bind (m := Builtin.Frozenset.slot0 "__iter__" _) (wpAny_of_eq (a := a) (by rfl) ?_)
  refine wpAny_bind (m := Builtin.Frozenset.sizeOf a) ?_
  unfold Builtin.Frozenset.sizeOf
  refine wpAny_bind (wpAny_setEntries_of gb db fit (wpAny_pure ?_))
  first | refine wpAny_bind (setDrawn_at S fit ?_) | refine wpAny_bind (wpAny_bind (setDrawn_at S fit ?_))
  refine wp_if_neg (by simp [pln]) ?_
  first | refine wpAny_bind (wpAny_pure ?_) | refine wpAny_pure ?_
  refine wpAny_bind (wpAny_setEpoch_of gb db fit (wpAny_bind (wpAny_newObj_type (wpAny_pure ⟨_, rfl, "set_iterator", _, ⟨_, Heap.get?_push_size _ rfl, rfl⟩, slot_si_next.lookup, ?_⟩))))
  have fp : ∀ b ∈ [s.heap.objs.size, a], b = a ∨ s.heap.objs.size ≤ b := fun b hb => by
    rcases List.mem_cons.mp hb with z | z
    · exact .inr (Nat.le_of_eq z.symm)
    · exact .inl (List.mem_singleton.mp z)
  cases text : w.params.followText "set-order" with
  | true =>
    refine fin _ _ (SetIt.of (fun A2 h2 => walks_text (P := P) (ep := n) h2 ne fit text) (by rw [List.length_map, Array.length_toList]) (fun b u e => Heap.get?_push_of_some _ e) rfl rfl rfl (Nat.le_refl _) fp ((pick_perm (w.params.setOrder a n) es).map _)
      (fun j v q => ?_) ⟨⟨_, Heap.get?_push_size _ rfl, rfl, rfl⟩, S.at fun u e => Heap.get?_push_of_some _ e⟩)
    rw [List.getElem?_map, Array.getElem?_toList]
    exact q
  | false =>
    have led : t.led = true := ld.resolve_left (by rw [text]; exact Bool.false_ne_true)
    refine fin _ _ (SetIt.of (fun A2 h2 => walks_led (P := P) (ep := n) h2 ne fit up text (by rw [pln]; rfl) led) (by rw [List.length_map, Array.length_toList]) (fun b u e => Heap.get?_push_of_some _ e) rfl rfl rfl (Nat.le_refl _) fp (List.Perm.refl _)
      (fun j v q => ?_) ⟨⟨_, Heap.get?_push_size _ rfl, rfl, rfl⟩, S.at fun u e => Heap.get?_push_of_some _ e⟩)
    rw [List.getElem?_map, Array.getElem?_toList]
    exact q
theorem collect_big {Q : List Value → Shared → Prop} (hd : A.handled = none) (S : SetAt s.heap a es n t) (fit : t.fits es.size = true) (few : es.size ≤ 9999) (up : Ris t.place.toList) (pln : t.plain = true) (ld : w.params.followText "set-order" = true ∨ t.led = true)
    (fin : ∀ s' out, (∀ b o, s.heap.get? b = some o → s'.heap.get? b = some o) → s.heap.objs.size ≤ s'.heap.objs.size → s'.gens = s.gens → s'.os = s.os → out.Perm (es.toList.map (·.2)) → Q out s') :
    wpAny (model P w) A (collect (.ref a)) Q E s := by
  obtain ⟨ob, gb, cb, db⟩ := id S
  have al : a < s.heap.objs.size := Heap.lt_size gb
  generalize hz : s.heap.objs.size = z at al
  have za : z ≠ a := Nat.ne_of_gt al
  unfold collect
  refine wpAny_bind (wpAny_runValue (codeAny_builtin F.entry_proto_collect ?_))
  rw [Around.under_plainId F.plain_proto_collect _]
  show wpAny _ A.in1 (newList [] >>= fun l => again (.builtin "list.__iadd__" ⟨[l, .ref a], []⟩)) _ _ s
  refine wpAny_bind (wpAny_newObj_type ?_)
  refine wpAny_pure ⟨plainId_quiet F.plain_list_iadd _, codeAny_builtin F.entry_list_iadd ?_⟩
  rw [Around.under_plainId F.plain_list_iadd _, hz]
  generalize hg : s.heap.push { cls := .type "list", data := .seq ([] : List Value).toArray } = g1
  have gz : g1.get? z = some { cls := .type "list", data := .seq ([] : List Value).toArray } := by
    rw [← hg, ← hz]
    exact Heap.get?_push_size _ rfl
  have old1 : ∀ b o, s.heap.get? b = some o → g1.get? b = some o := fun b o e => hg ▸ Heap.get?_push_of_some _ e
  have S1 : SetAt g1 a es n t := S.at fun u e => old1 _ _ e
  have sz1 : g1.objs.size = z + 1 := by rw [← hg, ← hz]; exact size_push' _ _
  show wpAny _ A.in1 (Builtin.List.listExtendWith (.ref z) (.ref a) (.ref z)) _ _ _
  unfold Builtin.List.listExtendWith
  refine wpAny_bind (wpAny_typeOf (T := "set") ⟨ob, old1 _ _ gb, cb⟩ ?_)
  have c1 : Builtin.List.listSameRef (.ref z) (.ref a) = false := by simp [Builtin.List.listSameRef, za]
  have c2 : (Value.type "set" == Value.type "list") = false := by decide
  have c3 : (Value.type "set" == Value.type "tuple") = false := by decide
  simp only [c1, c2, c3, Bool.or_false, Bool.false_eq_true, if_false]
  refine wpAny_bind (iter_big (s := { s with heap := g1 }) S1 fit up pln ld fun s2 I hit => ?_)
  obtain ⟨fp, St, out, Pv, keep2, gens2, os2, tok2, hI, hfp, pm, walk, val, st⟩ := hit
  have hI : z + 1 ≤ I := sz1 ▸ hI
  have zfp : z ∉ fp := fun m => by
    rcases hfp _ m with y | y
    · exact za y
    · rw [sz1] at y
      omega
  have gb2 := keep2 a ob (old1 _ _ gb)
  have tb2 : s2.TypeIs (.ref a) "set" := ⟨ob, gb2, cb⟩
  refine wpAny_bind (wpAny_holding ?_)
  unfold Builtin.List.listLengthHint
  refine wpAny_bind (wpAny_specialOf tb2 F.slot_set_len.lookup ?_)
  (generalize hid : ("set.__len__" : String) = id0; (fail_if_success (clear hid id0)); wp_delta; rw [show splitId id0 = some ("set", "__len__") from by subst hid; decide +kernel]; subst hid)
  refine wpAny_bind (wpAny_isInstance (b := true) tb2 sub_set_self ?_)
  show wpAny _ A.in1 (typeOf (.ref a) >>= _) _ _ _
  refine wpAny_bind (wpAny_typeOf tb2 (wpAny_pure ?_))
  show wpAny _ A.in1 (rule "list.extend.makes-room" >>= fun _ => Builtin.List.listTouch (.ref z) >>= fun _ => again (.builtin "list.extend.loop" ⟨[.ref z, .ref I, .ref z], []⟩)) _ _ _
  refine wpAny_bind (wpAny_rule (wpAny_bind ?_))
  have gz2 := keep2 _ _ gz
  show wpAny _ A.in1 (updateSeq z (·.push .none) >>= fun _ => updateSeq z (·.pop)) _ _ _
  refine wpAny_bind (wpAny_updateSeq gz2 rfl ?_)
  have gz3 := Heap.get?_update_self (Obj.mapSeq (·.push Value.none)) gz2 rfl
  refine wpAny_updateSeq gz3 rfl ?_
  have gz4 := Heap.get?_update_self (Obj.mapSeq (·.pop)) gz3 rfl
  generalize hg4 : (s2.heap.update z (Obj.mapSeq (·.push Value.none))).update z (Obj.mapSeq (·.pop)) = g4 at gz4 ⊢
  have oth : ∀ b u, b ≠ z → s2.heap.get? b = some u → g4.get? b = some u := fun b u hb e => by
    rw [← hg4]
    exact (Heap.get?_update_other _ _ (Ne.symm hb)).trans ((Heap.get?_update_other _ _ (Ne.symm hb)).trans e)
  have olen : out.length ≤ sizeLine := by
    rw [pm.length_eq, List.length_map, Array.length_toList, sizeLine_eq]
    omega
  have W := walk A.in1 hd
  have st4 : St 0 g4 := W.frame 0 _ _ st fun b hb u e => oth b u (fun y => zfp (y ▸ hb)) e
  refine wpAny_pure ⟨plainId_quiet F.plain_extend_loop _, codeAny_extend_loopS W.toS olen _ zfp _ out.length 0 _ _ _ rfl (Nat.zero_le _) st4 gz4 (ItemsOf.nil Pv) fun s5 acc c mv g5 items => ?_⟩
  show wpAny _ A (load z >>= _) _ _ s5
  refine wpAny_bind (wpAny_load g5 (wpAny_pure ?_))
  show Q acc.toList s5
  rw [items_out items val]
  refine fin s5 out (fun b u e => ?_) (by rw [hz]; exact Nat.le_of_lt (Heap.lt_size g5)) (Eq.trans mv.gens gens2) (Eq.trans mv.os os2) pm
  have bz : b < z := hz ▸ Heap.lt_size e
  refine mv.heap b u (fun y => ?_) (oth b u (Nat.ne_of_lt bz) (keep2 b u (old1 b u e)))
  rcases List.mem_cons.mp y with y | y
  · exact absurd y (Nat.ne_of_lt bz)
  · exact absurd (List.mem_singleton.mp y) (Nat.ne_of_lt (Nat.lt_of_lt_of_le bz (Nat.le_of_succ_le hI)))
end
end Mw
namespace Mw
open PySem PySem.Spec PyProof.Rows L2 PySem.W
/-! ## sorted(set(xs)), tuples of numbers in their order -/
theorem dataLe_tups {β : Type} (x : β → List Int) : dataLe false (fun b => .tuple ((x b).map .int)) = fun p q => decide (x p ≤ x q) := by
  funext p q
  show (!dataLt (.tuple ((x q).map .int)) (.tuple ((x p).map .int))) = _
  rw [dataLt_tuple]
  have := dataLt_ints (x q) (x p)
  rw [rowLt] at this
  rw [this]
  by_cases h : x q < x p
  · have n : ¬ x p ≤ x q := fun r => List.not_lt.mpr r h
    rw [decide_eq_true h, decide_eq_false n]
    rfl
  · rw [decide_eq_false h, decide_eq_true (List.not_lt.mp h)]
    rfl
section
variable {P : Program} {w : World} {A : Around} {E : Value → Shared → Prop} {s : Shared} {a : Addr} {L : List (Addr × List Int)} {es : Array (Int × Value)} {n : Nat} {t : SetTable}
theorem tup_reads {h : Heap} {k : List Int} {b : Addr} (x : IsT P w h k b) : Reads h (.ref b) (.tuple (k.map .int)) [] := by
  obtain ⟨b', its, e, ⟨o, ho, hc, m, hd⟩, hi⟩ := tupInts_of x
  cases e
  exact .tuple ho hc hd (hi.reads h)
theorem refs_from (L : List (Addr × List Int)) : ∀ vs : List Value, (∀ v ∈ vs, v ∈ L.map fun q => Value.ref q.1) → ∃ L1 : List (Addr × List Int), vs = L1.map (fun q => Value.ref q.1) ∧ ∀ q ∈ L1, q ∈ L
  | [], _ => ⟨[], rfl, fun q hq => nomatch hq⟩
  | v :: vs, h => by
    obtain ⟨q, hq, e⟩ := List.mem_map.mp (h v List.mem_cons_self)
    obtain ⟨L1, e1, h1⟩ := refs_from L vs fun u hu => h u (List.mem_cons_of_mem _ hu)
    exact ⟨q :: L1, by rw [List.map_cons, e1, ← e], fun r hr => by
      rcases List.mem_cons.mp hr with z | z
      · exact z ▸ hq
      · exact h1 r z⟩
theorem sorted_big {Q : Value → Shared → Prop} (R : SetP P w s.heap a L es n t) (hd : A.handled = none) (cu : A.units + 64 < cLine) (ne : ∀ q ∈ L, q.2 ≠ [])
    (fin : ∀ s' p (out : Array Value) (c : Nat) (L' : List (Addr × List Int)), (∀ b o, s.heap.get? b = some o → s'.heap.get? b = some o) → s'.gens = s.gens → s'.os = s.os → s.heap.objs.size ≤ p →
      s'.heap.get? p = some (seqObj "list" out c) → out.toList = L'.map (fun q => Value.ref q.1) → L'.Perm L → L'.Pairwise (fun q r => q.2 ≤ r.2) → Q (.ref p) s') :
    wpAny (model P w) A (call (.builtin "sorted") [.ref a]) Q E s := by
  obtain ⟨ob, gb, xb, db⟩ := R.obj
  have sz := R.sz
  have few := R.few
  refine Calls.call_function_entry kind_sorted plain_sorted entry_sorted (args_sorted1 _) ?_
  unfold Builtin.«sorted»
  refine wpAny_bind (m := checkCount "sorted" 1 1 _) (wpAny_pure ?_)
  refine wpAny_bind (collect_big (A := A.in1) hd ⟨ob, gb, xb.1, db⟩ R.fit (by omega) R.tab.up R.pln R.ld fun s1 vs old1 hz g1 o1 pm => ?_)
  have mem : es.toList.map (·.2) = L.map fun q => Value.ref q.1 := by
    rw [R.rws, L2.rowsOf, List.map_map]
    rfl
  rw [mem] at pm
  obtain ⟨L1, rfl, sub⟩ := refs_from L vs fun v hv => pm.mem_iff.mp hv
  have nL : L.Nodup := List.Pairwise.of_map (·.2) (fun _ _ hne e => hne (congrArg (·.2) e)) R.once
  have alone : ∀ q ∈ L, ∀ r ∈ L, q.1 = r.1 → q = r := fun q hq r hr e => by
    have tq := R.tups q hq
    rw [e] at tq
    exact Prod.ext e (tq.inj (R.tups r hr))
  have nrefs : (L.map fun q => Value.ref q.1).Nodup := List.pairwise_map.mpr (List.Pairwise.imp_of_mem (fun {q r} hq hr hne e => hne (alone q hq r hr (by injection e))) nL)
  have pm1 : L1.Perm L := by
    have n1 : L1.Nodup := List.Pairwise.of_map (fun q => Value.ref q.1) (fun _ _ hne e => hne (congrArg (fun q => Value.ref q.1) e)) (pm.nodup_iff.mpr nrefs)
    refine (List.perm_ext_iff_of_nodup n1 nL).mpr fun q => ⟨sub q, fun hq => ?_⟩
    obtain ⟨r, hr, e⟩ := List.mem_map.mp (pm.mem_iff.mpr (List.mem_map_of_mem (f := fun q => Value.ref q.1) hq))
    injection e with e
    exact alone r (sub r hr) q hq e ▸ hr
  have len : (L1.map fun q => Value.ref q.1).length ≤ sizeLine := by
    rw [List.length_map, pm1.length_eq, sizeLine_eq]
    omega
  refine wpAny_bind (wpAny_newList ?_ len)
  have gl : (s1.heap.push (seqObj "list" (L1.map fun q => Value.ref q.1).toArray 0)).get? s1.heap.objs.size = some (seqObj "list" (L1.map fun q => Value.ref q.1).toArray 0) := Heap.get?_push_size _ rfl
  have rd : ∀ q ∈ L1, Reads (s1.heap.push (seqObj "list" (L1.map fun q => Value.ref q.1).toArray 0)) (.ref q.1) (.tuple (q.2.map .int)) [] := fun q hq => tup_reads (isT_keep (R.tups q (sub q hq)) fun b u e => Heap.get?_push_of_some _ (old1 b u e))
  have each : ∀ (T : Value → Addr × List Int → Prop) (l : List (Addr × List Int)), (∀ q ∈ l, T (.ref q.1) q) → EachIs T (l.map fun q => Value.ref q.1) l := fun T l h => by
    induction l with
    | nil => exact .nil
    | cons q l ih => exact .cons (h q List.mem_cons_self) (ih fun r hr => h r (List.mem_cons_of_mem _ hr))
  have back : ∀ {vs : List Value} {l : List (Addr × List Int)}, EachIs (fun v q => v = Value.ref q.1) vs l → vs = l.map fun q => Value.ref q.1 := fun {vs l} h => by
    induction h with
    | nil => rfl
    | cons e _ ih => rw [e, ih]; rfl
  refine wpAny_bind (wpAny_holding (list_sort_data (s := { s1 with heap := s1.heap.push (seqObj "list" (L1.map fun q => Value.ref q.1).toArray 0) }) (R := fun v (q : Addr × List Int) => v = Value.ref q.1) (enc := fun q => .tuple (q.2.map .int)) (bs := L1) gl
    (each _ _ fun q _ => rfl) (each _ _ fun q hq => ⟨[], rd q hq, fun z => nomatch z⟩) (AllAlike.of fun b b' => by rw [alike]; exact alike_ints _ _) (.inl fun d hd => ?_) (by rw [List.length_map] at len; exact len) (fun q _ => ?_) fun out olen eo => ?_))
  · obtain ⟨q, hq, rfl⟩ := List.mem_map.mp hd
    cases e : q.2 with
    | nil => exact absurd e (ne q (sub q hq))
    | cons x r => exact ⟨_, _, rfl⟩
  · have : (PyData.tuple (q.2.map .int)).depth = 1 := by rw [PyData.depth, depth_ints]
    rw [this]
    show A.units + 1 + 1 + 1 < cLine
    omega
  · rw [dataLe_tups] at eo
    have pmo : (L1.mergeSort fun p q => decide (p.2 ≤ q.2)).Perm L := (List.mergeSort_perm L1 _).trans pm1
    have pw : (L1.mergeSort fun p q => decide (p.2 ≤ q.2)).Pairwise fun q r => q.2 ≤ r.2 := by
      have := List.pairwise_mergeSort (le := fun p q : Addr × List Int => decide (p.2 ≤ q.2)) (fun a b c h1 h2 => by
        rw [decide_eq_true_eq] at h1 h2 ⊢
        exact List.le_trans h1 h2) (fun a b => by
        rw [Bool.or_eq_true, decide_eq_true_eq, decide_eq_true_eq]
        exact List.le_total _ _) L1
      exact this.imp fun h => of_decide_eq_true h
    have eo := back eo
    generalize L1.mergeSort (fun p q => decide (p.2 ≤ q.2)) = L2 at pmo pw eo
    obtain ⟨c, hc⟩ := sortedHeap_at (vs := L1.map fun q => Value.ref q.1) (out := List.toArray out) gl
    refine wpAny_pure ⟨_, rfl, fin _ s1.heap.objs.size (List.toArray out) c L2 (fun b u e => ?_) g1 o1 hz hc eo pmo pw⟩
    have q := old1 b u e
    have lt := Heap.lt_size q
    refine (sortedHeap_old (Nat.ne_of_lt lt) (by rw [size_push']; exact Nat.lt_succ_of_lt lt)).trans ?_
    exact Heap.get?_push_of_some _ q
end
/-! ### as rules -/
/-- the set at a, without its tuples -/
def SetP0 (P : Program) (w : World) (h : Heap) (a : Addr) (L : List (Addr × List Int)) : Prop := ∃ (es : Array (Int × Value)) (n : Nat) (t : SetTable), (∃ ob, h.get? a = some ob ∧ ob.ExactSet ∧ ob.data = .set es n t) ∧
  ∀ h' : Heap, (∃ ob, h'.get? a = some ob ∧ ob.ExactSet ∧ ob.data = .set es n t) → (∀ q ∈ L, IsT P w h' q.2 q.1) → SetP P w h' a L es n t
def SetPO (P : Program) (w : World) (a : Addr) (L : List (Addr × List Int)) : HO := .ext fun h => SetP0 P w h a L
theorem setPO_new {P : Program} {w : World} {H : Hp} {h : Heap} {a : Addr} {L : List (Addr × List Int)} {es : Array (Int × Value)} {n : Nat} {t : SetTable} (R : SetP P w h a L es n t) : ObjOk P w H h a (SetPO P w a L) := by
  obtain ⟨ob, gb, r⟩ := R.obj
  refine ⟨⟨es, n, t, ⟨ob, gb, r⟩, fun h' o' t' => { R with obj := o', tups := t' }⟩, ⟨ob, gb⟩, fun h1 h2 p k => ?_⟩
  obtain ⟨es', n', t', ⟨o', g', r'⟩, q'⟩ := id p
  exact ⟨es', n', t', ⟨o', k o' g', r'⟩, q'⟩
section
variable {X : Cx}
def rSetP (K : PySem.W.Frag) (P : Program) (w : World) : List V → Hp → VK → Prop := fun xs H Q => ∃ (l : Addr) (ks : List (Addr × List Int)), xs = [V.ref l] ∧ SqL K H l (ks.map fun q => V.ref q.1) ∧ (∀ q ∈ ks, SqT K H q.1 (q.2.map V.int)) ∧ Least ks 9999 ∧
  ∀ a L, H a = none → (∀ q ∈ L, q ∈ ks) → (∀ q ∈ ks, q.2 ∈ L.map (·.2)) → (L.map (·.2)).Nodup → Q (.ref a) (upd H a (SetPO P w a L))
theorem cr_setP (hc : X.calm = true) (hu : X.A.units + 64 < cLine) : CallR X (.type "set") (rSetP X.K X.prog X.w) := by
  intro pins s σ H xs us Q I r h
  obtain ⟨l, ks, rfl, hl, hk, hf, q⟩ := h
  rw [Vals.ref1 r]
  obtain ⟨its, rv, pl, _⟩ := I.list hl
  have new : H s.heap.objs.size = none := I.hok.fresh (Nat.le_refl _)
  refine call_set_big (P := X.prog) (w := X.w) ks (I.ok.hd hc) pl.isList (by simpa using refs_of_vals rv) (fun p hp => I.isT (hk p hp)) hf (by omega) fun h' tok L es n t R g k => ?_
  refine ⟨.ref s.heap.objs.size, _, I.laid (t' := tok) k (Nat.le_refl _) (setPO_new R), rfl, q _ L new (fun p hp => List.mem_of_mem_take (g.sub p hp)) (fun p hp => g.all p (by rw [List.take_length]; exact hp)) R.once⟩
def rSortP (K : PySem.W.Frag) (P : Program) (w : World) : List V → Hp → VK → Prop := fun vs H Q => ∃ (a : Addr) (L : List (Addr × List Int)), vs = [V.ref a] ∧ H a = some (SetPO P w a L) ∧ (∀ q ∈ L, SqT K H q.1 (q.2.map V.int)) ∧ (∀ q ∈ L, q.2 ≠ []) ∧
  ∀ (L' : List (Addr × List Int)) (p : Addr), L'.Perm L → L'.Pairwise (fun q r => q.2 ≤ r.2) → H p = none → Q (.ref p) (upd H p (.lst (L'.map fun q => V.ref q.1)))
theorem cr_sortP (hc : X.calm = true) (hu : X.A.units + 64 < cLine) : CallR X (.builtin "sorted") (rSortP X.K X.prog X.w) := by
  intro pins s σ H vs us Q I r h
  obtain ⟨a, L, rfl, ha, hk, hne, q⟩ := h
  obtain ⟨es, n, t, hob, full⟩ : SetP0 X.prog X.w s.heap a L := (I.hok a _ ha).1
  have R := full s.heap hob fun p hp => I.isT (hk p hp)
  rw [Vals.ref1 r]
  refine sorted_big R (I.ok.hd hc) hu hne fun s' p out c L' k g o hp hg hout pm pw => ?_
  have new : H p = none := I.hok.fresh hp
  have len : (L'.map fun q => V.ref q.1).length ≤ sizeLine := by
    have := R.few
    rw [List.length_map, pm.length_eq, sizeLine_eq]
    omega
  have J : Inv X pins σ (upd H p (.lst (L'.map fun q => V.ref q.1))) { s with heap := s'.heap, gens := s'.gens, drawn := s'.drawn, toks := s'.toks } :=
    I.call (ch := []) (Un.laid k hp new) (I.hok.laid k hp ⟨len, out.toList, c, hout ▸ vals_of_refs L', hg⟩) (by rw [g]; exact I.bare) (fun _ z => nomatch z)
  have e : s' = { s with heap := s'.heap, gens := s'.gens, drawn := s'.drawn, toks := s'.toks } := by
    cases s'
    cases s
    cases o
    rfl
  rw [e]
  exact ⟨.ref p, _, J, rfl, q L' p pm pw new⟩
end
end Mw
namespace Mw
open PySem PySem.Spec PyProof.Rows L2
open Dx (Fact Facts Rule Atom Fill)
section
variable {P : Program} {w : World} {K : PySem.W.Frag} {mg : Str → Option Value} {base : Heap} {CR CS : Addr}
/-! ## facts.py -/
def spKnown : Sp := fun vs H Q _ => ∃ n : Nat, vs = [.int n] ∧ Q (.bl (decide (n < 20))) H
theorem sc_known : FnScope ["value"] ["value"] (C8.fnScope s_is_given_known) := C8.fnScope_by (by decide +kernel)
theorem ok_is_given_known (T : Top K mg CR CS) : C8.Cal P w K mg base 1 "is_given_known" spKnown [] := by
  refine cal_of T.d_is_given_known sc_known (fun _ _ _ _ _ _ us hl => match us, hl with | [_], _ => rfl) (fun vs H Q E h => by obtain ⟨t, rfl, _⟩ := h; rfl) (fun f cdv A outer s H vs Q E hr h => ?_)
  obtain ⟨n, rfl, k⟩ := h
  obtain ⟨tk, m1⟩ := T.c_GIVEN_KNOWN_VALUES
  refine ⟨_, pss_one (ps_ret (pe_cmpR op_lt (pv 0) (pgI m1) (nomark _))), ?_⟩
  refine ⟨_, rfl, _, _, rfl, rfl, ?_⟩
  show Q (V.bl (decide ((n : Int) < 20))) H
  rw [show decide ((n : Int) < 20) = decide (n < 20) from nat_lt n 20]
  exact k
def spValue : Sp := fun vs H Q _ => ∃ n : Nat, vs = [.int n] ∧ Q (.bl (valueM n)) H
theorem nat_le (a b : Nat) : decide ((a : Int) ≤ (b : Int)) = decide (a ≤ b) := by
  by_cases h : a ≤ b
  · rw [decide_eq_true h]
    exact decide_eq_true (by omega)
  · rw [decide_eq_false h]
    exact decide_eq_false (by omega)
theorem sc_value : FnScope ["value"] ["value"] (C8.fnScope s_is_given_value) := C8.fnScope_by (by decide +kernel)
theorem ok_is_given_value (T : Top K mg CR CS) (c1 : C8.Cal P w K mg base 1 "is_given_known" spKnown []) : C8.Cal P w K mg base 2 "is_given_value" spValue [] := by
  refine cal_of T.d_is_given_value sc_value (fun _ _ _ _ _ _ us hl => match us, hl with | [_], _ => rfl) (fun vs H Q E h => by obtain ⟨t, rfl, _⟩ := h; rfl) (fun f cdv A outer s H vs Q E hr h => ?_)
  obtain ⟨n, rfl, k⟩ := h
  obtain ⟨t1, m1⟩ := T.c_FIRST_UNKNOWN
  obtain ⟨t2, m2⟩ := T.c_LAST_GIVEN_UNKNOWN
  refine ⟨_, pss_one (ps_ret (pe_or (C8.pe_c c1 hr (by decide) rfl (pa_cons (pv 0) pa_nil)) (pe_one (pe_chain op_le op_le (pgI m1) (pv 0) (pgI m2))))), ?_⟩
  refine ⟨_, rfl, n, rfl, _, rfl, ?_⟩
  unfold valueM at k
  by_cases h1 : n < 20
  · rw [decide_eq_true h1] at k ⊢
    exact k
  · rw [decide_eq_false h1] at k ⊢
    refine ⟨_, rfl, _, _, rfl, rfl, _, rfl, ?_⟩
    rw [show decide ((100 : Int) ≤ (n : Int)) = decide (100 ≤ n) from nat_le 100 n]
    by_cases h2 : 100 ≤ n
    · rw [decide_eq_true h2] at k ⊢
      refine ⟨_, _, rfl, rfl, ?_⟩
      show Q (V.bl (decide ((n : Int) ≤ 199))) H
      rw [show decide ((n : Int) ≤ 199) = decide (n ≤ 199) from nat_le n 199]
      exact k
    · rw [decide_eq_false h2] at k ⊢
      exact k
def sourceM (f : Fact) : Bool := decide (f.t / 2 = 0) && (decide (f.a < 20) && decide (f.b < 20))
def spSource : Sp := fun vs H Q _ => ∃ (v : V) (f : Fact), vs = [v] ∧ FactAt H v f ∧ Q (.bl (sourceM f)) H
theorem sc_source : FnScope ["fact"] ["fact"] (C8.fnScope s_is_source_fact) := C8.fnScope_by (by decide +kernel)
theorem ok_is_source_fact (T : Top K mg CR CS) (c1 : C8.Cal P w K mg base 1 "is_table_of" spIsTable []) (c2 : C8.Cal P w K mg base 1 "is_given_known" spKnown []) : C8.Cal P w K mg base 2 "is_source_fact" spSource [] := by
  refine cal_of T.d_is_source_fact sc_source (fun _ _ _ _ _ _ us hl => match us, hl with | [_], _ => rfl) (fun vs H Q E h => by obtain ⟨t, p, rfl, _⟩ := h; rfl) (fun f cdv A outer s H vs Q E hr h => ?_)
  obtain ⟨v, a, rfl, ⟨q, rfl, hq⟩, k⟩ := h
  obtain ⟨tk, m1⟩ := T.c_SOURCE
  refine ⟨_, pss_one (ps_ret (pe_and (C8.pe_c c1 hr (by decide) rfl (pa_cons (pe_ix ix_tup (pv 0) pe_int (fun _ _ => rfl)) (pa_cons (pgI m1) pa_nil)))
    (pe_and (C8.pe_c c2 hr (by decide) rfl (pa_cons (pe_ix ix_tup (pv 0) pe_int (fun _ _ => rfl)) pa_nil)) (pe_one (C8.pe_c c2 hr (by decide) rfl (pa_cons (pe_ix ix_tup (pv 0) pe_int (fun _ _ => rfl)) pa_nil)))))), ?_⟩
  refine ⟨_, rfl, q, _, 0, _, rfl, rfl, SqT.of' hq, ix_at (i := 0) rfl, a.t, 0, rfl, _, rfl, ?_⟩
  unfold sourceM at k
  by_cases h1 : a.t / 2 = 0
  · rw [decide_eq_true h1] at k ⊢
    refine ⟨_, rfl, q, _, 1, _, rfl, rfl, SqT.of' hq, ix_at (i := 1) rfl, a.a, rfl, _, rfl, ?_⟩
    by_cases h2 : a.a < 20
    · rw [decide_eq_true h2] at k ⊢
      exact ⟨_, rfl, q, _, 2, _, rfl, rfl, SqT.of' hq, ix_at (i := 2) rfl, a.b, rfl, k⟩
    · rw [decide_eq_false h2] at k ⊢
      exact k
  · rw [decide_eq_false h1] at k ⊢
    exact k
def spEndFact : Sp := fun vs H Q _ => ∃ (v : V) (f : Fact), vs = [v] ∧ FactAt H v f ∧ Q (.bl (endM f)) H
theorem sc_endf : FnScope ["fact"] ["fact"] (C8.fnScope s_is_end_fact) := C8.fnScope_by (by decide +kernel)
theorem ok_is_end_fact (T : Top K mg CR CS) (c1 : C8.Cal P w K mg base 1 "is_table_of" spIsTable []) (c2 : C8.Cal P w K mg base 2 "is_given_value" spValue []) : C8.Cal P w K mg base 3 "is_end_fact" spEndFact [] := by
  refine cal_of T.d_is_end_fact sc_endf (fun _ _ _ _ _ _ us hl => match us, hl with | [_], _ => rfl) (fun vs H Q E h => by obtain ⟨t, p, rfl, _⟩ := h; rfl) (fun f cdv A outer s H vs Q E hr h => ?_)
  obtain ⟨v, a, rfl, ⟨q, rfl, hq⟩, k⟩ := h
  obtain ⟨tk, m1⟩ := T.c_END_rules
  refine ⟨_, pss_one (ps_ret (pe_and (C8.pe_c c1 hr (by decide) rfl (pa_cons (pe_ix ix_tup (pv 0) pe_int (fun _ _ => rfl)) (pa_cons (pgI m1) pa_nil)))
    (pe_and (C8.pe_c c2 hr (by decide) rfl (pa_cons (pe_ix ix_tup (pv 0) pe_int (fun _ _ => rfl)) pa_nil)) (pe_one (C8.pe_c c2 hr (by decide) rfl (pa_cons (pe_ix ix_tup (pv 0) pe_int (fun _ _ => rfl)) pa_nil)))))), ?_⟩
  refine ⟨_, rfl, q, _, 0, _, rfl, rfl, SqT.of' hq, ix_at (i := 0) rfl, a.t, 2, rfl, _, rfl, ?_⟩
  unfold endM at k
  by_cases h1 : a.t / 2 = 2
  · rw [decide_eq_true h1] at k ⊢
    refine ⟨_, rfl, q, _, 1, _, rfl, rfl, SqT.of' hq, ix_at (i := 1) rfl, a.a, rfl, _, rfl, ?_⟩
    cases h2 : valueM a.a with
    | true =>
      rw [h2] at k
      exact ⟨_, rfl, q, _, 2, _, rfl, rfl, SqT.of' hq, ix_at (i := 2) rfl, a.b, rfl, k⟩
    | false =>
      rw [h2] at k
      exact k
  · rw [decide_eq_false h1] at k ⊢
    exact k
theorem paired_facts {H : Hp} : ∀ {xs : List V} {l : List Atom}, Paired (AtomAt H) xs l → Paired (FactAt H) xs (l.map fun a => (⟨a.t, a.x, a.y⟩ : Fact))
  | _, _, .nil => .nil
  | _, _, .cons h t => .cons h (paired_facts t)
def spAreEnds (K : PySem.W.Frag) : Sp := fun vs H Q _ => ∃ (a : Addr) (ns : List Nat), vs = [.ref a] ∧ SqL K H a (nV ns) ∧ ns.length ≤ 24 ∧ ∀ H', Same H H' → Q (.bl (endsM ns)) H'
theorem sc_are_ends : FnScope ["numbers", "facts", "fact"] ["numbers"] (C8.fnScope s_are_end_facts) := C8.fnScope_by (by decide +kernel)
theorem factsM_len (ns : List Nat) : (factsM ns).length = (triplesM ns).length := by rw [factsM, List.length_map]
theorem ok_are_end_facts (T : Top K mg CR CS) (c1 : C8.Cal P w K mg base 1 "triples" (spTriples K) []) (c2 : C8.Cal P w K mg base 3 "is_end_fact" spEndFact []) : C8.Cal P w K mg base 4 "are_end_facts" (spAreEnds K) [] := by
  refine cal_of T.d_are_end_facts sc_are_ends (fun _ _ _ _ _ _ us hl => match us, hl with | [_], _ => rfl) (fun vs H Q E h => by obtain ⟨t, p, rfl, _⟩ := h; rfl) (fun f cdv A outer s H vs Q E hr h => ?_)
  obtain ⟨a, ns, rfl, hS, h24, k⟩ := h
  obtain ⟨t3, m3⟩ := T.c_TRIPLE
  obtain ⟨t2, m2⟩ := T.c_MOST_GIVEN_FACTS
  refine ⟨_, pss_cons (ps_if (pt_cmpR op_ne (pe_op op_mod (pe_len K rfl T.b_len (pv 0)) (pgI m3)) pe_int (nomark _)) (pss_one (ps_ret pe_bl)) pss_nil)
    (pss_cons (ps_set (i := 1) sc_are_ends.nd rfl (Or.inl rfl) (C8.pe_c c1 hr (by decide) rfl (pa_cons (pv 0) pa_nil)))
    (pss_one (ps_ret (pe_and (pe_cmpR op_le (pe_len K rfl T.b_len (pv 1)) (pgI m2) (nomark _)) (pe_one (pe_all K rfl rfl T.b_all
      (pe_lc (own := [("fact", 2)]) (g := gName 2) (tt := tYes) rfl sc_are_ends.nd (pi_tup (pv 1))
        (blkOk_by (own := [("fact", 2)]) (N := ["numbers", "facts", "fact"]) (sc := C8.fnScope s_are_end_facts) (by decide +kernel)) (fun _ _ _ _ _ => pg_name (i := 2) sc_are_ends.nd rfl (Or.inl rfl)) (fun _ _ _ _ _ => pts_nil)
        (fun _ _ _ _ _ => C8.pe_c c2 hr (by decide) rfl (pa_cons (pv 2) pa_nil))))))))), ?_⟩
  unfold endsM at k
  refine ⟨_, rfl, a, _, rfl, .inl hS, _, _, rfl, rfl, (by show (0 : Int) < 3; decide), rfl, _, rfl, ?_⟩
  have e0 : decide (V.int (((nV ns).length : Int) % 3) = V.int 0) = decide (ns.length % 3 = 0) := by
    rw [nV_len]
    exact int_dec (ns.length % 3) 0
  show if (!decide (V.int (((nV ns).length : Int) % 3) = V.int 0)) = true then _ else _
  rw [e0]
  by_cases h3 : ns.length % 3 = 0
  · rw [decide_eq_true h3] at k ⊢
    refine iteF ?_
    refine ⟨_, rfl, a, ns, rfl, hS, h3, h24, fun H1 v s1 ⟨q, xs, ev, hq, px⟩ => ?_⟩
    subst ev
    have el : xs.length = (factsM ns).length := (Paired.len px).trans (factsM_len ns).symm
    have pf : Paired (FactAt H1) xs (factsM ns) := paired_facts px
    refine ⟨_, rfl, q, xs, rfl, .inr (SqT.of' hq), _, _, rfl, rfl, _, rfl, ?_⟩
    rw [show decide ((xs.length : Int) ≤ 6) = decide (xs.length ≤ 6) from nat_le xs.length 6, el]
    by_cases h5 : (factsM ns).length ≤ 6
    · rw [decide_eq_true h5] at k ⊢
      refine ⟨_, rfl, q, rfl, ⟨xs, SqT.of' hq⟩, fun D hD => ?_⟩
      refine lc_tup (xs := xs) (fun i H' => Same H1 H' ∧ H' D = some (.lst (((factsM ns).take i).map fun a => V.bl (endM a)))) ⟨Same.new hD, upd_same⟩ (fun i H' _ h => SqT.of' (h.1 _ _ hq)) ?_ ?_
      · rintro i x H2 hx ⟨s2, hD2⟩
        obtain ⟨ft, ha, hat⟩ := Paired.get pf hx
        refine ⟨rfl, _, rfl, x, ft, rfl, FactAt.mono (SameT.of s2) hat, _, hD2, line_small (by rw [List.length_map, List.length_take]; omega), Same.step s2 hD, ?_⟩
        rw [upd_same, take_more ha, List.map_append]
        rfl
      · rintro H2 ⟨s2, hD2⟩
        rw [List.take_of_length_le (by omega)] at hD2
        refine ⟨D, ((factsM ns).map endM), rfl, SqL.of' (by rw [hD2, List.map_map]; rfl), ?_⟩
        rw [List.all_map] at *
        exact k H2 (s1.trans s2)
    · rw [decide_eq_false h5] at k ⊢
      exact k H1 s1
  · rw [decide_eq_false h3] at k ⊢
    exact k H (Same.refl H)
/-! ### set_of_facts -/
def keyI (f : Fact) : List Int := [(f.t : Int), (f.a : Int), (f.b : Int)]
theorem keyI_inj {f g : Fact} (h : keyI f = keyI g) : f = g := by
  obtain ⟨t, a, b⟩ := f
  obtain ⟨t', a', b'⟩ := g
  simp only [keyI, List.cons.injEq, and_true] at h
  have : t = t' ∧ a = a' ∧ b = b' := by omega
  rw [this.1, this.2.1, this.2.2]
theorem keyI_lt (f g : Fact) : keyI f < keyI g ↔ lessF f g := by
  rw [lessF_iff]
  unfold keyI
  rw [List.cons_lt_cons_iff, List.cons_lt_cons_iff, List.cons_lt_cons_iff]
  have : ¬ ([] : List Int) < [] := List.lt_irrefl _
  constructor
  · intro h
    rcases h with h | ⟨h1, h | ⟨h2, h | ⟨_, h⟩⟩⟩
    · omega
    · omega
    · omega
    · exact absurd h this
  · intro h
    omega
/-- the tuples of a list of facts -/
theorem facts_keys {H : Hp} : ∀ {xs : List V} {l : List Fact}, Paired (FactAt H) xs l → ∃ ks : List (Addr × List Int), xs = ks.map (fun q => V.ref q.1) ∧ ks.map (·.2) = l.map keyI ∧ ∀ q ∈ ks, H q.1 = some (.tup (q.2.map V.int))
  | _, _, .nil => ⟨[], rfl, rfl, fun q h => nomatch h⟩
  | _, _, .cons (b := f) ⟨q, e, hq⟩ t => by
    obtain ⟨ks, e1, e2, h⟩ := facts_keys t
    refine ⟨(q, keyI f) :: ks, by rw [List.map_cons, e, e1], by rw [List.map_cons, List.map_cons, e2], fun r hr => ?_⟩
    rcases List.mem_cons.mp hr with z | z
    · rw [z]
      exact hq
    · exact h r z
/-- and back -/
theorem keys_facts {H : Hp} {l : List Fact} : ∀ (ks : List (Addr × List Int)), (∀ q ∈ ks, H q.1 = some (.tup (q.2.map V.int)) ∧ q.2 ∈ l.map keyI) → ∃ m : List Fact, ks.map (·.2) = m.map keyI ∧ Paired (FactAt H) (ks.map fun q => V.ref q.1) m
  | [], _ => ⟨[], rfl, .nil⟩
  | q :: ks, h => by
    obtain ⟨m, e, p⟩ := keys_facts ks fun r hr => h r (List.mem_cons_of_mem _ hr)
    obtain ⟨h1, h2⟩ := h q List.mem_cons_self
    obtain ⟨f, _, ef⟩ := List.mem_map.mp h2
    refine ⟨f :: m, by rw [List.map_cons, List.map_cons, e, ef], .cons ⟨q.1, rfl, ?_⟩ p⟩
    rw [h1, ← ef]
    rfl
def spSetOf (K : PySem.W.Frag) : Sp := fun vs H Q _ => ∃ (a : Addr) (xs : List V) (l : List Fact), vs = [.ref a] ∧ SqL K H a xs ∧ Paired (FactAt H) xs l ∧ (Dx.tidy l).length ≤ 9999 ∧
  ∀ H' p ys, Same H H' → H p = none → H' p = some (.lst ys) → Paired (FactAt H') ys (Dx.tidy l) → Q (.ref p) H'
theorem bo_set : bootBuiltins "set" = some (.type "set") := by decide +kernel
theorem bo_sorted : bootBuiltins "sorted" = some (.builtin "sorted") := by decide +kernel
theorem hu64 {k : Nat} {A : Around} (hr : Room k A) : A.units + 64 < cLine := by
  have := hr.un
  omega
theorem sc_set_of : FnScope ["facts"] ["facts"] (C8.fnScope s_set_of_facts) := C8.fnScope_by (by decide +kernel)
theorem ok_set_of_facts (T : Top K mg CR CS) : C8.Cal P w K mg base 1 "set_of_facts" (spSetOf K) [] := by
  refine cal_of T.d_set_of_facts sc_set_of (fun _ _ _ _ _ _ us hl => match us, hl with | [_], _ => rfl) (fun vs H Q E h => by obtain ⟨t, p, q, rfl, _⟩ := h; rfl) (fun f cdv A outer s H vs Q E hr h => ?_)
  obtain ⟨a, xs, l, rfl, hS, px, few, k⟩ := h
  refine ⟨_, pss_one (ps_ret (pe_callB (cr_sortP rfl (hu64 hr)) rfl T.b_sorted bo_sorted (pa_cons (pe_callTy (cr_setP rfl (hu64 hr)) rfl T.b_set bo_set (pa_cons (pv 0) pa_nil)) pa_nil))), ?_⟩
  obtain ⟨ks, rfl, ek, hk⟩ := facts_keys px
  have least : Least ks 9999 := fun m nd sub => by
    have ndT : ((Dx.tidy l).map keyI).Nodup := List.pairwise_map.mpr ((sorted_nodup (tidy_sorted l)).imp fun ne e => ne (keyI_inj e))
    have := List.Nodup.length_le_of_subset nd (l₂ := (Dx.tidy l).map keyI) fun x hx => by
      have := sub x hx
      rw [ek] at this
      obtain ⟨f, hf, e⟩ := List.mem_map.mp this
      exact List.mem_map.mpr ⟨f, tidy_mem.mpr hf, e⟩
    rw [List.length_map] at this
    omega
  refine ⟨_, rfl, a, ks, rfl, hS, fun q hq => SqT.of' (hk q hq), least, fun sa L nsa sub cov nd => ?_⟩
  have hL : ∀ q ∈ L, upd H sa (SetPO P w sa L) q.1 = some (.tup (q.2.map V.int)) := fun q hq => by
    have := hk q (sub q hq)
    rw [upd_ne (ne_of_none this nsa)]
    exact this
  refine ⟨sa, L, rfl, upd_same, fun q hq => SqT.of' (hL q hq), fun q hq => ?_, fun L' p pm pw np => ?_⟩
  · have : q.2 ∈ ks.map (·.2) := List.mem_map_of_mem (sub q hq)
    rw [ek] at this
    obtain ⟨f, _, e⟩ := List.mem_map.mp this
    rw [← e]
    exact List.cons_ne_nil _ _
  · have nsp : sa ≠ p := ne_of_none upd_same np
    have np0 : H p = none := by rwa [upd_ne (fun z => nsp z.symm)] at np
    have s1 : Same H (upd (upd H sa (SetPO P w sa L)) p (.lst (L'.map fun q => V.ref q.1))) := (Same.new nsa).trans (Same.new np)
    obtain ⟨m, em, pmf⟩ := keys_facts (H := H) (l := l) L' fun q hq => ⟨hk q (sub q (pm.mem_iff.mp hq)), by rw [← ek]; exact List.mem_map_of_mem (sub q (pm.mem_iff.mp hq))⟩
    have ndm : (L'.map (·.2)).Nodup := (pm.map (·.2)).nodup_iff.mpr nd
    have srt : m.Pairwise lessF := by
      have h1 : (L'.map (·.2)).Pairwise fun x y => x ≤ y := List.pairwise_map.mpr pw
      rw [em] at h1 ndm
      have h2 := List.pairwise_map.mp h1
      have h3 := List.pairwise_map.mp (show (m.map keyI).Pairwise (fun x y => x ≠ y) from ndm)
      refine (h2.and h3).imp fun {f g} ⟨le, ne⟩ => (keyI_lt f g).mp ?_
      refine Classical.byContradiction fun nl => ne (List.le_antisymm le (List.not_lt.mp nl))
    have mem : ∀ x, x ∈ m ↔ x ∈ l := fun x => by
      constructor
      · intro hx
        have : keyI x ∈ L'.map (·.2) := em ▸ List.mem_map_of_mem hx
        obtain ⟨q, hq, e⟩ := List.mem_map.mp this
        have : q.2 ∈ ks.map (·.2) := List.mem_map_of_mem (sub q (pm.mem_iff.mp hq))
        rw [ek, e] at this
        obtain ⟨y, hy, e2⟩ := List.mem_map.mp this
        exact keyI_inj e2 ▸ hy
      · intro hx
        have : keyI x ∈ ks.map (·.2) := ek ▸ List.mem_map_of_mem hx
        obtain ⟨q, hq, e⟩ := List.mem_map.mp this
        have := cov q hq
        rw [e, ← (pm.map (·.2)).mem_iff, em] at this
        obtain ⟨y, hy, e2⟩ := List.mem_map.mp this
        exact keyI_inj e2 ▸ hy
    rw [tidy_unique srt mem] at pmf
    exact k _ p _ s1 np0 upd_same (Paired.imp (fun _ _ z => FactAt.mono (SameT.of s1) z) pmf)
/-! ### numbers_of -/
def factNums (l : List Fact) : List Nat := l.flatMap fun f => [f.t, f.a, f.b]
theorem factNums_len (l : List Fact) : (factNums l).length = 3 * l.length := by
  induction l with
  | nil => rfl
  | cons f l ih =>
    show (f.t :: f.a :: f.b :: factNums l).length = _
    simp only [List.length_cons, ih]
    omega
def spNumbersOf (K : PySem.W.Frag) : Sp := fun vs H Q _ => ∃ (a : Addr) (xs : List V) (l : List Fact), vs = [.ref a] ∧ H a = some (.lst xs) ∧ Paired (FactAt H) xs l ∧ l.length ≤ 9999 ∧
  ∀ H' p, Same H H' → H p = none → H' p = some (.lst (nV (l.length :: factNums l))) → Q (.ref p) H'
theorem sc_numbers_of : FnScope ["facts", "numbers", "fact"] ["facts"] (C8.fnScope s_numbers_of) := C8.fnScope_by (by decide +kernel)
theorem ok_numbers_of (T : Top K mg CR CS) : C8.Cal P w K mg base 1 "numbers_of" (spNumbersOf K) [] := by
  refine cal_of T.d_numbers_of sc_numbers_of (fun _ _ _ _ _ _ us hl => match us, hl with | [_], _ => rfl) (fun vs H Q E h => by obtain ⟨t, p, q, rfl, _⟩ := h; rfl) (fun f cdv A outer s H vs Q E hr h => ?_)
  obtain ⟨a, xs, l, rfl, ha, px, few, k⟩ := h
  refine ⟨_, pss_cons (ps_set (i := 1) sc_numbers_of.nd rfl (Or.inl rfl) (pe_lst (pa_cons (pe_len K rfl T.b_len (pv 0)) pa_nil)))
    (pss_cons (ps_for PassesOwn.never rfl (pi_list (pv 0)) (pg_name (i := 2) sc_numbers_of.nd rfl (Or.inl rfl))
      (pss_one (ps_expr (pe_bm PySem.F.plainAttrs_list PySem.F.slot_list_extend PySem.F.type_list_extend mt_extT (pv 1) (pa_cons (pv 2) pa_nil)))))
    (pss_one (ps_ret (pv 1)))), ?_⟩
  have el := Paired.len px
  refine ⟨_, rfl, a, xs, rfl, .inl (SqL.of' ha), by show 1 ≤ sizeLine; rw [sizeLine_eq]; decide, fun p hp => ?_⟩
  have hap : a ≠ p := ne_of_none ha hp
  refine ⟨_, rfl, a, rfl, ⟨_, SqL.of' (by rw [upd_ne hap]; exact ha)⟩, for_list (xs := xs) (fun i σ H' => ∃ v2 : Option V, σ = [some (.ref a), some (.ref p), v2] ∧ Same H H' ∧ H' p = some (.lst (nV (l.length :: factNums (l.take i))))) ⟨none, rfl, Same.new hp, by rw [upd_same, el]; rfl⟩ (fun i σ H' _ ⟨_, _, h, _⟩ => SqL.of' (h _ _ ha)) ?_ ?_⟩
  · rintro i x σ H1 hx ⟨v2, rfl, s1, hp1⟩
    obtain ⟨ft, hf, hat⟩ := Paired.get px hx
    obtain ⟨q, rfl, hq⟩ := FactAt.mono (SameT.of s1) hat
    have hl := factNums_len (l.take i)
    rw [List.length_take] at hl
    refine ⟨_, rfl, .inl ⟨rfl, _, SqL.of' hp1⟩, _, rfl, p, q, _, _, rfl, rfl, hp1, SqT.of' hq, by rw [nV_len, List.length_cons, hl, sizeLine_eq]; show _ + 3 ≤ _; omega, _, rfl, Same.step s1 hp, ?_⟩
    rw [upd_same, take_more hf]
    have e : factNums (l.take i ++ [ft]) = factNums (l.take i) ++ [ft.t, ft.a, ft.b] := by
      rw [factNums, List.flatMap_append]
      rfl
    rw [e]
    show some (HO.lst (nV _ ++ nV [ft.t, ft.a, ft.b])) = some (HO.lst (nV (_ :: (_ ++ _))))
    unfold nV
    rw [← List.map_append]
    rfl
  · rintro σ H1 ⟨v2, rfl, s1, hp1⟩
    refine ⟨_, rfl, k H1 p s1 hp ?_⟩
    rw [el, List.take_length] at hp1
    exact hp1
end
end Mw
namespace Mw
open PySem PySem.Spec PyProof.Rows L2
open Dx (Fact Facts Rule Atom Fill)
/-! ## matching.py: dicts -/
abbrev nK (v : Nat) : Key := .inl (v : Int)
theorem nK_inj {a b : Nat} (h : nK a = nK b) : a = b := by
  injection h with h
  omega
/-- an assignment as entries -/
def encF (s : Fill) : List (Key × V) := s.map fun p => (nK p.1, V.int (p.2 : Int))
theorem encF_len (s : Fill) : (encF s).length = s.length := by simp [encF]
theorem encF_val (v : Nat) : ∀ s : Fill, valV (encF s) (nK v) = (s.at_ v).map fun a => V.int (a : Int)
  | [] => rfl
  | p :: s => by
    have ih := encF_val v s
    by_cases c : p.1 = v
    · have e : valV (encF (p :: s)) (nK v) = some (.int (p.2 : Int)) := valV_pos (p := (nK p.1, V.int (p.2 : Int))) (by rw [c])
      rw [e]
      unfold Fill.at_
      rw [List.find?_cons_of_pos (by simpa using c)]
      rfl
    · have e : valV (encF (p :: s)) (nK v) = valV (encF s) (nK v) := valV_neg (p := (nK p.1, V.int (p.2 : Int))) fun z => c (nK_inj z)
      rw [e, ih]
      unfold Fill.at_
      rw [List.find?_cons_of_neg (by simpa using c)]
theorem encF_put {s : Fill} {v a : Nat} (h : s.at_ v = none) : putK (encF s) (nK v) (.int (a : Int)) = encF (s ++ [(v, a)]) := by
  rw [putK_new _ (by rw [encF_val, h]; rfl)]
  unfold encF
  rw [List.map_append]
  rfl
def FillAt (H : Hp) (v : V) (s : Fill) : Prop := ∃ a, v = .ref a ∧ H a = some (.dK (encF s))
theorem FillAt.mono {H H' : Hp} {v : V} {s : Fill} (h : FillAt H v s) (k : Same H H') : FillAt H' v s := by
  obtain ⟨a, e, ha⟩ := h
  exact ⟨a, e, k _ _ ha⟩
/-- facts by their tables -/
structure TablesAt (H : Hp) (d : Addr) (l : Facts) : Prop where
  ex : ∃ kvs : List (Key × V), H d = some (.dK kvs) ∧ ∀ t : Nat, (valV kvs (nK t) = none ∧ ofTable l t = []) ∨ ∃ p xs, valV kvs (nK t) = some (.ref p) ∧ H p = some (.lst xs) ∧ Paired (FactAt H) xs (ofTable l t)
theorem TablesAt.mono {H H' : Hp} {d : Addr} {l : Facts} (h : TablesAt H d l) (k : Same H H') : TablesAt H' d l := by
  obtain ⟨kvs, hd, all⟩ := h.ex
  refine ⟨kvs, k _ _ hd, fun t => ?_⟩
  rcases all t with z | ⟨p, xs, e, hp, pf⟩
  · exact .inl z
  · exact .inr ⟨p, xs, e, k _ _ hp, Paired.imp (fun _ _ z => FactAt.mono (SameT.of k) z) pf⟩
/-- .. while they are gathered, above the heap H0 -/
def TabI (H0 H : Hp) (d : Addr) (l : Facts) : Prop := ∃ kvs : List (Key × V), H d = some (.dK kvs) ∧ kvs.length ≤ l.length ∧
  (∀ t : Nat, (valV kvs (nK t) = none ∧ ofTable l t = []) ∨ ∃ p xs, valV kvs (nK t) = some (.ref p) ∧ H0 p = none ∧ H p = some (.lst xs) ∧ Paired (FactAt H0) xs (ofTable l t)) ∧
  ∀ (t t' : Nat) p, valV kvs (nK t) = some (.ref p) → valV kvs (nK t') = some (.ref p) → t = t'
theorem ofTable_snoc (l : Facts) (f : Fact) (t : Nat) : ofTable (l ++ [f]) t = ofTable l t ++ (if f.t = t then [f] else []) := by
  unfold ofTable
  rw [List.filter_append]
  congr 1
  by_cases c : f.t = t
  · rw [if_pos c, List.filter_cons_of_pos (by simpa using c)]
    rfl
  · rw [if_neg c, List.filter_cons_of_neg (by simpa using c)]
    rfl
theorem ofTable_len (l : Facts) (t : Nat) : (ofTable l t).length ≤ l.length := List.length_filter_le ..
section
variable {P : Program} {w : World} {K : PySem.W.Frag} {mg : Str → Option Value} {base : Heap} {CR CS : Addr}
def spByTable (K : PySem.W.Frag) : Sp := fun vs H Q _ => ∃ (a : Addr) (xs : List V) (l : List Fact), vs = [.ref a] ∧ H a = some (.lst xs) ∧ Paired (FactAt H) xs l ∧ l.length ≤ 20000 ∧
  ∀ H' d, Same H H' → TablesAt H' d l → Q (.ref d) H'
theorem sc_by_table : FnScope ["facts", "found", "fact"] ["facts"] (C8.fnScope s_facts_by_table) := C8.fnScope_by (by decide +kernel)
theorem ok_facts_by_table (T : Top K mg CR CS) : C8.Cal P w K mg base 1 "facts_by_table" (spByTable K) [] := by
  refine cal_of T.d_facts_by_table sc_by_table (fun _ _ _ _ _ _ us hl => match us, hl with | [_], _ => rfl) (fun vs H Q E h => by obtain ⟨t, p, q, rfl, _⟩ := h; rfl) (fun f cdv A outer s H vs Q E hr h => ?_)
  obtain ⟨a, xs, l, rfl, ha, px, few, k⟩ := h
  refine ⟨_, pss_cons (ps_set (i := 1) sc_by_table.nd rfl (Or.inl rfl) pe_dnewK)
    (pss_cons (ps_for PassesOwn.never rfl (pi_list (pv 0)) (pg_name (i := 2) sc_by_table.nd rfl (Or.inl rfl))
      (pss_one (ps_expr (pe_bm PySem.F.plainAttrs_list PySem.F.slot_list_append PySem.F.type_list_append mt_append
        (pe_dsetd (pv 1) (pe_ix ix_tup (pv 2) pe_int (fun _ _ => rfl)) (pe_lst pa_nil) ⟨rfl, rfl, rfl, rfl⟩) (pa_cons (pv 2) pa_nil)))))
    (pss_one (ps_ret (pv 1)))), ?_⟩
  have el := Paired.len px
  intro d hd
  have had : a ≠ d := ne_of_none ha hd
  refine ⟨_, rfl, a, rfl, ⟨_, SqL.of' (by rw [upd_ne had]; exact ha)⟩, for_list (xs := xs) (fun i σ H' => ∃ v2 : Option V, σ = [some (.ref a), some (.ref d), v2] ∧ Same H H' ∧ TabI H H' d (l.take i))
    ⟨none, rfl, Same.new hd, [], upd_same, Nat.zero_le _, fun t => .inl ⟨rfl, by rw [List.take_zero]; rfl⟩, fun t t' p h => by cases h⟩ (fun i σ H' _ ⟨_, _, h, _⟩ => SqL.of' (h _ _ ha)) ?_ ?_⟩
  · rintro i x σ H1 hx ⟨v2, rfl, s1, kvs, hd1, kl, all, inj⟩
    obtain ⟨ft, hf, hat⟩ := Paired.get px hx
    have hat0 := hat
    obtain ⟨q, rfl, hq⟩ := hat
    have hq1 := s1 _ _ hq
    have lt : (l.take i).length ≤ l.length := by rw [List.length_take]; omega
    refine ⟨_, rfl, d, rfl, .inl ⟨kvs, .inl hd1⟩, _, rfl, q, _, 0, _, rfl, rfl, SqT.of' hq1, ix_at (i := 0) rfl, Nat.zero_le _, fun g hg => ?_⟩
    have hdg : d ≠ g := ne_of_none hd1 hg
    have hg0 : H g = none := Classical.byContradiction fun z => by
      obtain ⟨o, ho⟩ := Option.ne_none_iff_exists'.mp z
      rw [s1 _ _ ho] at hg
      cases hg
    have nx : l.take (i + 1) = l.take i ++ [ft] := take_more hf
    refine ⟨kvs, nK ft.t, by rw [upd_ne hdg]; exact hd1, rfl, line_small (by omega), fun v hv => ?_, fun hv => ?_⟩
    · rcases all ft.t with ⟨z, _⟩ | ⟨p, ys, ev, hp0, hp1, pf⟩
      · rw [hv] at z
        cases z
      · rw [hv] at ev
        cases ev
        have hpg : p ≠ g := ne_of_none hp1 hg
        have hpd : p ≠ d := ne_of hp1 hd1 (by intro z; cases z)
        have hp2 : upd H1 g (.lst []) p = some (.lst ys) := by rw [upd_ne hpg]; exact hp1
        refine ⟨.inl ⟨rfl, _, SqL.of' hp2⟩, _, rfl, p, ys, .ref q, rfl, rfl, hp2, line_small (by rw [Paired.len pf]; have := ofTable_len (l.take i) ft.t; omega), _, rfl, Same.step (Same.step s1 hg0) hp0, kvs, ?_, ?_, fun t => ?_, inj⟩
        · rw [upd_ne (fun z => hpd z.symm), upd_ne hdg]
          exact hd1
        · rw [nx, List.length_append]
          exact Nat.le_succ_of_le kl
        · rw [nx, ofTable_snoc]
          by_cases c : ft.t = t
          · rw [if_pos c, ← c]
            refine .inr ⟨p, ys ++ [.ref q], hv, hp0, upd_same, Paired.snoc pf hat0⟩
          · rw [if_neg c, List.append_nil]
            rcases all t with z | ⟨p', ys', ev', a0, a1, a2⟩
            · exact .inl z
            · have npp : p' ≠ p := fun z => c (inj _ _ p hv (z ▸ ev'))
              exact .inr ⟨p', ys', ev', a0, by rw [upd_ne npp, upd_ne (ne_of_none a1 hg)]; exact a1, a2⟩
    · have hdl : upd (upd H1 g (.lst [])) d (.dK (putK kvs (nK ft.t) (.ref g))) g = some (.lst []) := by
        rw [upd_ne (fun z => hdg z.symm)]
        exact upd_same
      have emp : ofTable (l.take i) ft.t = [] := by
        rcases all ft.t with ⟨_, z⟩ | ⟨p, ys, ev, _⟩
        · exact z
        · rw [hv] at ev
          cases ev
      refine ⟨.inl ⟨rfl, _, SqL.of' hdl⟩, _, rfl, g, [], .ref q, rfl, rfl, hdl, by rw [sizeLine_eq]; decide, _, rfl, Same.step (Same.step (Same.step s1 hg0) hd) hg0, putK kvs (nK ft.t) (.ref g), ?_, ?_, fun t => ?_, fun t t' p h1 h2 => ?_⟩
      · rw [upd_ne hdg]
        exact upd_same
      · rw [nx, putK_new _ hv, List.length_append, List.length_append]
        exact Nat.add_le_add_right kl 1
      · rw [nx, ofTable_snoc, valV_put]
        by_cases c : ft.t = t
        · rw [if_pos c, ← c, if_pos rfl, emp]
          exact .inr ⟨g, [.ref q], rfl, hg0, upd_same, .cons hat0 .nil⟩
        · rw [if_neg c, if_neg (fun z => c (nK_inj z).symm), List.append_nil]
          rcases all t with z | ⟨p', ys', ev', a0, a1, a2⟩
          · exact .inl z
          · refine .inr ⟨p', ys', ev', a0, ?_, a2⟩
            rw [upd_ne (ne_of_none a1 hg), upd_ne (ne_of a1 hd1 (by intro z; cases z)), upd_ne (ne_of_none a1 hg)]
            exact a1
      · rw [valV_put] at h1 h2
        have notg : ∀ t'' : Nat, valV kvs (nK t'') = some (.ref g) → False := fun t'' z => by
          rcases all t'' with ⟨y, _⟩ | ⟨p', ys', ev', _, a1, _⟩
          · rw [y] at z
            cases z
          · rw [ev'] at z
            cases z
            rw [hg] at a1
            cases a1
        by_cases c1 : nK t = nK ft.t
        · by_cases c2 : nK t' = nK ft.t
          · exact nK_inj (c1.trans c2.symm)
          · rw [if_pos c1] at h1
            rw [if_neg c2] at h2
            cases h1
            exact (notg _ h2).elim
        · rw [if_neg c1] at h1
          by_cases c2 : nK t' = nK ft.t
          · rw [if_pos c2] at h2
            cases h2
            exact (notg _ h1).elim
          · rw [if_neg c2] at h2
            exact inj _ _ _ h1 h2
  · rintro σ H1 ⟨v2, rfl, s1, kvs, hd1, kl, all, inj⟩
    refine ⟨_, rfl, k H1 d s1 ⟨kvs, hd1, fun t => ?_⟩⟩
    rw [el, List.take_length] at all
    rcases all t with z | ⟨p, ys, ev, _, hp, pf⟩
    · exact .inl z
    · exact .inr ⟨p, ys, ev, hp, Paired.imp (fun _ _ z => FactAt.mono (SameT.of s1) z) pf⟩
/-! ### with_values_of -/
def spWith : Sp := fun vs H Q _ => ∃ (fv av sv : V) (f : Fact) (a : Atom) (s : Fill), vs = [fv, av, sv] ∧ FactAt H fv f ∧ AtomAt H av a ∧ FillAt H sv s ∧ s.length ≤ 1000 ∧
  (∀ H', Same H H' → fitV s a f = none → Q .non H') ∧ ∀ H' v u, Same H H' → fitV s a f = some u → FillAt H' v u → Q v H'
theorem sc_with : FnScope ["fact", "atom", "assignment", "extended", "place"] ["fact", "atom", "assignment"] (C8.fnScope s_with_values_of) := C8.fnScope_by (by decide +kernel)
theorem bo_dict : bootBuiltins "dict" = some (.type "dict") := by decide +kernel
/-- one turn: what setdefault finds -/
theorem bind_cases (s : Fill) (v a : Nat) : (∃ b : Nat, valV (encF s) (nK v) = some (.int (b : Int)) ∧ ((b ≠ a ∧ Dx.bind s v a = none) ∨ (b = a ∧ Dx.bind s v a = some s))) ∨
    (valV (encF s) (nK v) = none ∧ Dx.bind s v a = some (s ++ [(v, a)]) ∧ putK (encF s) (nK v) (.int (a : Int)) = encF (s ++ [(v, a)])) := by
  rw [encF_val]
  unfold Dx.bind
  cases h : s.at_ v with
  | some b =>
    refine .inl ⟨b, rfl, ?_⟩
    by_cases c : b = a
    · exact .inr ⟨c, if_pos c⟩
    · exact .inl ⟨c, if_neg c⟩
  | none => exact .inr ⟨rfl, rfl, encF_put h⟩
theorem bind_len {s u : Fill} {v a : Nat} (h : Dx.bind s v a = some u) : u.length ≤ s.length + 1 := by
  unfold Dx.bind at h
  cases e : s.at_ v with
  | some b =>
    rw [e] at h
    have h : (if b = a then some s else none) = some u := h
    by_cases c : b = a
    · rw [if_pos c] at h
      cases h
      exact Nat.le_succ _
    · rw [if_neg c] at h
      cases h
  | none =>
    rw [e] at h
    cases (show some (s ++ [(v, a)]) = some u from h)
    rw [List.length_append]
    exact Nat.le_refl _
theorem ok_with_values_of (T : Top K mg CR CS) : C8.Cal P w K mg base 1 "with_values_of" spWith [] := by
  refine cal_of T.d_with_values_of sc_with (fun _ _ _ _ _ _ us hl => match us, hl with | [_, _, _], _ => rfl) (fun vs H Q E h => by obtain ⟨t, p, q, r, a, b, rfl, _⟩ := h; rfl) (fun f cdv A outer s H vs Q E hr h => ?_)
  obtain ⟨fv, av, sv, ft, at_, sl, rfl, ⟨qf, rfl, hqf⟩, ⟨qa, rfl, hqa⟩, ⟨qs, rfl, hqs⟩, few, k1, k2⟩ := h
  refine ⟨_, pss_cons (ps_set (i := 3) sc_with.nd rfl (Or.inl rfl) (pe_callTy (call_dictD) rfl T.b_dict bo_dict (pa_cons (pv 2) pa_nil)))
    (pss_cons (ps_for PassesOwn.never rfl (pi_tup (pe_tup (pa_cons pe_int (pa_cons pe_int pa_nil)))) (pg_name (i := 4) sc_with.nd rfl (Or.inl rfl))
      (pss_one (ps_if (pt_cmpR op_ne (pe_dsetd (pv 3) (pe_ix ix_tup (pv 1) (pv 4) (fun _ _ => rfl)) (pe_ix ix_tup (pv 0) (pv 4) (fun _ _ => rfl)) ⟨rfl, rfl, rfl, rfl⟩) (pe_ix ix_tup (pv 0) (pv 4) (fun _ _ => rfl)) (nomark _)) (pss_one (ps_ret pe_non)) pss_nil)))
    (pss_one (ps_ret (pv 3)))), ?_⟩
  refine ⟨_, rfl, qs, encF sl, rfl, .inl hqs, fun e he => ?_⟩
  have s1 : Same H (upd H e (.dK (encF sl))) := Same.new he
  refine ⟨(by show 2 ≤ sizeLine; decide), fun pl hpl => ?_⟩
  have s2 := s1.trans (Same.new (o := .tup [V.int 1, V.int 2]) hpl)
  have epl : e ≠ pl := ne_of_none upd_same hpl
  refine ⟨pl, rfl, ⟨_, SqT.of' upd_same⟩, for_tup (xs := [V.int 1, V.int 2]) (fun j σ H' => ∃ (v4 : Option V) (u : Fill), σ = [some (.ref qf), some (.ref qa), some (.ref qs), some (.ref e), v4] ∧ Same H H' ∧ H' pl = some (.tup [V.int 1, V.int 2]) ∧ H' e = some (.dK (encF u)) ∧ u.length ≤ sl.length + j ∧
    (j = 0 → u = sl) ∧ (j = 1 → Dx.bind sl at_.x ft.a = some u) ∧ (j = 2 → fitV sl at_ ft = some u))
    ⟨none, sl, rfl, s2, upd_same, by rw [upd_ne epl]; exact upd_same, Nat.le_refl _, (fun _ => rfl), (fun z => by cases z), (fun z => by cases z)⟩ (fun j σ H' _ ⟨_, _, _, _, h, _⟩ => SqT.of' h) ?_ ?_⟩
  · rintro j y σ H2 hj ⟨v4, u, rfl, s3, hpl2, he2, ul, c0, c1, c2⟩
    have hf2 := s3 _ _ hqf
    have ha2 := s3 _ _ hqa
    have fin : ∀ H', (H' = H2 ∨ ∃ o, H' = upd H2 e o) → Same H H' ∧ H' pl = some (.tup [V.int 1, V.int 2]) := fun H' h => by
      rcases h with h | ⟨o, h⟩
      · rw [h]
        exact ⟨s3, hpl2⟩
      · rw [h]
        exact ⟨Same.step s3 he, by rw [upd_ne (fun z => epl z.symm)]; exact hpl2⟩
    match j, hj with
    | 0, hj =>
      cases hj
      have c0 : sl = u := (c0 rfl).symm
      subst c0
      refine ⟨_, rfl, e, rfl, .inl ⟨_, .inl he2⟩, _, rfl, _, rfl, qa, _, ((1 : Nat) : Int), _, rfl, rfl, SqT.of' ha2, ix_at (i := 1) rfl, _, rfl, _, rfl, qf, _, ((1 : Nat) : Int), _, rfl, rfl, SqT.of' hf2, ix_at (i := 1) rfl, encF sl, nK at_.x, he2, rfl, line_small (by rw [encF_len]; omega), ?_⟩
      rcases bind_cases sl at_.x ft.a with ⟨b, hv, ⟨ne, hb⟩ | ⟨eq, hb⟩⟩ | ⟨hv, hb, hput⟩
      · refine ⟨fun x hx => ?_, (fun hn => by rw [hv] at hn; cases hn)⟩
        rw [hv] at hx
        cases hx
        refine ⟨_, rfl, _, rfl, qf, _, ((1 : Nat) : Int), _, rfl, rfl, SqT.of' hf2, ix_at (i := 1) rfl, rfl, _, rfl, ?_⟩
        rw [show decide (V.int (b : Int) = V.int (ft.a : Int)) = decide (b = ft.a) from int_dec b ft.a, decide_eq_false ne]
        refine k1 H2 s3 ?_
        unfold fitV
        rw [hb]
      · refine ⟨fun x hx => ?_, (fun hn => by rw [hv] at hn; cases hn)⟩
        rw [hv] at hx
        cases hx
        refine ⟨_, rfl, _, rfl, qf, _, ((1 : Nat) : Int), _, rfl, rfl, SqT.of' hf2, ix_at (i := 1) rfl, rfl, _, rfl, ?_⟩
        rw [show decide (V.int (b : Int) = V.int (ft.a : Int)) = decide (b = ft.a) from int_dec b ft.a, decide_eq_true eq]
        refine ⟨_, sl, rfl, s3, hpl2, he2, by omega, (fun z => by cases z), (fun _ => hb), (fun z => by cases z)⟩
      · refine ⟨(fun x hx => by rw [hv] at hx; cases hx), fun _ => ?_⟩
        rw [hput]
        have hk := fin _ (.inr ⟨HO.dK (encF (sl ++ [(at_.x, ft.a)])), rfl⟩)
        have := bind_len hb
        refine ⟨_, rfl, _, rfl, qf, _, ((1 : Nat) : Int), _, rfl, rfl, SqT.of' (hk.1 _ _ hqf), ix_at (i := 1) rfl, rfl, _, rfl, ?_⟩
        rw [decide_eq_true rfl]
        refine ⟨_, _, rfl, hk.1, hk.2, upd_same, by omega, (fun z => by cases z), (fun _ => hb), (fun z => by cases z)⟩
    | 1, hj =>
      cases hj
      have c1 := c1 rfl
      refine ⟨_, rfl, e, rfl, .inl ⟨_, .inl he2⟩, _, rfl, _, rfl, qa, _, ((2 : Nat) : Int), _, rfl, rfl, SqT.of' ha2, ix_at (i := 2) rfl, _, rfl, _, rfl, qf, _, ((2 : Nat) : Int), _, rfl, rfl, SqT.of' hf2, ix_at (i := 2) rfl, encF u, nK at_.y, he2, rfl, line_small (by rw [encF_len]; omega), ?_⟩
      rcases bind_cases u at_.y ft.b with ⟨b, hv, ⟨ne, hb⟩ | ⟨eq, hb⟩⟩ | ⟨hv, hb, hput⟩
      · refine ⟨fun x hx => ?_, (fun hn => by rw [hv] at hn; cases hn)⟩
        rw [hv] at hx
        cases hx
        refine ⟨_, rfl, _, rfl, qf, _, ((2 : Nat) : Int), _, rfl, rfl, SqT.of' hf2, ix_at (i := 2) rfl, rfl, _, rfl, ?_⟩
        rw [show decide (V.int (b : Int) = V.int (ft.b : Int)) = decide (b = ft.b) from int_dec b ft.b, decide_eq_false ne]
        refine k1 H2 s3 ?_
        unfold fitV
        rw [c1]; exact hb
      · refine ⟨fun x hx => ?_, (fun hn => by rw [hv] at hn; cases hn)⟩
        rw [hv] at hx
        cases hx
        refine ⟨_, rfl, _, rfl, qf, _, ((2 : Nat) : Int), _, rfl, rfl, SqT.of' hf2, ix_at (i := 2) rfl, rfl, _, rfl, ?_⟩
        rw [show decide (V.int (b : Int) = V.int (ft.b : Int)) = decide (b = ft.b) from int_dec b ft.b, decide_eq_true eq]
        refine ⟨_, u, rfl, s3, hpl2, he2, by omega, (fun z => by cases z), (fun z => by cases z), (fun _ => by unfold fitV; rw [c1]; exact hb)⟩
      · refine ⟨(fun x hx => by rw [hv] at hx; cases hx), fun _ => ?_⟩
        rw [hput]
        have hk := fin _ (.inr ⟨HO.dK (encF (u ++ [(at_.y, ft.b)])), rfl⟩)
        have := bind_len hb
        refine ⟨_, rfl, _, rfl, qf, _, ((2 : Nat) : Int), _, rfl, rfl, SqT.of' (hk.1 _ _ hqf), ix_at (i := 2) rfl, rfl, _, rfl, ?_⟩
        rw [decide_eq_true rfl]
        refine ⟨_, _, rfl, hk.1, hk.2, upd_same, by omega, (fun z => by cases z), (fun z => by cases z), (fun _ => by unfold fitV; rw [c1]; exact hb)⟩
    | j + 2, hj => simp at hj
  · rintro σ H2 ⟨v4, u, rfl, s3, hpl2, he2, ul, c0, c1, c2⟩
    exact ⟨_, rfl, k2 H2 _ u s3 (c2 rfl) ⟨e, rfl, he2⟩⟩
end
end Mw
namespace Mw
open PySem PySem.Spec PyProof.Rows L2
open Dx (Fact Facts Rule Atom Fill)
/-! ## matches -/
theorem fit_len {s u : Fill} {a : Atom} {f : Fact} (h : Dx.fit s a f = some u) : u.length ≤ s.length + 2 := by
  unfold Dx.fit at h
  split at h
  · cases h
  · cases hb : Dx.bind s a.x f.a with
    | none => rw [hb] at h; cases h
    | some t =>
      rw [hb] at h
      have h1 := bind_len hb
      have h2 := bind_len (show Dx.bind t a.y f.b = some u from h)
      omega
theorem fold_fill_len (l : Facts) : ∀ (as : List Atom) (found : List Fill) (B : Nat), (∀ u ∈ found, u.length ≤ B) → ∀ u ∈ as.foldl (fun fs a => fs.flatMap (fitsM l a)) found, u.length ≤ B + 2 * as.length
  | [], found, B, h, u, hu => h u hu
  | a :: as, found, B, h, u, hu => by
    have := fold_fill_len l as (found.flatMap (fitsM l a)) (B + 2) (fun t ht => by
      obtain ⟨s, hs, hf⟩ := List.mem_flatMap.mp ht
      obtain ⟨f, _, e⟩ := List.mem_filterMap.mp hf
      have h1 := h s hs
      have h2 := fit_len e
      omega) u hu
    rw [List.length_cons]
    omega
section
variable {P : Program} {w : World} {K : PySem.W.Frag} {mg : Str → Option Value} {base : Heap} {CR CS : Addr}
def spMatches : Sp := fun vs H Q _ => ∃ (av sv : V) (d : Addr) (as : List Atom) (s : Fill) (l : Facts), vs = [av, sv, .ref d] ∧ AtomsAt H av as ∧ FillAt H sv s ∧ TablesAt H d l ∧ Small l.length as.length ∧ s.length ≤ 100 ∧
  ∀ H' p ys, Same H H' → H p = none → H' p = some (.lst ys) → Paired (FillAt H') ys (Dx.matches_ l as s) → Q (.ref p) H'
theorem sc_matches : FnScope ["atoms", "assignment", "tables", "found", "atom", "facts", "longer", "shorter", "fact", "extended"] ["atoms", "assignment", "tables"] (C8.fnScope s_matches) := C8.fnScope_by (by decide +kernel)
theorem hu1 {k : Nat} {A : Around} (hr : Room k A) : A.units + 1 < cLine := by
  have := hr.un
  omega
theorem ok_matches (T : Top K mg CR CS) (c1 : C8.Cal P w K mg base 1 "with_values_of" spWith []) : C8.Cal P w K mg base 2 "matches" spMatches [] := by
  refine cal_of T.d_matches sc_matches (fun _ _ _ _ _ _ us hl => match us, hl with | [_, _, _], _ => rfl) (fun vs H Q E h => by obtain ⟨t, p, q, r, a, b, rfl, _⟩ := h; rfl) (fun f cdv A outer st H vs Q E hr h => ?_)
  obtain ⟨av, sv, d, as, s, l, rfl, ⟨qa, xa, rfl, hqa, pa⟩, hs, ht, small, few, k⟩ := h
  refine ⟨_, pss_cons (ps_set (i := 3) sc_matches.nd rfl (Or.inl rfl) (pe_lst (pa_cons (pv 1) pa_nil)))
    (pss_cons (ps_for PassesOwn.never rfl (pi_tup (pv 0)) (pg_name (i := 4) sc_matches.nd rfl (Or.inl rfl))
      (pss_cons (ps_set (i := 5) sc_matches.nd rfl (Or.inl rfl) (pe_dget2 (hu1 hr) (pv 2) (pe_ix ix_tup (pv 4) pe_int (fun _ _ => rfl)) (pe_lst pa_nil) ⟨rfl, rfl, rfl, rfl⟩))
      (pss_cons (ps_set (i := 6) sc_matches.nd rfl (Or.inl rfl) (pe_lst pa_nil))
      (pss_cons (ps_for PassesOwn.never rfl (pi_list (pv 3)) (pg_name (i := 7) sc_matches.nd rfl (Or.inl rfl))
        (pss_one (ps_for PassesOwn.never rfl (pi_list (pv 5)) (pg_name (i := 8) sc_matches.nd rfl (Or.inl rfl))
          (pss_cons (ps_set (i := 9) sc_matches.nd rfl (Or.inl rfl) (C8.pe_c c1 hr (by decide) rfl (pa_cons (pv 8) (pa_cons (pv 4) (pa_cons (pv 7) pa_nil)))))
          (pss_one (ps_if (pt_cmpR op_notN (pv 9) pe_non (nomark _)) (pss_one (ps_expr (pe_bm PySem.F.plainAttrs_list PySem.F.slot_list_append PySem.F.type_list_append mt_append (pv 6) (pa_cons (pv 9) pa_nil)))) pss_nil))))))
      (pss_one (ps_set (i := 3) sc_matches.nd rfl (Or.inl rfl) (pv 6)))))))
    (pss_one (ps_ret (pv 3)))), ?_⟩
  have F110 : l.length ≤ 110 := by rcases small with z | z <;> omega
  have n4 : as.length ≤ 4 := by rcases small with z | z <;> omega
  have ea := Paired.len pa
  refine ⟨_, rfl, (by show 1 ≤ sizeLine; decide), fun p0 hp0 => ?_⟩
  have s0 : Same H (upd H p0 (.lst [sv])) := Same.new hp0
  refine ⟨_, rfl, qa, rfl, ⟨_, SqT.of' (s0 _ _ hqa)⟩, for_tup (xs := xa) (fun i σ H' => ∃ (p : Addr) (ys : List V) (v4 v5 v6 v7 v8 v9 : Option V), σ = [some (.ref qa), some sv, some (.ref d), some (.ref p), v4, v5, v6, v7, v8, v9] ∧ Same H H' ∧ H p = none ∧
    H' p = some (.lst ys) ∧ Paired (FillAt H') ys ((as.take i).foldl (fun fs a => fs.flatMap (fitsM l a)) [s])) ⟨p0, [sv], none, none, none, none, none, none, rfl, s0, hp0, upd_same, .cons (hs.mono s0) .nil⟩ (fun i σ H' _ ⟨_, _, _, _, _, _, _, _, _, h, _⟩ => SqT.of' (h _ _ hqa)) ?_ ?_⟩
  · rintro i x σ H1 hx ⟨p, ys, v4, v5, v6, v7, v8, v9, rfl, s1, np, hp, py⟩
    obtain ⟨at_, hat, hA⟩ := Paired.get pa hx
    obtain ⟨qx, rfl, hqx⟩ := AtomAt.mono (SameT.of s1) hA
    obtain ⟨kvs, hd1, all⟩ := (ht.mono s1).ex
    have ilt : i < as.length := (List.getElem?_eq_some_iff.mp hat).1
    generalize hfs : (as.take i).foldl (fun fs a => fs.flatMap (fitsM l a)) [s] = fs at py
    have fsl : fs.length ≤ 14641 := by
      have := fold_len l (as.take i) [s]
      rw [hfs, List.length_singleton, Nat.one_mul, List.length_take] at this
      exact Nat.le_trans this (small.pow (by omega))
    have fsf : ∀ u ∈ fs, u.length ≤ 108 := fun u hu => by
      have := fold_fill_len l (as.take i) [s] s.length (fun t ht => by rw [List.mem_singleton.mp ht]; exact Nat.le_refl _) u (hfs ▸ hu)
      rw [List.length_take] at this
      omega
    have nfs : (as.take (i + 1)).foldl (fun fs a => fs.flatMap (fitsM l a)) [s] = fs.flatMap (fitsM l at_) := by
      rw [take_more hat, List.foldl_append, hfs]
      rfl
    refine ⟨_, rfl, d, rfl, .inl ⟨_, .inl hd1⟩, _, rfl, qx, _, 0, _, rfl, rfl, SqT.of' hqx, ix_at (i := 0) rfl, Nat.zero_le _, fun g hg => ?_⟩
    have s2 : Same H1 (upd H1 g (.lst [])) := Same.new hg
    refine ⟨_, DGet.k (k := nK at_.t) (s2 _ _ hd1), ?_⟩
    obtain ⟨fl, xf, efl, hfl, pf⟩ : ∃ fl xf, (valV kvs (nK at_.t)).getD (.ref g) = .ref fl ∧ upd H1 g (.lst []) fl = some (.lst xf) ∧ Paired (FactAt (upd H1 g (.lst []))) xf (ofTable l at_.t) := by
      rcases all at_.t with ⟨z, e⟩ | ⟨q, zs, z, hq, pq⟩
      · rw [z, e]
        exact ⟨g, [], rfl, upd_same, .nil⟩
      · rw [z]
        exact ⟨q, zs, rfl, s2 _ _ hq, Paired.imp (fun _ _ z => FactAt.mono (SameT.of s2) z) pq⟩
    rw [efl]
    -- longer = []
    have py2 : Paired (FillAt (upd H1 g (.lst []))) ys fs := Paired.imp (fun _ _ z => FillAt.mono z s2) py
    have hp2 := s2 _ _ hp
    have hqx2 := s2 _ _ hqx
    have s12 := s1.trans s2
    generalize upd H1 g (.lst []) = H2 at pf py2 hp2 hqx2 s12 hfl
    refine ⟨Nat.zero_le _, fun q hq => ?_⟩
    have s3 : Same H2 (upd H2 q (.lst [])) := Same.new hq
    have eys := Paired.len py2
    refine ⟨_, rfl, p, rfl, ⟨_, SqL.of' (s3 _ _ hp2)⟩, for_list (xs := ys) (fun j σ H' => ∃ (v7 v8 v9 : Option V) (zs : List V), σ = [some (.ref qa), some sv, some (.ref d), some (.ref p), some (.ref qx), some (.ref fl), some (.ref q), v7, v8, v9] ∧ Same H2 H' ∧
      H' q = some (.lst zs) ∧ Paired (FillAt H') zs ((fs.take j).flatMap (fitsM l at_))) ⟨v7, v8, v9, [], rfl, s3, upd_same, by rw [List.take_zero]; exact .nil⟩ (fun j σ H' _ ⟨_, _, _, _, _, h, _⟩ => SqL.of' (h _ _ hp2)) ?_ ?_⟩
    · rintro j y σ H3 hj ⟨v7, v8, v9, zs, rfl, s4, hq3, pz⟩
      obtain ⟨u, hu, hU⟩ := Paired.get py2 hj
      have base_ := Paired.len pz
      have bl : ((fs.take j).flatMap (fitsM l at_)).length ≤ 1610510 := by
        have h1 := flat_le (fitsM l at_) 110 (fs.take j) fun t _ => Nat.le_trans (fits_len l at_ t) F110
        have h2 : (fs.take j).length ≤ 14641 := by rw [List.length_take]; omega
        have := Nat.mul_le_mul_right 110 h2
        omega
      refine ⟨_, rfl, fl, rfl, ⟨_, SqL.of' (s4 _ _ hfl)⟩, for_list (xs := xf) (fun n σ H' => ∃ (v8 v9 : Option V) (zs : List V), σ = [some (.ref qa), some sv, some (.ref d), some (.ref p), some (.ref qx), some (.ref fl), some (.ref q), some y, v8, v9] ∧ Same H2 H' ∧
        H' q = some (.lst zs) ∧ Paired (FillAt H') zs ((fs.take j).flatMap (fitsM l at_) ++ ((ofTable l at_.t).take n).filterMap (fitV u at_))) ⟨v8, v9, zs, rfl, s4, hq3, by rw [List.take_zero]; show Paired _ _ (_ ++ []); rw [List.append_nil]; exact pz⟩ (fun n σ H' _ ⟨_, _, _, _, h, _⟩ => SqL.of' (h _ _ hfl)) ?_ ?_⟩
      · rintro n x σ H4 hn ⟨v8, v9, zs, rfl, s5, hq4, pz⟩
        obtain ⟨ft, hft, hF⟩ := Paired.get pf hn
        refine ⟨_, rfl, _, rfl, _, rfl, x, .ref qx, y, ft, at_, u, rfl, FactAt.mono (SameT.of s5) hF, ⟨qx, rfl, s5 _ _ hqx2⟩, hU.mono s5, Nat.le_trans (fsf u (List.mem_of_getElem? hu)) (by decide), fun H5 s6 none_ => ?_, fun H5 v t s6 some_ hT => ?_⟩
        · refine ⟨_, rfl, rfl, _, rfl, ?_⟩
          refine ⟨_, _, zs, rfl, s5.trans s6, s6 _ _ hq4, ?_⟩
          rw [take_more hft, List.filterMap_append, List.filterMap_cons_none none_]
          show Paired _ _ (_ ++ (_ ++ []))
          rw [List.append_nil]
          exact Paired.imp (fun _ _ z => FillAt.mono z s6) pz
        · obtain ⟨e, rfl, he⟩ := hT
          refine ⟨_, rfl, rfl, _, rfl, ?_⟩
          have hq5 := s6 _ _ hq4
          have zl : zs.length < sizeLine := by
            have h1 := Paired.len pz
            rw [List.length_append] at h1
            have h2 : (((ofTable l at_.t).take n).filterMap (fitV u at_)).length ≤ 110 := by
              have a := List.length_filterMap_le (fitV u at_) ((ofTable l at_.t).take n)
              have b := ofTable_len l at_.t
              rw [List.length_take] at a
              omega
            rw [sizeLine_eq]
            omega
          refine ⟨_, rfl, .inl ⟨rfl, _, SqL.of' hq5⟩, _, rfl, q, zs, _, rfl, rfl, hq5, zl, _, _, _, rfl, Same.step (s5.trans s6) hq, upd_same, ?_⟩
          rw [take_more hft, List.filterMap_append, List.filterMap_cons_some some_, ← List.append_assoc]
          have stay : ∀ v t, FillAt H5 v t → FillAt (upd H5 q (.lst (zs ++ [.ref e]))) v t := fun v t ⟨b, eb, hb⟩ => ⟨b, eb, by
            rw [upd_ne (ne_of hb hq5 (by intro z; cases z))]
            exact hb⟩
          exact Paired.snoc (Paired.imp (fun v t z => stay v t (FillAt.mono z s6)) pz) (stay _ _ ⟨e, rfl, he⟩)
      · rintro σ H4 ⟨v8, v9, zs, rfl, s5, hq4, pz⟩
        refine ⟨_, _, _, zs, rfl, s5, hq4, ?_⟩
        rw [Paired.len pf, List.take_length, fits_table] at pz
        rw [take_more hu, List.flatMap_append]
        show Paired _ _ (_ ++ (fitsM l at_ u ++ []))
        rw [List.append_nil]
        exact pz
    · rintro σ H3 ⟨v7, v8, v9, zs, rfl, s4, hq3, pz⟩
      refine ⟨_, rfl, q, zs, _, _, _, _, _, _, rfl, s12.trans s4, same_none s12 hq, hq3, ?_⟩
      rw [eys, List.take_length] at pz
      rw [nfs]
      exact pz
  · rintro σ H1 ⟨p, ys, v4, v5, v6, v7, v8, v9, rfl, s1, np, hp, py⟩
    refine ⟨_, rfl, k H1 p ys s1 np hp ?_⟩
    rw [ea, List.take_length, matches_eq] at py
    exact py
end
end Mw
namespace Mw
open PySem PySem.Spec PyProof.Rows L2
open Dx (Fact Facts Rule Atom Fill)
section
variable {P : Program} {w : World} {K : PySem.W.Frag} {mg : Str → Option Value} {base : Heap} {CR CS : Addr}
/-! ## first_match_without_head -/
def spFirst : Sp := fun vs H Q _ => ∃ (rv : V) (d : Addr) (r : Rule) (l : Facts), vs = [rv, .ref d] ∧ RuleAt H rv r ∧ TablesAt H d l ∧ Small l.length r.body.length ∧ Small l.length r.head.length ∧
  (∀ H', Same H H' → lackOf l r = none → Q .non H') ∧ ∀ H' v s, Same H H' → lackOf l r = some s → FillAt H' v s → Q v H'
theorem sc_first : FnScope ["rule", "tables", "assignment"] ["rule", "tables"] (C8.fnScope s_first_match_without_head) := C8.fnScope_by (by decide +kernel)
theorem find_at {α : Type} {p : α → Bool} {m : List α} {i : Nat} {x : α} (hx : m[i]? = some x) (before : ∀ y ∈ m.take i, p y = false) (h : p x = true) : m.find? p = some x := by
  have lt := (List.getElem?_eq_some_iff.mp hx).1
  have e : m = m.take i ++ x :: m.drop (i + 1) := by
    have h1 : m.drop i = x :: m.drop (i + 1) := by
      rw [List.drop_eq_getElem_cons lt]
      congr 1
      exact (List.getElem?_eq_some_iff.mp hx).2
    rw [← h1, List.take_append_drop]
  rw [e, List.find?_append, List.find?_eq_none.mpr fun y hy => by rw [before y hy]; exact Bool.false_ne_true, List.find?_cons_of_pos h]
  rfl
theorem match_len {l : Facts} {as : List Atom} {s u : Fill} (h : u ∈ Dx.matches_ l as s) : u.length ≤ s.length + 2 * as.length := by
  rw [← matches_eq] at h
  exact fold_fill_len l as [s] s.length (fun t ht => by rw [List.mem_singleton.mp ht]; exact Nat.le_refl _) u h
theorem ok_first_match (T : Top K mg CR CS) (c1 : C8.Cal P w K mg base 2 "matches" spMatches []) (c2 : C8.Cal P w K mg base 1 "body_of" spBodyOf []) (c3 : C8.Cal P w K mg base 1 "head_of" spHeadOf []) :
    C8.Cal P w K mg base 3 "first_match_without_head" spFirst [] := by
  refine cal_of T.d_first_match_without_head sc_first (fun _ _ _ _ _ _ us hl => match us, hl with | [_, _], _ => rfl) (fun vs H Q E h => by obtain ⟨t, p, q, r, rfl, _⟩ := h; rfl) (fun f cdv A outer st H vs Q E hr h => ?_)
  obtain ⟨rv, d, r, l, rfl, hR, ht, sb, sh, k1, k2⟩ := h
  refine ⟨_, pss_cons (ps_for PassesOwn.never rfl (pi_list (C8.pe_c c1 hr (by decide) rfl (pa_cons (C8.pe_c c2 hr (by decide) rfl (pa_cons (pv 0) pa_nil)) (pa_cons pe_dnewK (pa_cons (pv 1) pa_nil))))) (pg_name (i := 2) sc_first.nd rfl (Or.inl rfl))
      (pss_one (ps_if (pt_cmpR op_eq (pe_len K rfl T.b_len (C8.pe_c c1 hr (by decide) rfl (pa_cons (C8.pe_c c3 hr (by decide) rfl (pa_cons (pv 0) pa_nil)) (pa_cons (pv 2) (pa_cons (pv 1) pa_nil))))) pe_int (nomark _)) (pss_one (ps_ret (pv 2))) pss_nil)))
    (pss_one (ps_ret pe_non)), ?_⟩
  refine ⟨_, rfl, rv, r, rfl, hR, fun u hu => ?_⟩
  intro e he
  have s1 : Same H (upd H e (.dK [])) := Same.new he
  refine ⟨_, rfl, u, .ref e, d, r.body, [], l, rfl, hu.mono (SameT.of s1), ⟨e, rfl, upd_same⟩, ht.mono s1, sb, Nat.zero_le _, fun H2 p ys s2 _ hp py => ?_⟩
  have s12 := s1.trans s2
  refine ⟨p, rfl, ⟨_, SqL.of' hp⟩, for_list (xs := ys) (fun i σ H' => ∃ v2 : Option V, σ = [some rv, some (.ref d), v2] ∧ Same H2 H' ∧ ∀ t ∈ (Dx.matches_ l r.body []).take i, (Dx.matches_ l r.head t).isEmpty = false)
    ⟨none, rfl, Same.refl _, by rw [List.take_zero]; intro t ht; cases ht⟩ (fun i σ H' _ ⟨_, _, h, _⟩ => SqL.of' (h _ _ hp)) ?_ ?_⟩
  · rintro i x σ H3 hx ⟨v2, rfl, s3, before⟩
    obtain ⟨t, hti, hT⟩ := Paired.get py hx
    have s13 := s12.trans s3
    have hT3 := hT.mono s3
    have tl := match_len (List.mem_of_getElem? hti)
    have b4 : r.body.length ≤ 4 := by rcases sb with z | z <;> omega
    refine ⟨_, rfl, rv, r, rfl, hR.mono (SameT.of s13), fun u3 hu3 => ?_⟩
    refine ⟨_, rfl, _, rfl, u3, x, d, r.head, t, l, rfl, hu3, hT3, ht.mono s13, sh, by rw [List.length_nil] at tl; omega, fun H4 p4 zs s4 _ hp4 pz => ?_⟩
    refine ⟨p4, zs, rfl, .inl (SqL.of' hp4), rfl, _, rfl, ?_⟩
    rw [show decide (V.int (zs.length : Int) = V.int 0) = decide (zs.length = 0) from int_dec zs.length 0, Paired.len pz]
    cases hm : Dx.matches_ l r.head t with
    | nil =>
      rw [decide_eq_true (show ([] : List Fill).length = 0 from rfl)]
      refine ⟨_, rfl, k2 H4 x t (s13.trans s4) ?_ (hT3.mono s4)⟩
      exact find_at hti before (by rw [hm]; rfl)
    | cons z zs' =>
      rw [decide_eq_false (show ¬ (z :: zs').length = 0 from fun h => by cases h)]
      refine ⟨_, rfl, s3.trans s4, fun t' ht' => ?_⟩
      rw [take_more hti] at ht'
      rcases List.mem_append.mp ht' with h | h
      · exact before t' h
      · rw [List.mem_singleton.mp h, hm]
        rfl
  · rintro σ H3 ⟨v2, rfl, s3, before⟩
    rw [Paired.len py, List.take_length] at before
    refine k1 H3 (s12.trans s3) ?_
    unfold lackOf
    rw [List.find?_eq_none]
    intro t ht
    rw [before t ht]
    exact Bool.false_ne_true
/-! ## first_lack -/
theorem for_enum {K : PySem.W.Frag} {a : Addr} {xs : List V} {g : TG} {tb : TS} {D : Ends} {σ : L2.St} {H : Hp} (Pv : Nat → L2.St → Hp → Prop) (h0 : Pv 0 σ H) (hl : ∀ i σ H, i ≤ xs.length → Pv i σ H → SqL K H a xs)
    (hs : ∀ i x σ H T, xs[i]? = some x → Pv i σ H → H T = none → g (.ref T) σ (upd H T (.tup [.int (i : Nat), x])) fun σ2 H2 => tb { D with nx := Pv (i + 1), ct := Pv (i + 1), bk := D.nx } σ2 H2) (hd : ∀ σ H, Pv xs.length σ H → D.nx σ H) :
    ∃ W : Nat → Nat → L2.St → Hp → Prop, (∃ m, W 0 m σ H) ∧ ∀ i m σ H, W i m σ H →
      ((Ite K a).stop i H ∧ D.nx σ H) ∨ ((Ite K a).go i H ∧ ∃ N : L2.St → Hp → Prop, (∀ σ' H', N σ' H' → ∃ m', m' < m ∧ W (i + 1) m' σ' H') ∧ ∀ x H', (Ite K a).yld i H x H' → g x σ H' fun σ2 H2 => tb { D with nx := N, ct := N, bk := D.nx } σ2 H2) := by
  refine ⟨fun i r σ H => r = xs.length - i ∧ i ≤ xs.length ∧ Pv i σ H, ⟨xs.length, rfl, Nat.zero_le _, h0⟩, ?_⟩
  rintro i r σ H ⟨rfl, hi, p⟩
  have q := hl i σ H hi p
  by_cases lt : i < xs.length
  · refine .inr ⟨⟨xs, xs[i], q, by simp [lt]⟩, Pv (i + 1), fun σ' H' p' => ⟨xs.length - (i + 1), by omega, rfl, lt, p'⟩, fun x H' y => ?_⟩
    obtain ⟨T, z, e1, hT, e2, y⟩ := y
    subst e1 e2
    exact hs i z σ _ T (y xs q) p hT
  · obtain rfl : i = xs.length := by omega
    exact .inl ⟨⟨xs, q, Nat.le_refl _⟩, hd σ H p⟩
def spLack : Sp := fun vs H Q _ => ∃ (ra fa : Addr) (rs : List Rule) (xs : List V) (l : Facts), vs = [.ref ra, .ref fa] ∧ RulesAt H ra rs ∧ H fa = some (.lst xs) ∧ Paired (FactAt H) xs l ∧ l.length ≤ 20000 ∧ (∀ r ∈ rs, Small l.length r.body.length ∧ Small l.length r.head.length) ∧
  (∀ H', Same H H' → lackM l rs = none → Q .non H') ∧ ∀ H' q i sv s, Same H H' → lackM l rs = some (i, s) → H' q = some (.tup [.int (i : Nat), sv]) → FillAt H' sv s → Q (.ref q) H'
theorem sc_lack : FnScope ["rules", "facts", "tables", "index", "rule", "assignment"] ["rules", "facts"] (C8.fnScope s_first_lack) := C8.fnScope_by (by decide +kernel)
theorem ok_first_lack (T : Top K mg CR CS) (c1 : C8.Cal P w K mg base 1 "facts_by_table" (spByTable K) []) (c2 : C8.Cal P w K mg base 3 "first_match_without_head" spFirst []) : C8.Cal P w K mg base 4 "first_lack" spLack [] := by
  refine cal_of T.d_first_lack sc_lack (fun _ _ _ _ _ _ us hl => match us, hl with | [_, _], _ => rfl) (fun vs H Q E h => by obtain ⟨t, p, q, r, a, rfl, _⟩ := h; rfl) (fun f cdv A outer st H vs Q E hr h => ?_)
  obtain ⟨ra, fa, rs, xs, l, rfl, ⟨xr, hra, pr⟩, hfa, pf, few, small, k1, k2⟩ := h
  refine ⟨_, pss_cons (ps_set (i := 2) sc_lack.nd rfl (Or.inl rfl) (C8.pe_c c1 hr (by decide) rfl (pa_cons (pv 1) pa_nil)))
    (pss_cons (ps_for PassesOwn.never rfl (pi_enum rfl T.b_enumerate (pa_cons (pv 0) pa_nil)) (pg_tup rfl (pgs_cons (pg_name (i := 3) sc_lack.nd rfl (Or.inl rfl)) (pgs_cons (pg_name (i := 4) sc_lack.nd rfl (Or.inl rfl)) pgs_nil)))
      (pss_cons (ps_set (i := 5) sc_lack.nd rfl (Or.inl rfl) (C8.pe_c c2 hr (by decide) rfl (pa_cons (pv 4) (pa_cons (pv 2) pa_nil))))
      (pss_one (ps_if (pt_cmpR op_notN (pv 5) pe_non (nomark _)) (pss_one (ps_ret (pe_tup (pa_cons (pv 3) (pa_cons (pv 5) pa_nil))))) pss_nil))))
    (pss_one (ps_ret pe_non))), ?_⟩
  refine ⟨_, rfl, fa, xs, l, rfl, hfa, pf, few, fun H1 d s1 ht => ?_⟩
  refine ⟨_, rfl, ra, xr, rfl, SqL.of' (s1 _ _ hra), for_enum (xs := xr) (fun i σ H' => ∃ v3 v4 v5 : Option V, σ = [some (.ref ra), some (.ref fa), some (.ref d), v3, v4, v5] ∧ Same H1 H' ∧ ∀ j, j < i → ∀ q, rs[j]? = some q → lackOf l q = none)
    ⟨none, none, none, rfl, Same.refl _, fun j hj => absurd hj (Nat.not_lt_zero _)⟩ (fun i σ H' _ ⟨_, _, _, _, h, _⟩ => SqL.of' (h _ _ (s1 _ _ hra))) ?_ ?_⟩
  · rintro i x σ H2 T2 hx ⟨v3, v4, v5, rfl, s2, before⟩ nT
    obtain ⟨r, hri, hR⟩ := Paired.get pr hx
    have s3 := s2.trans (Same.new (o := .tup [.int (i : Nat), x]) nT)
    obtain ⟨sb, sh⟩ := small r (List.mem_of_getElem? hri)
    refine ⟨T2, _, rfl, SqT.of' upd_same, rfl, _, _, rfl, _, _, rfl, rfl, _, rfl, _, rfl, x, d, r, l, rfl, hR.mono (SameT.of (s1.trans s3)), ht.mono s3, sb, sh, fun H4 s4 none_ => ?_, fun H4 v s s4 some_ hS => ?_⟩
    · refine ⟨_, rfl, rfl, _, rfl, ?_⟩
      refine ⟨_, _, _, rfl, s3.trans s4, fun j hj q hq => ?_⟩
      by_cases c : j = i
      · subst c
        rw [hri] at hq
        cases hq
        exact none_
      · exact before j (by omega) q hq
    · obtain ⟨e, rfl, he⟩ := hS
      refine ⟨_, rfl, rfl, _, rfl, ?_⟩
      refine ⟨_, rfl, _, rfl, (by show 2 ≤ sizeLine; decide), fun p hp => ?_⟩
      refine k2 _ p i _ s (((s1.trans s3).trans s4).trans (Same.new hp)) (lack_next hri before some_) upd_same ⟨e, rfl, ?_⟩
      rw [upd_ne (ne_of_none he hp)]
      exact he
  · rintro σ H2 ⟨v3, v4, v5, rfl, s2, before⟩
    refine k1 H2 (s1.trans s2) (lack_none.mpr fun j q hq => before j ?_ q hq)
    rw [Paired.len pr]
    exact (List.getElem?_eq_some_iff.mp hq).1
/-! ## with_unknown_values -/
def spUnknown : Sp := fun vs H Q _ => ∃ (va : Addr) (ns : List Nat) (n : Nat) (sv : V) (s : Fill), vs = [.ref va, .int (n : Nat), sv] ∧ H va = some (.lst (nV ns)) ∧ FillAt H sv s ∧ n ≤ 100000000 ∧ ns.Nodup ∧ (∀ v ∈ ns, s.at_ v = none) ∧ s.length + ns.length ≤ 1000 ∧
  ∀ H' v, Same H H' → FillAt H' v (Dx.opened s ns n) → Q v H'
theorem sc_unknown : FnScope ["variables", "first", "assignment", "extended", "value", "variable"] ["variables", "first", "assignment"] (C8.fnScope s_with_unknown_values) := C8.fnScope_by (by decide +kernel)
theorem opened_len : ∀ (s : Fill) (vs : List Nat) (n : Nat), (Dx.opened s vs n).length = s.length + vs.length
  | s, [], n => rfl
  | s, v :: vs, n => by
    show (Dx.opened (s ++ [(v, n)]) vs (n + 1)).length = _
    rw [opened_len, List.length_append, List.length_cons]
    show s.length + 1 + vs.length = s.length + (vs.length + 1)
    omega
theorem ok_with_unknown_values (T : Top K mg CR CS) : C8.Cal P w K mg base 1 "with_unknown_values" spUnknown [] := by
  refine cal_of T.d_with_unknown_values sc_unknown (fun _ _ _ _ _ _ us hl => match us, hl with | [_, _, _], _ => rfl) (fun vs H Q E h => by obtain ⟨t, p, q, r, a, rfl, _⟩ := h; rfl) (fun f cdv A outer st H vs Q E hr h => ?_)
  obtain ⟨va, ns, n, sv, s, rfl, hva, ⟨qs, rfl, hqs⟩, nl, nd, new, few, k⟩ := h
  refine ⟨_, pss_cons (ps_set (i := 3) sc_unknown.nd rfl (Or.inl rfl) (pe_callTy (call_dictD) rfl T.b_dict bo_dict (pa_cons (pv 2) pa_nil)))
    (pss_cons (ps_for PassesOwn.never rfl (pi_enumK T.b_enumerate (pa_cons (pv 0) pa_nil) (pk_cons (pv 1) pk_nil)) (pg_tup rfl (pgs_cons (pg_name (i := 4) sc_unknown.nd rfl (Or.inl rfl)) (pgs_cons (pg_name (i := 5) sc_unknown.nd rfl (Or.inl rfl)) pgs_nil)))
      (pss_one (ps_dput (hu1 hr) (pv 3) (pv 5) (pv 4) rfl)))
    (pss_one (ps_ret (pv 3)))), ?_⟩
  refine ⟨_, rfl, qs, encF s, rfl, .inl hqs, fun e he => ?_⟩
  have s1 : Same H (upd H e (.dK (encF s))) := Same.new he
  refine ⟨_, rfl, _, rfl, va, nV ns, (n : Int), rfl, rfl, SqL.of' (s1 _ _ hva), ⟨by omega, by omega⟩, for_enumK (xs := nV ns) (fun i σ H' => ∃ v4 v5 : Option V, σ = [some (.ref va), some (.int (n : Nat)), some (.ref qs), some (.ref e), v4, v5] ∧ Same H H' ∧ H' e = some (.dK (encF (Dx.opened s (ns.take i) n))))
    ⟨none, none, rfl, s1, by rw [List.take_zero]; exact upd_same⟩ (fun i σ H' _ ⟨_, _, _, h, _⟩ => SqL.of' (h _ _ hva)) ?_ ?_⟩
  · rintro i x σ H2 T2 hx ⟨v4, v5, rfl, s2, he2⟩ nT
    obtain ⟨v, hv, rfl⟩ := of_nV hx
    have heT : e ≠ T2 := ne_of_none he2 nT
    have free : (Dx.opened s (ns.take i) n).at_ v = none := by
      have h1 := opened_at (ns.take i) s n v
      rw [new v (List.mem_of_getElem? hv)] at h1
      have h2 : v ∉ ns.take i := fun hm => by
        obtain ⟨j, hj⟩ := List.mem_iff_getElem?.mp hm
        have jl : j < i := by
          have := (List.getElem?_eq_some_iff.mp hj).1
          rw [List.length_take] at this
          omega
        rw [List.getElem?_take, if_pos jl] at hj
        obtain ⟨h3, h4⟩ := List.getElem?_eq_some_iff.mp hj
        obtain ⟨h5, h6⟩ := List.getElem?_eq_some_iff.mp hv
        have := List.pairwise_iff_getElem.mp nd j i h3 h5 jl
        exact this (h4.trans h6.symm)
      rw [decide_eq_false h2] at h1
      exact Option.isNone_iff_eq_none.mp (by rw [← Option.not_isSome, h1]; rfl)
    have il : i < ns.length := (List.getElem?_eq_some_iff.mp hv).1
    have ol := opened_len s (ns.take i) n
    rw [List.length_take] at ol
    refine ⟨T2, _, rfl, SqT.of' upd_same, rfl, _, _, rfl, _, _, rfl, rfl, _, rfl, _, rfl, _, rfl, e, _, rfl, DPut.k (k := nK v) (by rw [upd_ne heT]; exact he2) (line_small (by rw [encF_len]; omega)), ?_⟩
    have en : ((n : Nat) : Int) + ((i : Nat) : Int) = ((n + i : Nat) : Int) := by omega
    refine ⟨_, _, rfl, Same.step (s2.trans (Same.new nT)) he, ?_⟩
    have e2 : (n : Nat) + (ns.take i).length = n + i := by
      rw [List.length_take]
      omega
    rw [upd_same, en, encF_put free, take_more hv, opened_snoc, e2]
  · rintro σ H2 ⟨v4, v5, rfl, s2, he2⟩
    rw [nV_len, List.take_length] at he2
    exact ⟨_, rfl, k H2 _ s2 ⟨e, rfl, he2⟩⟩
end
end Mw
namespace Mw
open PySem PySem.Spec PyProof.Rows L2
open Dx (Fact Facts Rule Atom Fill)
section
variable {P : Program} {w : World} {K : PySem.W.Frag} {mg : Str → Option Value} {base : Heap} {CR CS : Addr}
/-! ## computed_facts -/
def spComputed : Sp := fun vs H Q _ => ∃ (ra fa : Addr) (rs : List Rule) (xs : List V) (l : Facts), vs = [.ref ra, .ref fa] ∧ RulesAt H ra rs ∧ H fa = some (.lst xs) ∧ Paired (FactAt H) xs l ∧ l.length ≤ 20000 ∧ (∀ r ∈ rs, Small l.length r.body.length ∧ r.head.length ≤ 2) ∧
  rs.length ≤ 40 ∧ (Dx07.target l rs).length ≤ 9999 ∧ ∀ H' p ys, Same H H' → H p = none → H' p = some (.lst ys) → Paired (FactAt H') ys (Dx07.target l rs) → Q (.ref p) H'
theorem sc_computed : FnScope ["rules", "facts", "tables", "computed", "unknown", "rule", "existential", "assignment", "values", "atom"] ["rules", "facts"] (C8.fnScope s_computed_facts) := C8.fnScope_by (by decide +kernel)
theorem dget_fill {H : Hp} {e : Addr} {s : Fill} {v b : Nat} (he : H e = some (.dK (encF s))) (hb : s.at_ v = some b) : DGet H e (.int (v : Int)) (some (.int (b : Int))) := by
  have h := DGet.k (k := nK v) he
  rw [encF_val, hb] at h
  exact h
theorem range_more (f : Nat → List Fact) (j : Nat) : (List.range (j + 1)).flatMap f = (List.range j).flatMap f ++ f j := by
  rw [List.range_succ, List.flatMap_append]
  simp
theorem drop_at' {α : Type} {l : List α} {i : Nat} {x : α} (h : l[i]? = some x) : l.drop i = x :: l.drop (i + 1) := by
  obtain ⟨lt, e⟩ := List.getElem?_eq_some_iff.mp h
  rw [List.drop_eq_getElem_cons lt, e]
theorem ok_computed_facts (T : Top K mg CR CS) (c1 : C8.Cal P w K mg base 1 "facts_by_table" (spByTable K) []) (c2 : C8.Cal P w K mg base 2 "existential_variables" spExist []) (c3 : C8.Cal P w K mg base 2 "matches" spMatches []) (c4 : C8.Cal P w K mg base 1 "body_of" spBodyOf [])
    (c5 : C8.Cal P w K mg base 1 "with_unknown_values" spUnknown []) (c6 : C8.Cal P w K mg base 1 "head_of" spHeadOf []) (c7 : C8.Cal P w K mg base 1 "set_of_facts" (spSetOf K) []) : C8.Cal P w K mg base 3 "computed_facts" spComputed [] := by
  refine cal_of T.d_computed_facts sc_computed (fun _ _ _ _ _ _ us hl => match us, hl with | [_, _], _ => rfl) (fun vs H Q E h => by obtain ⟨t, p, q, r, a, rfl, _⟩ := h; rfl) (fun f cdv A outer st H vs Q E hr h => ?_)
  obtain ⟨ra, fa, rs, xs, l, rfl, ⟨xr, hra, pr⟩, hfa, pf, few, small, r40, fin, k⟩ := h
  obtain ⟨tu, mu⟩ := T.c_FIRST_UNKNOWN
  refine ⟨_, pss_cons (ps_set (i := 2) sc_computed.nd rfl (Or.inl rfl) (C8.pe_c c1 hr (by decide) rfl (pa_cons (pv 1) pa_nil)))
    (pss_cons (ps_set (i := 3) sc_computed.nd rfl (Or.inl rfl) (pe_lst pa_nil))
    (pss_cons (ps_set (i := 4) sc_computed.nd rfl (Or.inl rfl) (pgI mu))
    (pss_cons (ps_for PassesOwn.never rfl (pi_list (pv 0)) (pg_name (i := 5) sc_computed.nd rfl (Or.inl rfl))
      (pss_cons (ps_set (i := 6) sc_computed.nd rfl (Or.inl rfl) (C8.pe_c c2 hr (by decide) rfl (pa_cons (pv 5) pa_nil)))
      (pss_one (ps_for PassesOwn.never rfl (pi_list (C8.pe_c c3 hr (by decide) rfl (pa_cons (C8.pe_c c4 hr (by decide) rfl (pa_cons (pv 5) pa_nil)) (pa_cons pe_dnewK (pa_cons (pv 2) pa_nil))))) (pg_name (i := 7) sc_computed.nd rfl (Or.inl rfl))
        (pss_cons (ps_set (i := 8) sc_computed.nd rfl (Or.inl rfl) (C8.pe_c c5 hr (by decide) rfl (pa_cons (pv 6) (pa_cons (pv 4) (pa_cons (pv 7) pa_nil)))))
        (pss_cons (ps_aug (i := 4) sc_computed.nd rfl (.inl rfl) (pe_len K rfl T.b_len (pv 6)) ip_add)
        (pss_one (ps_for PassesOwn.never rfl (pi_tup (C8.pe_c c6 hr (by decide) rfl (pa_cons (pv 5) pa_nil))) (pg_name (i := 9) sc_computed.nd rfl (Or.inl rfl))
          (pss_one (ps_expr (pe_bm PySem.F.plainAttrs_list PySem.F.slot_list_append PySem.F.type_list_append mt_append (pv 3)
            (pa_cons (pe_tup (pa_cons (pe_ix ix_tup (pv 9) pe_int (fun _ _ => rfl)) (pa_cons (pe_dget (hu1 hr) (pv 8) (pe_ix ix_tup (pv 9) pe_int (fun _ _ => rfl)) (fun _ _ => rfl))
              (pa_cons (pe_dget (hu1 hr) (pv 8) (pe_ix ix_tup (pv 9) pe_int (fun _ _ => rfl)) (fun _ _ => rfl)) pa_nil)))) pa_nil))))))))))))
    (pss_one (ps_ret (C8.pe_c c7 hr (by decide) rfl (pa_cons (pv 3) pa_nil))))))), ?_⟩
  refine ⟨_, rfl, fa, xs, l, rfl, hfa, pf, few, fun H1 d s1 ht => ?_⟩
  refine ⟨Nat.zero_le _, fun c hc => ?_⟩
  have s2 : Same H1 (upd H1 c (.lst [])) := Same.new hc
  have hra1 := s1 _ _ hra
  refine ⟨_, rfl, ra, rfl, ⟨_, SqL.of' (s2 _ _ hra1)⟩, for_list (xs := xr) (fun i σ H' => ∃ (n : Nat) (v5 v6 v7 v8 v9 : Option V) (cs : List V) (out : Facts), σ = [some (.ref ra), some (.ref fa), some (.ref d), some (.ref c), some (.int (n : Nat)), v5, v6, v7, v8, v9] ∧ Same H1 H' ∧
    H' c = some (.lst cs) ∧ Paired (FactAt H') cs out ∧ out ++ Dx07.handed l (rs.drop i) n = Dx07.handed l rs Dx.UNKNOWN ∧ n ≤ 100 + i * 58564 ∧ out.length ≤ i * 29282)
    ⟨100, none, none, none, none, none, [], [], rfl, s2, upd_same, .nil, rfl, by omega, Nat.zero_le _⟩ (fun i σ H' _ ⟨_, _, _, _, _, _, _, _, _, h, _⟩ => SqL.of' (h _ _ hra1)) ?_ ?_⟩
  · rintro i x σ H2 hx ⟨n, v5, v6, v7, v8, v9, cs, out, rfl, s3, hc2, po, eq, nb, ob⟩
    obtain ⟨r, hri, hR0⟩ := Paired.get pr hx
    obtain ⟨sb, h2⟩ := small r (List.mem_of_getElem? hri)
    have il : i < rs.length := (List.getElem?_eq_some_iff.mp hri).1
    have b4 : r.body.length ≤ 4 := by rcases sb with z | z <;> omega
    have hR : RuleAt H2 x r := hR0.mono (SameT.of (s1.trans s3))
    have ol := open_len r
    have ml : (Dx.matches_ l r.body []).length ≤ 14641 := Nat.le_trans (matches_len l r.body []) (sb.pow (Nat.le_refl _))
    refine ⟨_, rfl, x, r, rfl, hR, by omega, by omega, fun H3 E s4 nE hE => ?_⟩
    have hR3 := hR.mono (SameT.of s4)
    refine ⟨_, rfl, x, r, rfl, hR3, fun u hu => ?_⟩
    intro e0 he0
    have s5 : Same H3 (upd H3 e0 (.dK [])) := Same.new he0
    refine ⟨_, rfl, u, .ref e0, d, r.body, [], l, rfl, hu.mono (SameT.of s5), ⟨e0, rfl, upd_same⟩, ht.mono ((s3.trans s4).trans s5), sb, Nat.zero_le _, fun H4 p ys s6 np hp py => ?_⟩
    have s46 := (s4.trans s5).trans s6
    have s14 := s3.trans s46
    have eys := Paired.len py
    have pc : p ≠ c := fun z => by
      have := s5 _ _ (s4 _ _ hc2)
      rw [← z, np] at this
      cases this
    have Ec : E ≠ c := fun z => by
      rw [z, hc2] at nE
      cases nE
    have hE4 := s6 _ _ (s5 _ _ hE)
    have hc4 := s46 _ _ hc2
    have hR4 := hR.mono (SameT.of s46)
    have g2 : ∀ j, j ≤ 14641 → ((List.range j).flatMap (givenBy l r n)).length ≤ 29282 := fun j hj => by
      have := flat_le (givenBy l r n) 2 (List.range j) fun i _ => by
        rw [givenBy, List.length_map]
        exact h2
      rw [List.length_range] at this
      omega
    have drop := drop_at' hri
    rw [drop, handed_cons] at eq
    -- the loop over the matches: above H4, but for the list at c
    refine ⟨p, rfl, ⟨_, SqL.of' hp⟩, for_list (xs := ys) (fun j σ H' => ∃ (v7 v8 v9 : Option V) (cs : List V), σ = [some (.ref ra), some (.ref fa), some (.ref d), some (.ref c), some (.int ((n + j * r.open_.length : Nat) : Int)), some x, some (.ref E), v7, v8, v9] ∧
      SameBut c H4 H' ∧ H' c = some (.lst cs) ∧ Paired (FactAt H') cs (out ++ (List.range j).flatMap (givenBy l r n)))
      ⟨v7, v8, v9, cs, (by rw [Nat.zero_mul, Nat.add_zero]; rfl), SameBut.refl _ _, s46 _ _ hc2, by show Paired _ _ (out ++ []); rw [List.append_nil]; exact Paired.imp (fun _ _ z => FactAt.mono (SameT.of s46) z) po⟩
      (fun j σ H' _ ⟨_, _, _, _, _, h, _⟩ => SqL.of' (h _ _ pc hp)) ?_ ?_⟩
    · rintro j y σ H5 hj ⟨v7, v8, v9, cs, rfl, b5, hc5, po5⟩
      obtain ⟨t, hti, hT0⟩ := Paired.get py hj
      have hmem := List.mem_of_getElem? hti
      have jl : j < (Dx.matches_ l r.body []).length := (List.getElem?_eq_some_iff.mp hti).1
      have dict5 : ∀ v u, FillAt H4 v u → FillAt H5 v u := fun v u ⟨a, e, ha⟩ => ⟨a, e, b5 _ _ (ne_of ha hc4 (by intro z; cases z)) ha⟩
      have tl := match_len hmem
      have jk : j * r.open_.length ≤ 14641 * 4 := Nat.mul_le_mul (by omega) (by omega)
      have hE5 := b5 _ _ Ec hE4
      refine ⟨_, rfl, _, rfl, _, rfl, E, r.open_, n + j * r.open_.length, y, t, rfl, hE5, dict5 _ _ hT0, by omega, open_nodup r, fun v hv => ?_, by rw [List.length_nil] at tl; omega, fun H6 v6 s7 hS => ?_⟩
      · have := body_at hmem v
        rw [decide_eq_false (mem_open.mp hv).2] at this
        exact Option.isNone_iff_eq_none.mp (by rw [← Option.not_isSome, this]; rfl)
      obtain ⟨e8, rfl, he8⟩ := hS
      have hE6 := s7 _ _ hE5
      have hc6 := s7 _ _ hc5
      refine ⟨_, rfl, _, rfl, E, _, rfl, .inl (SqL.of' hE6), _, _, rfl, rfl, ?_⟩
      have en : ((n + j * r.open_.length : Nat) : Int) + ((nV r.open_).length : Int) = ((n + (j + 1) * r.open_.length : Nat) : Int) := by
        rw [nV_len, Nat.succ_mul]
        omega
      have b6 : SameBut c H4 H6 := b5.trans (SameBut.of s7)
      have hR6 := hR4.mono (b6.tup hc4)
      refine ⟨_, rfl, x, r, rfl, hR6, fun u6 hu6 => ?_⟩
      obtain ⟨qh, xh, rfl, hqh, ph⟩ := hu6
      have given : givenBy l r n j = r.head.map (Dx.inst (Dx.opened t r.open_ (n + j * r.open_.length))) := by
        rw [givenBy, List.getD_eq_getElem?_getD, hti]
        rfl
      generalize hSS : Dx.opened t r.open_ (n + j * r.open_.length) = S at he8 given
      have headb : ∀ v, v ∈ Dx.places r.head → ∃ b, S.at_ v = some b := fun v hv => by
        have := head_at hmem (n + j * r.open_.length) hv
        rw [hSS] at this
        exact Option.isSome_iff_exists.mp this
      refine ⟨qh, rfl, ⟨_, SqT.of' hqh⟩, for_tup (xs := xh) (fun m σ H' => ∃ (v9 : Option V) (cs : List V), σ = [some (.ref ra), some (.ref fa), some (.ref d), some (.ref c), some (.int (((n + j * r.open_.length : Nat) : Int) + ((nV r.open_).length : Int))), some x, some (.ref E), some y, some (.ref e8), v9] ∧
        SameBut c H6 H' ∧ H' c = some (.lst cs) ∧ Paired (FactAt H') cs (out ++ (List.range j).flatMap (givenBy l r n) ++ (r.head.take m).map (Dx.inst S)))
        ⟨v9, cs, rfl, SameBut.refl _ _, hc6, by show Paired _ _ (_ ++ []); rw [List.append_nil]; exact Paired.imp (fun _ _ z => FactAt.mono (SameT.of s7) z) po5⟩
        (fun m σ H' _ ⟨_, _, _, h, _⟩ => SqT.of' (h _ _ (ne_of hqh hc6 (by intro z; cases z)) hqh)) ?_ ?_⟩
      · rintro m z σ H7 hm ⟨v9, cs, rfl, b7, hc7, po7⟩
        obtain ⟨at_, hat, hA⟩ := Paired.get ph hm
        have amem := List.mem_of_getElem? hat
        obtain ⟨qx, rfl, hqx⟩ := AtomAt.mono (b7.tup hc6) hA
        have he7 := b7 _ _ (ne_of he8 hc6 (by intro z; cases z)) he8
        obtain ⟨b1, hb1⟩ := headb _ (x_place amem)
        obtain ⟨b2, hb2⟩ := headb _ (y_place amem)
        have il2 : m < r.head.length := (List.getElem?_eq_some_iff.mp hat).1
        have cl := Paired.len po7
        rw [List.length_append, List.length_append, List.length_map, List.length_take] at cl
        have g2j := g2 j (by omega)
        refine ⟨_, rfl, .inl ⟨rfl, _, SqL.of' hc7⟩, _, rfl, qx, _, 0, _, rfl, rfl, SqT.of' hqx, ix_at (i := 0) rfl, _, rfl, _, rfl, qx, _, 1, _, rfl, rfl, SqT.of' hqx, ix_at (i := 1) rfl, e8, _, rfl, dget_fill he7 hb1,
          _, rfl, _, rfl, qx, _, 2, _, rfl, rfl, SqT.of' hqx, ix_at (i := 2) rfl, e8, _, rfl, dget_fill he7 hb2, (by show 3 ≤ sizeLine; decide), fun z hz => ?_⟩
        have cz : c ≠ z := ne_of_none hc7 hz
        have hc8 : upd H7 z (.tup [V.int (at_.t : Int), V.int (b1 : Int), V.int (b2 : Int)]) c = some (.lst cs) := by rw [upd_ne cz]; exact hc7
        refine ⟨c, cs, _, rfl, rfl, hc8, by rw [sizeLine_eq]; omega, _, _, rfl, ?_, upd_same, ?_⟩
        · exact (b7.trans (SameBut.of (Same.new hz))).trans SameBut.set
        · rw [take_more hat, List.map_append, ← List.append_assoc]
          have t1 : SameT H7 (upd (upd H7 z (.tup [V.int (at_.t : Int), V.int (b1 : Int), V.int (b2 : Int)])) c (.lst (cs ++ [V.ref z]))) := (SameT.new hz).trans (SameT.lst hc8)
          refine Paired.snoc (Paired.imp (fun _ _ k => FactAt.mono t1 k) po7) ⟨z, rfl, ?_⟩
          rw [upd_ne (fun k => cz k.symm), upd_same]
          show some (HO.tup _) = some (HO.tup [V.int (at_.t : Int), V.int (((S.at_ at_.x).getD 0 : Nat) : Int), V.int (((S.at_ at_.y).getD 0 : Nat) : Int)])
          rw [hb1, hb2]
          rfl
      · rintro σ H7 ⟨v9, cs, rfl, b7, hc7, po7⟩
        refine ⟨_, _, _, cs, by rw [en], b6.trans b7, hc7, ?_⟩
        rw [Paired.len ph, List.take_length, ← given, List.append_assoc, ← range_more] at po7
        exact po7
    · rintro σ H5 ⟨v7, v8, v9, cs, rfl, b5, hc5, po5⟩
      rw [eys] at po5 ⊢
      have mk : (Dx.matches_ l r.body []).length * r.open_.length ≤ 14641 * 4 := Nat.mul_le_mul ml (by omega)
      have g2e := g2 _ ml
      refine ⟨_, _, _, _, _, _, cs, _, rfl, Same.but s14 b5 hc, hc5, po5, by rw [List.append_assoc]; exact eq, by omega, ?_⟩
      rw [List.length_append]
      omega
  · rintro σ H2 ⟨n, v5, v6, v7, v8, v9, cs, out, rfl, s3, hc2, po, eq, nb, ob⟩
    have e : out = Dx07.handed l rs Dx.UNKNOWN := by
      rw [Paired.len pr, List.drop_length] at eq
      rw [← eq]
      show out = out ++ []
      rw [List.append_nil]
    refine ⟨_, rfl, c, cs, out, rfl, SqL.of' hc2, po, by rw [e]; exact fin, fun H3 p ys s4 np hp py => ?_⟩
    rw [e] at py
    exact k H3 p ys ((s1.trans s3).trans s4) (same_none (s1.trans s3) np) hp py
end
end Mw
namespace Mw
open PySem PySem.Spec PyProof.Rows L2
open Dx (Fact Facts Rule Atom Fill)
section
variable {P : Program} {w : World} {K : PySem.W.Frag} {mg : Str → Option Value} {base : Heap} {CR CS : Addr}
/-! ## service.py -/
def sF (l1 l2 l3 : Addr) : List (Str × V) := [("first_rules", .ref l1), ("second_rules", .ref l2), ("source_facts", .ref l3)]
theorem sF_one (l1 l2 l3 : Addr) : (sF l1 l2 l3).lookup ("first_rules" : Str) = some (.ref l1) := lk_here
theorem sF_two (l1 l2 l3 : Addr) : (sF l1 l2 l3).lookup ("second_rules" : Str) = some (.ref l2) := (lk_past (by decide +kernel)).trans lk_here
theorem sF_src (l1 l2 l3 : Addr) : (sF l1 l2 l3).lookup ("source_facts" : Str) = some (.ref l3) := (lk_past (by decide +kernel)).trans ((lk_past (by decide +kernel)).trans lk_here)
theorem sF_none {f : Str} (l1 l2 l3 : Addr) (h1 : (f == ("first_rules" : Str)) = false) (h2 : (f == ("second_rules" : Str)) = false) (h3 : (f == ("source_facts" : Str)) = false) : (sF l1 l2 l3).lookup f = none := (lk_past h1).trans ((lk_past h2).trans ((lk_past h3).trans rfl))
/-- what may change: the places in A alone -/
def SameX (A : List Addr) (H H' : Hp) : Prop := ∀ b o, b ∉ A → H b = some o → H' b = some o
theorem SameX.refl (A : List Addr) (H : Hp) : SameX A H H := fun _ _ _ h => h
theorem SameX.trans {A : List Addr} {H H1 H2 : Hp} (a : SameX A H H1) (b : SameX A H1 H2) : SameX A H H2 := fun c o n h => b c o n (a c o n h)
theorem SameX.of {A : List Addr} {H H' : Hp} (h : Same H H') : SameX A H H' := fun b o _ e => h b o e
theorem SameX.set {A : List Addr} {p : Addr} {H : Hp} {o : HO} (h : p ∈ A) : SameX A H (upd H p o) := fun b u n e => by
  rw [upd_ne (fun z => n (by rw [z]; exact h))]
  exact e
theorem SameX.but {A : List Addr} {p : Addr} {H H' : Hp} (h : p ∈ A) (s : SameBut p H H') : SameX A H H' := fun b o n e => s b o (fun z => n (by rw [z]; exact h)) e
/-- source facts, in the order in which they came -/
def FactsAt (H : Hp) (a : Addr) (l : List Fact) : Prop := ∃ xs, H a = some (.lst xs) ∧ Paired (FactAt H) xs l
structure SvcAt (CS : Addr) (H : Hp) (a l1 l2 l3 : Addr) (h : Dx07.House) : Prop where
  ob : ∃ dx, H a = some (.ins CS dx (sF l1 l2 l3))
  r1 : RulesAt H l1 h.book.one
  r2 : RulesAt H l2 h.book.two
  sf : ∃ fs, FactsAt H l3 fs ∧ fs.Perm h.source
  d12 : l1 ≠ l2
  d13 : l1 ≠ l3
  d23 : l2 ≠ l3
  ok : HouseOk h
theorem RulesAt.mono {H H' : Hp} {a : Addr} {l : List Rule} (t : SameT H H') (h : RulesAt H a l) (e : ∀ o, H a = some o → H' a = some o) : RulesAt H' a l := by
  obtain ⟨xs, h1, h2⟩ := h
  exact ⟨xs, e _ h1, Paired.imp (fun _ _ k => RuleAt.mono t k) h2⟩
theorem FactsAt.mono {H H' : Hp} {a : Addr} {l : List Fact} (t : SameT H H') (h : FactsAt H a l) (e : ∀ o, H a = some o → H' a = some o) : FactsAt H' a l := by
  obtain ⟨xs, h1, h2⟩ := h
  exact ⟨xs, e _ h1, Paired.imp (fun _ _ k => FactAt.mono t k) h2⟩
theorem SvcAt.same {H H' : Hp} {a l1 l2 l3 : Addr} {h : Dx07.House} (x : SvcAt CS H a l1 l2 l3 h) (s : Same H H') : SvcAt CS H' a l1 l2 l3 h where
  ob := let ⟨dx, e⟩ := x.ob; ⟨dx, s _ _ e⟩
  r1 := x.r1.mono (SameT.of s) fun _ e => s _ _ e
  r2 := x.r2.mono (SameT.of s) fun _ e => s _ _ e
  sf := let ⟨fs, e, p⟩ := x.sf; ⟨fs, e.mono (SameT.of s) fun _ e => s _ _ e, p⟩
  d12 := x.d12
  d13 := x.d13
  d23 := x.d23
  ok := x.ok
/-! ### index_when_added -/
def spAdded : Sp := fun vs H Q _ => ∃ (l : Addr) (xs : List V) (v : V), vs = [.ref l, v] ∧ H l = some (.lst xs) ∧ xs.length ≤ 2 ∧ (xs.length = 2 → Q (.int (-7)) H) ∧ (xs.length ≠ 2 → Q (.int (xs.length : Nat)) (upd H l (.lst (xs ++ [v]))))
theorem sc_added : FnScope ["rules", "rule"] ["rules", "rule"] (C8.fnScope s_index_when_added) := C8.fnScope_by (by decide +kernel)
theorem ok_index_when_added (T : Top K mg CR CS) : C8.Cal P w K mg base 1 "index_when_added" spAdded [] := by
  refine cal_of T.d_index_when_added sc_added (fun _ _ _ _ _ _ us hl => match us, hl with | [_, _], _ => rfl) (fun vs H Q E h => by obtain ⟨t, p, q, rfl, _⟩ := h; rfl) (fun f cdv A outer s H vs Q E hr h => ?_)
  obtain ⟨l, xs, v, rfl, hl, h2, k1, k2⟩ := h
  obtain ⟨t2, m2⟩ := T.c_MOST_RULES
  obtain ⟨t7, m7⟩ := T.c_FULL
  refine ⟨_, pss_cons (ps_if (pt_cmpR op_eq (pe_len K rfl T.b_len (pv 0)) (pgI m2) (nomark _)) (pss_one (ps_ret (pe_un un_neg (pgI m7)))) pss_nil)
    (pss_cons (ps_expr (pe_bm PySem.F.plainAttrs_list PySem.F.slot_list_append PySem.F.type_list_append mt_append (pv 0) (pa_cons (pv 1) pa_nil)))
    (pss_one (ps_ret (pe_op op_sub (pe_len K rfl T.b_len (pv 0)) pe_int)))), ?_⟩
  refine ⟨_, rfl, l, xs, rfl, .inl (SqL.of' hl), rfl, _, rfl, ?_⟩
  rw [show decide (V.int (xs.length : Int) = V.int 2) = decide (xs.length = 2) from int_dec xs.length 2]
  by_cases c : xs.length = 2
  · rw [decide_eq_true c]
    exact ⟨_, rfl, k1 c⟩
  · rw [decide_eq_false c]
    refine ⟨_, rfl, .inl ⟨rfl, _, SqL.of' hl⟩, _, rfl, l, xs, v, rfl, rfl, hl, line_small (by omega), ?_⟩
    refine ⟨_, rfl, l, _, rfl, .inl (SqL.of' upd_same), _, _, rfl, rfl, ?_⟩
    have e : (((xs ++ [v]).length : Nat) : Int) - 1 = ((xs.length : Nat) : Int) := by
      rw [List.length_append]
      show ((xs.length + 1 : Nat) : Int) - 1 = _
      omega
    show Q (.int ((((xs ++ [v]).length : Nat) : Int) - 1)) _
    rw [e]
    exact k2 c
/-! ### one, two -/
def spOne (K : PySem.W.Frag) (CS : Addr) : Sp := fun vs H Q _ => ∃ (a l1 l2 l3 pb ph : Addr) (h : Dx07.House) (bn hn : List Nat), vs = [.ref a, .ref pb, .ref ph] ∧ SvcAt CS H a l1 l2 l3 h ∧ SqL K H pb (nV bn) ∧ SqL K H ph (nV hn) ∧ bn.length ≤ 24 ∧ hn.length ≤ 24 ∧
  ∀ H', SameX [l1] H H' → SvcAt CS H' a l1 l2 l3 (Dx07.step h (.one bn hn)).1 → Q (.int (Dx07.step h (.one bn hn)).2.v) H'
def spTwo (K : PySem.W.Frag) (CS : Addr) : Sp := fun vs H Q _ => ∃ (a l1 l2 l3 pb ph : Addr) (h : Dx07.House) (bn hn : List Nat), vs = [.ref a, .ref pb, .ref ph] ∧ SvcAt CS H a l1 l2 l3 h ∧ SqL K H pb (nV bn) ∧ SqL K H ph (nV hn) ∧ bn.length ≤ 24 ∧ hn.length ≤ 24 ∧
  ∀ H', SameX [l2] H H' → SvcAt CS H' a l1 l2 l3 (Dx07.step h (.two bn hn)).1 → Q (.int (Dx07.step h (.two bn hn)).2.v) H'
theorem sc_one : FnScope ["self", "body", "head", "rule"] ["self", "body", "head"] (C8.fnScope s_Service_one) := C8.fnScope_by (by decide +kernel)
theorem sc_two : FnScope ["self", "body", "head"] ["self", "body", "head"] (C8.fnScope s_Service_two) := C8.fnScope_by (by decide +kernel)
theorem step_one_bad {h : Dx07.House} {b d : List Nat} (e : Dx07.rule? 0 b d = none) : Dx07.step h (.one b d) = (h, Dx07.ok (-1)) := by
  simp only [Dx07.step, e]
theorem step_one_ok {h : Dx07.House} {b d : List Nat} {r : Rule} (e : Dx07.rule? 0 b d = some r) : Dx07.step h (.one b d) = if r.open_ ≠ [] then (h, Dx07.ok (-5)) else if h.book.one.length = 2 then (h, Dx07.ok (-7)) else ({ h with book := { h.book with one := h.book.one ++ [r] } }, Dx07.ok (h.book.one.length : Nat)) := by
  simp only [Dx07.step, e]
  rfl
theorem step_two_bad {h : Dx07.House} {b d : List Nat} (e : Dx07.rule? 2 b d = none) : Dx07.step h (.two b d) = (h, Dx07.ok (-1)) := by
  simp only [Dx07.step, e]
theorem step_two_ok {h : Dx07.House} {b d : List Nat} {r : Rule} (e : Dx07.rule? 2 b d = some r) : Dx07.step h (.two b d) = if h.book.two.length = 2 then (h, Dx07.ok (-7)) else ({ h with book := { h.book with two := h.book.two ++ [r] } }, Dx07.ok (h.book.two.length : Nat)) := by
  simp only [Dx07.step, e]
  rfl
theorem tri_at {H : Hp} {b d : V} {x y : List Nat} {q : Addr} (h1 : AtomsAt H b (triplesM x)) (h2 : AtomsAt H d (triplesM y)) (hq : H q = some (.tup [b, d])) : RuleAt H (.ref q) ⟨triplesM x, triplesM y⟩ := ⟨q, b, d, rfl, hq, h1, h2⟩
theorem ok_one (T : Top K mg CR CS) (c1 : C8.Cal P w K mg base 3 "are_atoms" (spAreAtoms K) []) (c2 : C8.Cal P w K mg base 1 "triples" (spTriples K) []) (c3 : C8.Cal P w K mg base 2 "existential_variables" spExist []) (c4 : C8.Cal P w K mg base 1 "index_when_added" spAdded []) :
    C8.Met P w K mg base 4 CS "one" (spOne K CS) [] := by
  refine met_of T.k_Service T.m_Service_one sc_one (fun _ _ _ _ _ _ us hl => match us, hl with | [_, _, _], _ => rfl) (fun vs H Q E h => by obtain ⟨t, p, q, r, z, y, x, v, u, rfl, _⟩ := h; rfl) (fun f cdv A outer s H vs Q E hr h => ?_)
  obtain ⟨a, l1, l2, l3, pb, ph, h, bn, hn, rfl, S, hb, hh, b24, h24, k⟩ := h
  obtain ⟨t0, m0⟩ := T.c_SOURCE
  obtain ⟨t1, m1⟩ := T.c_MIDDLE_rules
  obtain ⟨t2, m2⟩ := T.c_INVALID
  obtain ⟨t5, m5⟩ := T.c_EXISTENTIAL
  refine ⟨_, pss_cons (ps_if (PW.pt (pw_or (pt_not (pt_val (C8.pe_c c1 hr (by decide) rfl (pa_cons (pv 1) (pa_cons (pgI m0) pa_nil))))) (pw_or1 (pt_not (pt_val (C8.pe_c c1 hr (by decide) rfl (pa_cons (pv 2) (pa_cons (pgI m1) pa_nil))))))))
      (pss_one (ps_ret (pe_un un_neg (pgI m2)))) pss_nil)
    (pss_cons (ps_set (i := 3) sc_one.nd rfl (Or.inl rfl) (pe_tup (pa_cons (C8.pe_c c2 hr (by decide) rfl (pa_cons (pv 1) pa_nil)) (pa_cons (C8.pe_c c2 hr (by decide) rfl (pa_cons (pv 2) pa_nil)) pa_nil))))
    (pss_cons (ps_if (pt_cmpR op_gt (pe_len K rfl T.b_len (C8.pe_c c3 hr (by decide) rfl (pa_cons (pv 3) pa_nil))) pe_int (nomark _)) (pss_one (ps_ret (pe_un un_neg (pgI m5)))) pss_nil)
    (pss_one (ps_ret (C8.pe_c c4 hr (by decide) rfl (pa_cons (pe_fld (pv 0) rfl) (pa_cons (pv 3) pa_nil))))))), ?_⟩
  refine ⟨_, rfl, pb, bn, 0, rfl, hb, b24, fun H1 s1 => ⟨_, rfl, ?_⟩⟩
  cases e1 : areAtomsM 0 bn with
  | false =>
    have eN : Dx07.rule? 0 bn hn = none := rule_none (p := 0) fun z => by
      rw [e1] at z
      exact Bool.false_ne_true z.1
    rw [step_one_bad eN] at k
    exact ⟨_, rfl, k H1 (SameX.of s1) (S.same s1)⟩
  | true =>
  refine ⟨_, rfl, ph, hn, 1, rfl, s1.seq hh, h24, fun H2 s2 => ⟨_, rfl, ?_⟩⟩
  have s12 := s1.trans s2
  cases e2 : areAtomsM 1 hn with
  | false =>
    have eN : Dx07.rule? 0 bn hn = none := rule_none (p := 0) fun z => by
      rw [show areAtomsM (0 + 1) hn = areAtomsM 1 hn from rfl, e2] at z
      exact Bool.false_ne_true z.2
    rw [step_one_bad eN] at k
    exact ⟨_, rfl, k H2 (SameX.of s12) (S.same s12)⟩
  | true =>
  have eS : Dx07.rule? 0 bn hn = some ⟨triplesM bn, triplesM hn⟩ := rule_some (p := 0) e1 e2
  have hF := fine_of (p := 0) e1 e2
  have ht1 := tables_of e1
  have ht2 := tables_of e2
  have h3b : bn.length % 3 = 0 := by
    unfold areAtomsM at e1
    simp only [Bool.and_eq_true, decide_eq_true_eq] at e1
    exact e1.1
  have h3h : hn.length % 3 = 0 := by
    unfold areAtomsM at e2
    simp only [Bool.and_eq_true, decide_eq_true_eq] at e2
    exact e2.1
  rw [step_one_ok eS] at k
  refine ⟨_, rfl, pb, bn, rfl, s12.seq hb, h3b, b24, fun H3 u1 s3 hu1 => ⟨_, rfl, ph, hn, rfl, (s12.trans s3).seq hh, h3h, h24, fun H4 u2 s4 hu2 => ⟨(by show 2 ≤ sizeLine; decide), fun q hq => ?_⟩⟩⟩
  have s5 := ((s12.trans s3).trans s4).trans (Same.new (o := .tup [u1, u2]) hq)
  have hR : RuleAt (upd H4 q (.tup [u1, u2])) (.ref q) ⟨triplesM bn, triplesM hn⟩ := tri_at (AtomsAt.mono ((SameT.of s4).trans (SameT.new hq)) hu1) (AtomsAt.mono (SameT.new hq) hu2) upd_same
  have hbl := hF.bl.2
  have hhl := hF.hl.2
  refine ⟨_, rfl, .ref q, _, rfl, hR, Nat.le_trans hbl (by decide), Nat.le_trans hhl (by decide), fun H5 p s6 _ hp => ⟨p, _, rfl, .inl (SqL.of' hp), _, _, rfl, rfl, _, rfl, ?_⟩⟩
  have s7 := s5.trans s6
  rw [nV_len, show decide ((0 : Int) < ((Rule.open_ ⟨triplesM bn, triplesM hn⟩).length : Int)) = decide (0 < (Rule.open_ ⟨triplesM bn, triplesM hn⟩).length) from nat_lt 0 _]
  by_cases eo : Rule.open_ ⟨triplesM bn, triplesM hn⟩ = []
  · rw [eo, List.length_nil, decide_eq_false (Nat.lt_irrefl 0)]
    rw [if_neg (fun z => z eo)] at k
    have S7 := S.same s7
    obtain ⟨dx, ha⟩ := S7.ob
    obtain ⟨xs, h1, pxs⟩ := S7.r1
    have elen : xs.length = h.book.one.length := Paired.len pxs
    refine ⟨_, rfl, a, CS, dx, _, _, rfl, ha, T.k_Service, T.a_Service_first_rules, sF_one l1 l2 l3, _, rfl, l1, xs, .ref q, rfl, h1, by rw [elen]; exact S.ok.n1, fun c => ?_, fun c => ?_⟩
    · rw [elen] at c
      rw [if_pos c] at k
      exact k H5 (SameX.of s7) S7
    · rw [elen] at c ⊢
      rw [if_neg c] at k
      have t1 : SameT H5 (upd H5 l1 (.lst (xs ++ [V.ref q]))) := SameT.lst h1
      refine k _ ((SameX.of s7).trans (SameX.set (List.Mem.head _))) ⟨⟨dx, ?_⟩, ⟨_, upd_same, ?_⟩, S7.r2.mono t1 fun o e => ?_, ?_, S.d12, S.d13, S.d23, ?_⟩
      · rw [upd_ne (ne_of ha h1 (by intro z; cases z))]
        exact ha
      · exact Paired.snoc (Paired.imp (fun _ _ k => RuleAt.mono t1 k) pxs) (RuleAt.mono ((SameT.of s6).trans t1) hR)
      · rw [upd_ne S.d12.symm]
        exact e
      · obtain ⟨fs, hf, pf⟩ := S7.sf
        exact ⟨fs, hf.mono t1 fun o e => by rw [upd_ne S.d13.symm]; exact e, pf⟩
      · have o := S.ok
        refine ⟨?_, o.n2, fun r hr => ?_, o.f2, fun r hr => ?_, o.t2, o.s5, o.so, o.sv⟩
        · show (h.book.one ++ [_]).length ≤ 2
          have := o.n1
          rw [List.length_append]
          show h.book.one.length + 1 ≤ 2
          omega
        · rcases List.mem_append.mp hr with z | z
          · exact o.f1 r z
          · rw [List.mem_singleton.mp z]
            exact hF
        · rcases List.mem_append.mp hr with z | z
          · exact o.t1 r z
          · rw [List.mem_singleton.mp z]
            exact ⟨ht1, ht2, eo⟩
  · have hpos : 0 < (Rule.open_ ⟨triplesM bn, triplesM hn⟩).length := List.length_pos_iff.mpr eo
    rw [decide_eq_true hpos]
    rw [if_pos eo] at k
    exact ⟨_, rfl, k H5 (SameX.of s7) (S.same s7)⟩
theorem ok_two (T : Top K mg CR CS) (c1 : C8.Cal P w K mg base 3 "are_atoms" (spAreAtoms K) []) (c2 : C8.Cal P w K mg base 1 "triples" (spTriples K) []) (c4 : C8.Cal P w K mg base 1 "index_when_added" spAdded []) :
    C8.Met P w K mg base 4 CS "two" (spTwo K CS) [] := by
  refine met_of T.k_Service T.m_Service_two sc_two (fun _ _ _ _ _ _ us hl => match us, hl with | [_, _, _], _ => rfl) (fun vs H Q E h => by obtain ⟨t, p, q, r, z, y, x, v, u, rfl, _⟩ := h; rfl) (fun f cdv A outer s H vs Q E hr h => ?_)
  obtain ⟨a, l1, l2, l3, pb, ph, h, bn, hn, rfl, S, hb, hh, b24, h24, k⟩ := h
  obtain ⟨t0, m0⟩ := T.c_MIDDLE_rules
  obtain ⟨t1, m1⟩ := T.c_END_rules
  obtain ⟨t2, m2⟩ := T.c_INVALID
  refine ⟨_, pss_cons (ps_if (PW.pt (pw_or (pt_not (pt_val (C8.pe_c c1 hr (by decide) rfl (pa_cons (pv 1) (pa_cons (pgI m0) pa_nil))))) (pw_or1 (pt_not (pt_val (C8.pe_c c1 hr (by decide) rfl (pa_cons (pv 2) (pa_cons (pgI m1) pa_nil))))))))
      (pss_one (ps_ret (pe_un un_neg (pgI m2)))) pss_nil)
    (pss_one (ps_ret (C8.pe_c c4 hr (by decide) rfl (pa_cons (pe_fld (pv 0) rfl) (pa_cons (pe_tup (pa_cons (C8.pe_c c2 hr (by decide) rfl (pa_cons (pv 1) pa_nil)) (pa_cons (C8.pe_c c2 hr (by decide) rfl (pa_cons (pv 2) pa_nil)) pa_nil))) pa_nil))))), ?_⟩
  refine ⟨_, rfl, pb, bn, 1, rfl, hb, b24, fun H1 s1 => ⟨_, rfl, ?_⟩⟩
  cases e1 : areAtomsM 1 bn with
  | false =>
    have eN : Dx07.rule? 2 bn hn = none := rule_none (p := 1) fun z => by
      rw [e1] at z
      exact Bool.false_ne_true z.1
    rw [step_two_bad eN] at k
    exact ⟨_, rfl, k H1 (SameX.of s1) (S.same s1)⟩
  | true =>
  refine ⟨_, rfl, ph, hn, 2, rfl, s1.seq hh, h24, fun H2 s2 => ⟨_, rfl, ?_⟩⟩
  have s12 := s1.trans s2
  cases e2 : areAtomsM 2 hn with
  | false =>
    have eN : Dx07.rule? 2 bn hn = none := rule_none (p := 1) fun z => by
      rw [show areAtomsM (1 + 1) hn = areAtomsM 2 hn from rfl, e2] at z
      exact Bool.false_ne_true z.2
    rw [step_two_bad eN] at k
    exact ⟨_, rfl, k H2 (SameX.of s12) (S.same s12)⟩
  | true =>
  have eS : Dx07.rule? 2 bn hn = some ⟨triplesM bn, triplesM hn⟩ := rule_some (p := 1) e1 e2
  have hF := fine_of (p := 1) e1 e2
  have ht1 := tables_of e1
  have ht2 := tables_of e2
  have h3b : bn.length % 3 = 0 := by
    unfold areAtomsM at e1
    simp only [Bool.and_eq_true, decide_eq_true_eq] at e1
    exact e1.1
  have h3h : hn.length % 3 = 0 := by
    unfold areAtomsM at e2
    simp only [Bool.and_eq_true, decide_eq_true_eq] at e2
    exact e2.1
  rw [step_two_ok eS] at k
  have S2 := S.same s12
  obtain ⟨dx0, ha0⟩ := S2.ob
  refine ⟨_, rfl, a, CS, dx0, _, _, rfl, ha0, T.k_Service, T.a_Service_second_rules, sF_two l1 l2 l3, _, rfl, pb, bn, rfl, s12.seq hb, h3b, b24, fun H3 u1 s3 hu1 => ⟨_, rfl, ph, hn, rfl, (s12.trans s3).seq hh, h3h, h24, fun H4 u2 s4 hu2 => ⟨(by show 2 ≤ sizeLine; decide), fun q hq => ?_⟩⟩⟩
  have s7 := ((s12.trans s3).trans s4).trans (Same.new (o := .tup [u1, u2]) hq)
  have hR : RuleAt (upd H4 q (.tup [u1, u2])) (.ref q) ⟨triplesM bn, triplesM hn⟩ := tri_at (AtomsAt.mono ((SameT.of s4).trans (SameT.new hq)) hu1) (AtomsAt.mono (SameT.new hq) hu2) upd_same
  have S7 := S.same s7
  obtain ⟨dx, ha⟩ := S7.ob
  obtain ⟨xs, h1, pxs⟩ := S7.r2
  have elen : xs.length = h.book.two.length := Paired.len pxs
  refine ⟨l2, xs, .ref q, rfl, h1, by rw [elen]; exact S.ok.n2, fun c => ?_, fun c => ?_⟩
  · rw [elen] at c
    rw [if_pos c] at k
    exact k _ (SameX.of s7) S7
  · rw [elen] at c ⊢
    rw [if_neg c] at k
    have t1 : SameT (upd H4 q (.tup [u1, u2])) (upd (upd H4 q (.tup [u1, u2])) l2 (.lst (xs ++ [V.ref q]))) := SameT.lst h1
    refine k _ ((SameX.of s7).trans (SameX.set (List.Mem.head _))) ⟨⟨dx, ?_⟩, S7.r1.mono t1 fun o e => ?_, ⟨_, upd_same, ?_⟩, ?_, S.d12, S.d13, S.d23, ?_⟩
    · rw [upd_ne (ne_of ha h1 (by intro z; cases z))]
      exact ha
    · rw [upd_ne S.d12]
      exact e
    · exact Paired.snoc (Paired.imp (fun _ _ k => RuleAt.mono t1 k) pxs) (RuleAt.mono t1 hR)
    · obtain ⟨fs, hf, pf⟩ := S7.sf
      exact ⟨fs, hf.mono t1 fun o e => by rw [upd_ne S.d23.symm]; exact e, pf⟩
    · have o := S.ok
      refine ⟨o.n1, ?_, o.f1, fun r hr => ?_, o.t1, fun r hr => ?_, o.s5, o.so, o.sv⟩
      · show (h.book.two ++ [_]).length ≤ 2
        have := o.n2
        rw [List.length_append]
        show h.book.two.length + 1 ≤ 2
        omega
      · rcases List.mem_append.mp hr with z | z
        · exact o.f2 r z
        · rw [List.mem_singleton.mp z]
          exact hF
      · rcases List.mem_append.mp hr with z | z
        · exact o.t2 r z
        · rw [List.mem_singleton.mp z]
          exact ⟨ht1, ht2⟩
/-! ### __init__, begins -/
def spSvcInit (CS : Addr) : Sp := fun vs H Q _ => ∃ (p dx : Addr), vs = [.ref p] ∧ H p = some (.ins CS dx []) ∧
  ∀ (H' : Hp) l1 l2 l3, SvcAt CS H' p l1 l2 l3 Dx07.init → SameBut p H H' → H l1 = none → H l2 = none → H l3 = none → Q .non H'
theorem sc_Service_init : FnScope ["self"] ["self"] (C8.fnScope s_Service_init) := C8.fnScope_by (by decide +kernel)
theorem sF_new (l1 l2 l3 : Addr) : putF "source_facts" (.ref l3) (putF "second_rules" (.ref l2) (putF "first_rules" (.ref l1) [])) = sF l1 l2 l3 := by
  have e : putF "second_rules" (.ref l2) (putF "first_rules" (.ref l1) []) = ([(Str.ofString "first_rules", V.ref l1), (Str.ofString "second_rules", V.ref l2)] : List (Str × V)) := (put_past (by decide +kernel)).trans rfl
  rw [e]
  exact (put_past (by decide +kernel)).trans (congrArg _ ((put_past (by decide +kernel)).trans rfl))
theorem ok_Service_init (T : Top K mg CR CS) : C8.Mak P w K mg base 1 "Service" CS (spSvcInit CS) [] := by
  refine mak_of T.g_Service T.m_Service_init sc_Service_init (fun _ _ _ _ _ _ us hl => match us, hl with | [_], _ => rfl) (fun vs H Q E h => by obtain ⟨t, p, rfl, _⟩ := h; rfl) (fun f cdv A outer s H vs Q E hr h => ?_)
  obtain ⟨p, dx, rfl, hp, k⟩ := h
  refine ⟨_, pss_cons (ps_fld (pv 0) (pe_lst pa_nil) rfl) (pss_cons (ps_fld (pv 0) (pe_lst pa_nil) rfl) (pss_one (ps_fld (pv 0) (pe_lst pa_nil) rfl))), ?_⟩
  refine ⟨Nat.zero_le _, fun l1 h1 => ?_⟩
  have n1 : p ≠ l1 := ne_of_none hp h1
  refine ⟨_, rfl, p, CS, dx, [], rfl, by rw [upd_ne n1]; exact hp, T.k_Service, T.a_Service_first_rules, (by show 0 < 1000; decide), ?_⟩
  refine ⟨Nat.zero_le _, fun l2 h2 => ?_⟩
  have n2 : p ≠ l2 := ne_of_none upd_same h2
  refine ⟨_, rfl, p, CS, dx, _, rfl, by rw [upd_ne n2]; exact upd_same, T.k_Service, T.a_Service_second_rules, (by show 1 < 1000; decide), ?_⟩
  refine ⟨Nat.zero_le _, fun l3 h3 => ?_⟩
  have n3 : p ≠ l3 := ne_of_none upd_same h3
  refine ⟨_, rfl, p, CS, dx, _, rfl, by rw [upd_ne n3]; exact upd_same, T.k_Service, T.a_Service_source_facts, (by show 2 < 1000; decide), ?_⟩
  have a12 : l1 ≠ l2 := by
    rintro rfl
    rw [upd_ne n1.symm, upd_same] at h2
    cases h2
  have a13 : l1 ≠ l3 := by
    rintro rfl
    rw [upd_ne n1.symm, upd_ne a12, upd_ne n1.symm, upd_same] at h3
    cases h3
  have a23 : l2 ≠ l3 := by
    rintro rfl
    rw [upd_ne n2.symm, upd_same] at h3
    cases h3
  have g1 : H l1 = none := h1
  have g2 : H l2 = none := by
    rw [upd_ne n2.symm, upd_ne a12.symm] at h2
    exact h2
  have g3 : H l3 = none := by
    rw [upd_ne n3.symm, upd_ne a23.symm, upd_ne n3.symm, upd_ne a13.symm] at h3
    exact h3
  refine k _ l1 l2 l3 ⟨⟨dx, ?_⟩, ⟨[], ?_, .nil⟩, ⟨[], ?_, .nil⟩, ⟨[], ⟨[], ?_, .nil⟩, .refl _⟩, a12, a13, a23, init_ok⟩ (fun b o hb e => ?_) g1 g2 g3
  · rw [upd_same]
    exact congrArg (fun z => some (HO.ins CS dx z)) (sF_new l1 l2 l3)
  · rw [upd_ne n1.symm, upd_ne a13, upd_ne n1.symm, upd_ne a12, upd_ne n1.symm, upd_same]
  · rw [upd_ne n2.symm, upd_ne a23, upd_ne n2.symm, upd_same]
  · rw [upd_ne n3.symm, upd_same]
  · rw [upd_ne hb, upd_ne (ne_of_none e g3), upd_ne hb, upd_ne (ne_of_none e g2), upd_ne hb, upd_ne (ne_of_none e g1)]
    exact e
def spBegins (CS : Addr) : Sp := fun vs H Q _ => ∃ (a l1 l2 l3 : Addr) (h : Dx07.House), vs = [.ref a] ∧ SvcAt CS H a l1 l2 l3 h ∧
  ∀ H', SameX [l1, l2, l3] H H' → SvcAt CS H' a l1 l2 l3 Dx07.init → Q (.int 0) H'
theorem sc_begins : FnScope ["self"] ["self"] (C8.fnScope s_Service_begins) := C8.fnScope_by (by decide +kernel)
theorem ok_begins (T : Top K mg CR CS) : C8.Met P w K mg base 1 CS "begins" (spBegins CS) [] := by
  refine met_of T.k_Service T.m_Service_begins sc_begins (fun _ _ _ _ _ _ us hl => match us, hl with | [_], _ => rfl) (fun vs H Q E h => by obtain ⟨t, p, q, r, z, rfl, _⟩ := h; rfl) (fun f cdv A outer s H vs Q E hr h => ?_)
  obtain ⟨a, l1, l2, l3, h, rfl, S, k⟩ := h
  refine ⟨_, pss_cons (ps_expr (pe_bm0 PySem.F.plainAttrs_list PySem.F.slot_list_clear PySem.F.type_list_clear mt_clear (pe_fld (pv 0) rfl)))
    (pss_cons (ps_expr (pe_bm0 PySem.F.plainAttrs_list PySem.F.slot_list_clear PySem.F.type_list_clear mt_clear (pe_fld (pv 0) rfl)))
    (pss_cons (ps_expr (pe_bm0 PySem.F.plainAttrs_list PySem.F.slot_list_clear PySem.F.type_list_clear mt_clear (pe_fld (pv 0) rfl)))
    (pss_one (ps_ret pe_int)))), ?_⟩
  obtain ⟨dx, ha⟩ := S.ob
  obtain ⟨xs1, h1, p1⟩ := S.r1
  obtain ⟨xs2, h2, p2⟩ := S.r2
  obtain ⟨fs, ⟨xs3, h3, p3⟩, pf⟩ := S.sf
  have n1 : a ≠ l1 := ne_of ha h1 (by intro z; cases z)
  have n2 : a ≠ l2 := ne_of ha h2 (by intro z; cases z)
  have n3 : a ≠ l3 := ne_of ha h3 (by intro z; cases z)
  refine ⟨_, rfl, a, CS, dx, _, _, rfl, ha, T.k_Service, T.a_Service_first_rules, sF_one l1 l2 l3, .inl ⟨rfl, _, SqL.of' h1⟩, l1, _, rfl, rfl, h1, ?_⟩
  have ha1 : (upd H l1 (.lst [])) a = some (.ins CS dx (sF l1 l2 l3)) := by
    rw [upd_ne n1]
    exact ha
  have h21 : (upd H l1 (.lst [])) l2 = some (.lst xs2) := by
    rw [upd_ne S.d12.symm]
    exact h2
  refine ⟨_, rfl, a, CS, dx, _, _, rfl, ha1, T.k_Service, T.a_Service_second_rules, sF_two l1 l2 l3, .inl ⟨rfl, _, SqL.of' h21⟩, l2, _, rfl, rfl, h21, ?_⟩
  have ha2 : (upd (upd H l1 (.lst [])) l2 (.lst [])) a = some (.ins CS dx (sF l1 l2 l3)) := by
    rw [upd_ne n2]
    exact ha1
  have h32 : (upd (upd H l1 (.lst [])) l2 (.lst [])) l3 = some (.lst xs3) := by
    rw [upd_ne S.d23.symm, upd_ne S.d13.symm]
    exact h3
  refine ⟨_, rfl, a, CS, dx, _, _, rfl, ha2, T.k_Service, T.a_Service_source_facts, sF_src l1 l2 l3, .inl ⟨rfl, _, SqL.of' h32⟩, l3, _, rfl, rfl, h32, ?_⟩
  refine k _ (((SameX.set (by simp)).trans (SameX.set (by simp))).trans (SameX.set (by simp))) ⟨⟨dx, ?_⟩, ⟨[], ?_, .nil⟩, ⟨[], ?_, .nil⟩, ⟨[], ⟨[], upd_same, .nil⟩, .refl _⟩, S.d12, S.d13, S.d23, init_ok⟩
  · rw [upd_ne n3]
    exact ha2
  · rw [upd_ne S.d13, upd_ne S.d12, upd_same]
  · rw [upd_ne S.d23, upd_same]
/-! ### fact, gone -/
theorem step_fact (h : Dx07.House) (t a b : Nat) : Dx07.step h (.fact t a b) = if 2 ≤ t ∨ 20 ≤ a ∨ 20 ≤ b then (h, Dx07.ok (-1)) else if h.source.contains ⟨t, a, b⟩ = true then (h, Dx07.ok (-4)) else if h.source.length = 5 then (h, Dx07.ok (-7)) else ({ h with source := Dx.put ⟨t, a, b⟩ h.source }, Dx07.ok (h.source.length + 1 : Nat)) := by
  simp only [Dx07.step]
  rfl
theorem step_gone (h : Dx07.House) (t a b : Nat) : Dx07.step h (.gone t a b) = if h.source.contains ⟨t, a, b⟩ = false then (h, Dx07.ok (-2)) else ({ h with source := h.source.filter fun f => f != ⟨t, a, b⟩ }, Dx07.ok (h.source.length - 1 : Nat)) := by
  simp only [Dx07.step]
def spFact (CS : Addr) : Sp := fun vs H Q _ => ∃ (p l1 l2 l3 : Addr) (h : Dx07.House) (t a b : Nat), vs = [.ref p, .int t, .int a, .int b] ∧ SvcAt CS H p l1 l2 l3 h ∧
  ∀ H', SameX [l3] H H' → SvcAt CS H' p l1 l2 l3 (Dx07.step h (.fact t a b)).1 → Q (.int (Dx07.step h (.fact t a b)).2.v) H'
def spGone (CS : Addr) : Sp := fun vs H Q _ => ∃ (p l1 l2 l3 : Addr) (h : Dx07.House) (t a b : Nat), vs = [.ref p, .int t, .int a, .int b] ∧ SvcAt CS H p l1 l2 l3 h ∧
  ∀ H', SameX [l3] H H' → SvcAt CS H' p l1 l2 l3 (Dx07.step h (.gone t a b)).1 → Q (.int (Dx07.step h (.gone t a b)).2.v) H'
theorem sc_fact : FnScope ["self", "table", "a", "b"] ["self", "table", "a", "b"] (C8.fnScope s_Service_fact) := C8.fnScope_by (by decide +kernel)
theorem sc_gone : FnScope ["self", "table", "a", "b"] ["self", "table", "a", "b"] (C8.fnScope s_Service_gone) := C8.fnScope_by (by decide +kernel)
/-- the source facts change at l3 -/
theorem SvcAt.facts {H : Hp} {a l1 l2 l3 : Addr} {h : Dx07.House} {xs ys : List V} {fs : List Fact} {src : List Fact} (S : SvcAt CS H a l1 l2 l3 h) (h3 : H l3 = some (.lst xs))
    (hy : Paired (FactAt H) ys fs) (pf : fs.Perm src) (ok : HouseOk { h with source := src }) : SvcAt CS (upd H l3 (.lst ys)) a l1 l2 l3 { h with source := src } where
  ob := by
    obtain ⟨dx, ha⟩ := S.ob
    exact ⟨dx, by rw [upd_ne (ne_of ha h3 (by intro z; cases z))]; exact ha⟩
  r1 := S.r1.mono (SameT.lst h3) fun o e => by
    rw [upd_ne S.d13]
    exact e
  r2 := S.r2.mono (SameT.lst h3) fun o e => by
    rw [upd_ne S.d23]
    exact e
  sf := ⟨fs, ⟨ys, upd_same, Paired.imp (fun _ _ k => FactAt.mono (SameT.lst h3) k) hy⟩, pf⟩
  d12 := S.d12
  d13 := S.d13
  d23 := S.d23
  ok := ok
theorem fact_ok {h : Dx07.House} (o : HouseOk h) {f : Fact} (hf : f.t < 2 ∧ f.a < 20 ∧ f.b < 20) (hc : f ∉ h.source) (hl : h.source.length ≠ 5) : HouseOk { h with source := Dx.put f h.source } := by
  refine ⟨o.n1, o.n2, o.f1, o.f2, o.t1, o.t2, ?_, put_sorted f o.so, fun g hg => ?_⟩
  · show (Dx.put f h.source).length ≤ 5
    rw [(put_perm hc).length_eq, List.length_cons]
    have := o.s5
    omega
  · rcases put_mem hg with z | z
    · rw [z]
      exact hf
    · exact o.sv g z
theorem gone_ok {h : Dx07.House} (o : HouseOk h) (p : Fact → Bool) : HouseOk { h with source := h.source.filter p } := by
  refine ⟨o.n1, o.n2, o.f1, o.f2, o.t1, o.t2, Nat.le_trans (List.length_filter_le _ _) o.s5, List.Pairwise.filter _ o.so, fun g hg => o.sv g (List.mem_filter.mp hg).1⟩
theorem contains_perm {l m : List Fact} (h : l.Perm m) (f : Fact) : l.contains f = m.contains f := h.contains_eq
/-- the fact is looked up among the source facts -/
theorem facts_in {H : Hp} {q l3 : Addr} {xs : List V} {fs : List Fact} {t a b : Nat} (hq : H q = some (.tup [.int t, .int a, .int b])) (h3 : H l3 = some (.lst xs)) (p : Paired (FactAt H) xs fs) :
    Dp K H (.ref q) (dFact ⟨t, a, b⟩) ∧ Dp K H (.ref l3) (.list (fs.map dFact)) ∧ SeqAt.shaped (dFact ⟨t, a, b⟩) = true ∧ SeqAt.shaped (.list (fs.map dFact)) = true :=
  ⟨TriAt.dp ⟨q, rfl, hq⟩, .lst (SqL.of' h3) (dp_all (d := dFact) (fun _ _ k => TriAt.dp k) p), shaped_tri _ _ _, shaped_list (fun a => dTri_lay _ _ _) (fun a => by show (dTri a.t a.a a.b).depth ≤ 63; rw [dTri_depth]; decide) _⟩
theorem ok_fact (T : Top K mg CR CS) (c1 : C8.Cal P w K mg base 2 "is_source_fact" spSource []) : C8.Met P w K mg base 3 CS "fact" (spFact CS) [] := by
  refine met_of T.k_Service T.m_Service_fact sc_fact (fun _ _ _ _ _ _ us hl => match us, hl with | [_, _, _, _], _ => rfl) (fun vs H Q E h => by obtain ⟨t, p, q, r, z, y, x, v, rfl, _⟩ := h; rfl) (fun f cdv A outer s H0 vs Q E hr h => ?_)
  obtain ⟨p, l1, l2, l3, h, t, a, b, rfl, S0, k0⟩ := h
  obtain ⟨t2, m2⟩ := T.c_INVALID
  obtain ⟨t4, m4⟩ := T.c_EXISTS
  obtain ⟨t5, m5⟩ := T.c_MOST_FACTS
  obtain ⟨t7, m7⟩ := T.c_FULL
  refine ⟨_, pss_cons (ps_if (pt_not (pt_val (C8.pe_c c1 hr (by decide) rfl (pa_cons (pe_tup (pa_cons (pv 1) (pa_cons (pv 2) (pa_cons (pv 3) pa_nil)))) pa_nil)))) (pss_one (ps_ret (pe_un un_neg (pgI m2)))) pss_nil)
    (pss_cons (ps_if (pt_cmpR (op_inD (hu65 hr)) (pe_tup (pa_cons (pv 1) (pa_cons (pv 2) (pa_cons (pv 3) pa_nil)))) (pe_fld (pv 0) rfl) rfl) (pss_one (ps_ret (pe_un un_neg (pgI m4)))) pss_nil)
    (pss_cons (ps_if (pt_cmpR op_eq (pe_len K rfl T.b_len (pe_fld (pv 0) rfl)) (pgI m5) (nomark _)) (pss_one (ps_ret (pe_un un_neg (pgI m7)))) pss_nil)
    (pss_cons (ps_expr (pe_bm PySem.F.plainAttrs_list PySem.F.slot_list_append PySem.F.type_list_append mt_append (pe_fld (pv 0) rfl) (pa_cons (pe_tup (pa_cons (pv 1) (pa_cons (pv 2) (pa_cons (pv 3) pa_nil)))) pa_nil)))
    (pss_one (ps_ret (pe_len K rfl T.b_len (pe_fld (pv 0) rfl))))))), ?_⟩
  rw [step_fact] at k0
  refine ⟨_, rfl, _, rfl, _, rfl, (by show 3 ≤ sizeLine; decide), fun q0 hq0 => ?_⟩
  have s0 : Same H0 (upd H0 q0 (.tup [.int t, .int a, .int b])) := Same.new hq0
  refine ⟨.ref q0, ⟨t, a, b⟩, rfl, ⟨q0, rfl, upd_same⟩, _, rfl, ?_⟩
  have S := S0.same s0
  have k : ∀ H', SameX [l3] (upd H0 q0 (.tup [.int t, .int a, .int b])) H' → _ → _ := fun H' s1 => k0 H' ((SameX.of s0).trans s1)
  generalize upd H0 q0 (.tup [.int t, .int a, .int b]) = H at S k
  obtain ⟨dx, ha⟩ := S.ob
  obtain ⟨fs, ⟨xs, h3, p3⟩, pf⟩ := S.sf
  have elen : xs.length = h.source.length := (Paired.len p3).trans pf.length_eq
  have src : sourceM ⟨t, a, b⟩ = decide (¬ (2 ≤ t ∨ 20 ≤ a ∨ 20 ≤ b)) := by
    unfold sourceM
    rw [Bool.eq_iff_iff]
    simp only [Bool.and_eq_true, decide_eq_true_eq]
    omega
  rw [src]
  by_cases bad : 2 ≤ t ∨ 20 ≤ a ∨ 20 ≤ b
  · rw [decide_eq_false (fun z => z bad)]
    rw [if_pos bad] at k
    exact ⟨_, rfl, k H (SameX.refl _ _) S⟩
  · rw [decide_eq_true bad]
    rw [if_neg bad] at k
    refine ⟨_, rfl, _, rfl, _, rfl, (by show 3 ≤ sizeLine; decide), fun q hq => ?_⟩
    have s1 : Same H (upd H q (.tup [.int t, .int a, .int b])) := Same.new hq
    have S1 := S.same s1
    have h31 := s1 _ _ h3
    have p31 := Paired.imp (fun _ _ k => FactAt.mono (SameT.of s1) k) p3
    obtain ⟨d1, d2, d3, d4⟩ := facts_in (K := K) upd_same h31 p31
    refine ⟨_, rfl, p, CS, dx, _, _, rfl, s1 _ _ ha, T.k_Service, T.a_Service_source_facts, sF_src l1 l2 l3, _, _, d1, d2, d3, d4, _, rfl, ?_⟩
    rw [any_eqv dFact_eqv, contains_perm pf]
    by_cases c4 : h.source.contains ⟨t, a, b⟩ = true
    · rw [c4]
      rw [if_pos c4] at k
      exact ⟨_, rfl, k _ (SameX.of s1) S1⟩
    · rw [Bool.not_eq_true] at c4
      rw [c4]
      rw [if_neg (by rw [c4]; exact Bool.false_ne_true)] at k
      refine ⟨_, rfl, p, CS, dx, _, _, rfl, s1 _ _ ha, T.k_Service, T.a_Service_source_facts, sF_src l1 l2 l3, l3, xs, rfl, .inl (SqL.of' h31), rfl, _, rfl, ?_⟩
      rw [show decide (V.int (xs.length : Int) = V.int 5) = decide (xs.length = 5) from int_dec xs.length 5, elen]
      by_cases c5 : h.source.length = 5
      · rw [decide_eq_true c5]
        rw [if_pos c5] at k
        exact ⟨_, rfl, k _ (SameX.of s1) S1⟩
      · rw [decide_eq_false c5]
        rw [if_neg c5] at k
        refine ⟨_, rfl, p, CS, dx, _, _, rfl, s1 _ _ ha, T.k_Service, T.a_Service_source_facts, sF_src l1 l2 l3, .inl ⟨rfl, _, SqL.of' h31⟩, _, rfl, _, rfl, _, rfl, (by show 3 ≤ sizeLine; decide), fun q2 hq2 => ?_⟩
        have s2 : Same H (upd (upd H q (.tup [.int t, .int a, .int b])) q2 (.tup [.int t, .int a, .int b])) := s1.trans (Same.new hq2)
        have h32 := s2 _ _ h3
        have S2 := S.same s2
        have hns : (⟨t, a, b⟩ : Fact) ∉ h.source := fun z => by
          rw [List.contains_iff_mem.mpr z] at c4
          cases c4
        refine ⟨l3, xs, _, rfl, rfl, h32, line_small (by have := S.ok.s5; omega), ?_⟩
        have ha3 : (upd (upd (upd H q (.tup [.int t, .int a, .int b])) q2 (.tup [.int t, .int a, .int b])) l3 (.lst (xs ++ [V.ref q2]))) p = some (.ins CS dx (sF l1 l2 l3)) := by
          rw [upd_ne (ne_of (s2 _ _ ha) h32 (by intro z; cases z))]
          exact s2 _ _ ha
        refine ⟨_, rfl, p, CS, dx, _, _, rfl, ha3, T.k_Service, T.a_Service_source_facts, sF_src l1 l2 l3, l3, _, rfl, .inl (SqL.of' upd_same), ?_⟩
        have e : (((xs ++ [V.ref q2]).length : Nat) : Int) = ((h.source.length + 1 : Nat) : Int) := by
          rw [List.length_append, elen]
          rfl
        show Q (.int (((xs ++ [V.ref q2]).length : Nat) : Int)) _
        rw [e]
        refine k _ ((SameX.of s2).trans (SameX.set (List.Mem.head _))) ?_
        refine S2.facts (src := Dx.put ⟨t, a, b⟩ h.source) h32 (fs := fs ++ [⟨t, a, b⟩]) (Paired.snoc (Paired.imp (fun _ _ k => FactAt.mono (SameT.of s2) k) p3) ⟨q2, rfl, upd_same⟩) ?_ (fact_ok S.ok ⟨by show t < 2; omega, by show a < 20; omega, by show b < 20; omega⟩ hns c5)
        exact ((List.perm_append_singleton _ _).trans (pf.cons _)).trans (put_perm hns).symm
theorem place_eq (fs : List Fact) (f : Fact) : SeqAt.dataPlace (fs.map dFact) (dFact f) = fs.idxOf? f := by
  unfold SeqAt.dataPlace List.idxOf?
  rw [List.findIdx?_map]
  congr 1
  funext g
  show PyData.eqv (dFact g) (dFact f) = (g == f)
  rw [dFact_eqv]
  exact (Bool.beq_eq_decide_eq g f).symm
theorem plain_all {α : Type} {d : α → PyData} (h : ∀ a, (d a).plain = true) : ∀ l : List α, PyData.plainAll (l.map d) = true
  | [] => by simp [PyData.plainAll]
  | a :: l => by simp [PyData.plainAll, h a, plain_all h l]
theorem dFact_plain (f : Fact) : (dFact f).plain = true := by simp [dFact, dTri, PyData.plain, PyData.plainAll]
theorem paired_erase {α β : Type} {F : α → β → Prop} : ∀ {l : List α} {m : List β} (j : Nat), Paired F l m → Paired F (l.eraseIdx j) (m.eraseIdx j)
  | _, _, _, .nil => .nil
  | _, _, 0, .cons _ t => t
  | _, _, j + 1, .cons h t => .cons h (paired_erase j t)
theorem erase_perm {fs : List Fact} {h : Dx07.House} {f : Fact} {j : Nat} (o : HouseOk h) (pf : fs.Perm h.source) (hj : fs.idxOf? f = some j) : (fs.eraseIdx j).Perm (h.source.filter fun g => g != f) := by
  have e : fs.eraseIdx j = fs.erase f := by
    rw [List.erase_eq_eraseIdx, hj]
  rw [e, ← (sorted_nodup o.so).erase_eq_filter]
  exact pf.erase f
theorem ok_gone (T : Top K mg CR CS) : C8.Met P w K mg base 2 CS "gone" (spGone CS) [] := by
  refine met_of T.k_Service T.m_Service_gone sc_gone (fun _ _ _ _ _ _ us hl => match us, hl with | [_, _, _, _], _ => rfl) (fun vs H Q E h => by obtain ⟨t, p, q, r, z, y, x, v, rfl, _⟩ := h; rfl) (fun f cdv A outer s H vs Q E hr h => ?_)
  obtain ⟨p, l1, l2, l3, h, t, a, b, rfl, S, k⟩ := h
  obtain ⟨t2, m2⟩ := T.c_NOT_THERE
  have hu66 : A.units + 3 + 66 < cLine := by
    have := hr.un
    have e : (A.deeper (envOfC "Service.gone" (C8.fnScope s_Service_gone) s.heap.objs.size f cdv)).units = A.units + 3 := rfl
    rw [e] at this
    omega
  refine ⟨_, pss_cons (ps_if (pt_cmpR (op_notInD (hu65 hr)) (pe_tup (pa_cons (pv 1) (pa_cons (pv 2) (pa_cons (pv 3) pa_nil)))) (pe_fld (pv 0) rfl) rfl) (pss_one (ps_ret (pe_un un_neg (pgI m2)))) pss_nil)
    (pss_cons (ps_expr (pe_bm PySem.F.plainAttrs_list PySem.F.slot_list_remove PySem.F.type_list_remove (mt_remD hu66) (pe_fld (pv 0) rfl) (pa_cons (pe_tup (pa_cons (pv 1) (pa_cons (pv 2) (pa_cons (pv 3) pa_nil)))) pa_nil)))
    (pss_one (ps_ret (pe_len K rfl T.b_len (pe_fld (pv 0) rfl))))), ?_⟩
  rw [step_gone] at k
  obtain ⟨dx, ha⟩ := S.ob
  obtain ⟨fs, ⟨xs, h3, p3⟩, pf⟩ := S.sf
  have elen : xs.length = h.source.length := (Paired.len p3).trans pf.length_eq
  refine ⟨_, rfl, _, rfl, _, rfl, (by show 3 ≤ sizeLine; decide), fun q hq => ?_⟩
  have s1 : Same H (upd H q (.tup [.int t, .int a, .int b])) := Same.new hq
  have h31 := s1 _ _ h3
  obtain ⟨d1, d2, d3, d4⟩ := facts_in (K := K) upd_same h31 (Paired.imp (fun _ _ k => FactAt.mono (SameT.of s1) k) p3)
  refine ⟨_, rfl, p, CS, dx, _, _, rfl, s1 _ _ ha, T.k_Service, T.a_Service_source_facts, sF_src l1 l2 l3, _, _, d1, d2, d3, d4, _, rfl, ?_⟩
  rw [any_eqv dFact_eqv, contains_perm pf]
  cases c4 : h.source.contains ⟨t, a, b⟩ with
  | false =>
    rw [if_pos c4] at k
    exact ⟨_, rfl, k _ (SameX.of s1) (S.same s1)⟩
  | true =>
    rw [if_neg (by rw [c4]; exact fun z => Bool.false_ne_true z.symm)] at k
    have hin : (⟨t, a, b⟩ : Fact) ∈ fs := pf.mem_iff.mpr (List.contains_iff_mem.mp c4)
    obtain ⟨j, hj⟩ : ∃ j, fs.idxOf? ⟨t, a, b⟩ = some j := by
      cases e : fs.idxOf? ⟨t, a, b⟩ with
      | none => exact absurd hin (List.idxOf?_eq_none_iff.mp e)
      | some j => exact ⟨j, rfl⟩
    refine ⟨_, rfl, p, CS, dx, _, _, rfl, s1 _ _ ha, T.k_Service, T.a_Service_source_facts, sF_src l1 l2 l3, .inl ⟨rfl, _, SqL.of' h31⟩, _, rfl, _, rfl, _, rfl, (by show 3 ≤ sizeLine; decide), fun q2 hq2 => ?_⟩
    have s2 : Same H (upd (upd H q (.tup [.int t, .int a, .int b])) q2 (.tup [.int t, .int a, .int b])) := s1.trans (Same.new hq2)
    have h32 := s2 _ _ h3
    have p32 := Paired.imp (fun _ _ k => FactAt.mono (SameT.of s2) k) p3
    obtain ⟨g1, g2, _, _⟩ := facts_in (K := K) upd_same h32 p32
    have hdep : PyData.depthAll (fs.map dFact) ≤ 64 := Nat.le_trans (depth_all (n := 1) (d := dFact) (fun a => Nat.le_of_eq (dTri_depth _ _ _)) fs) (by decide)
    refine ⟨l3, xs, _, dFact ⟨t, a, b⟩, fs.map dFact, j, rfl, rfl, h32, dp_all (d := dFact) (fun _ _ k => TriAt.dp k) p32, g1, plain_all dFact_plain _, dFact_plain _, hdep, (place_eq fs _).trans hj, ?_⟩
    have ha3 : (upd (upd (upd H q (.tup [.int t, .int a, .int b])) q2 (.tup [.int t, .int a, .int b])) l3 (.lst (xs.eraseIdx j))) p = some (.ins CS dx (sF l1 l2 l3)) := by
      rw [upd_ne (ne_of (s2 _ _ ha) h32 (by intro z; cases z))]
      exact s2 _ _ ha
    refine ⟨_, rfl, p, CS, dx, _, _, rfl, ha3, T.k_Service, T.a_Service_source_facts, sF_src l1 l2 l3, l3, _, rfl, .inl (SqL.of' upd_same), ?_⟩
    have pe := erase_perm S.ok pf hj
    have hjl : j < fs.length := by
      obtain ⟨hjl, _⟩ := List.findIdx?_eq_some_iff_getElem.mp (show fs.findIdx? (fun x => x == ⟨t, a, b⟩) = some j from hj)
      exact hjl
    have e : (((xs.eraseIdx j).length : Nat) : Int) = ((h.source.length - 1 : Nat) : Int) := by
      rw [List.length_eraseIdx, if_pos (by rw [Paired.len p3]; exact hjl), elen]
    show Q (.int (((xs.eraseIdx j).length : Nat) : Int)) _
    rw [e]
    exact k _ ((SameX.of s2).trans (SameX.set (List.Mem.head _))) ((S.same s2).facts h32 (paired_erase j p32) pe (gone_ok S.ok _))
/-! ### composed -/
def rowsOf (c : List Rule) : List Nat := c.flatMap fun r => Dx07.atomsRow r.body ++ Dx07.atomsRow r.head
def atomsNums (l : List Atom) : List Nat := l.flatMap fun a => [a.t, a.x, a.y]
def spComposed (CS : Addr) : Sp := fun vs H Q _ => ∃ (a l1 l2 l3 : Addr) (h : Dx07.House), vs = [.ref a] ∧ SvcAt CS H a l1 l2 l3 h ∧ (rowsOf h.book.composed).length ≤ 90000 ∧
  ∀ H' p, Same H H' → H' p = some (.lst (nV (h.book.composed.length :: rowsOf h.book.composed))) → H p = none → Q (.ref p) H'
theorem sc_composed : FnScope ["self", "rules", "numbers", "rule", "atoms", "atom"] ["self"] (C8.fnScope s_Service_composed) := C8.fnScope_by (by decide +kernel)
/-- the atoms' loop: numbers grow by an atom's three -/
theorem atoms_loop {H0 : Hp} {np : Addr} {pre : List Nat} {l : List Atom} {xs : List V} {v0 v1 v3 v5 : Option V} {H1 : Hp} {D : Ends} (hq0 : H0 np = none) (s1 : Same H0 H1) (hn : H1 np = some (.lst (nV pre))) {q : Addr} (hq : H1 q = some (.tup xs)) (px : Paired (AtomAt H1) xs l)
    (hlen : pre.length + 3 * l.length ≤ 100000) (k : ∀ H2 v5, Same H0 H2 → SameT H1 H2 → H2 np = some (.lst (nV (pre ++ atomsNums l))) → D.nx [v0, v1, some (.ref np), v3, some (.ref q), v5] H2) :
    tFor (iTup K (tVar 4)) (gName 5) (tDrop (tBM K "list" (rExtT K) (tVar 2) (tCons (tVar 5) tNil))) D [v0, v1, some (.ref np), v3, some (.ref q), v5] H1 := by
  refine ⟨_, rfl, q, rfl, ⟨_, SqT.of' hq⟩, for_tup (xs := xs) (fun i σ H' => ∃ v5 : Option V, σ = [v0, v1, some (.ref np), v3, some (.ref q), v5] ∧ Same H0 H' ∧ SameT H1 H' ∧ H' np = some (.lst (nV (pre ++ atomsNums (l.take i)))))
    ⟨v5, rfl, s1, SameT.refl _, by rw [List.take_zero]; show _ = some (HO.lst (nV (pre ++ []))); rw [List.append_nil]; exact hn⟩ (fun i σ H' _ ⟨_, _, _, t, _⟩ => SqT.of' (t _ _ hq)) ?_ ?_⟩
  · rintro i x σ H2 hx ⟨v5, rfl, s2, t2, hn2⟩
    obtain ⟨at_, hat, hA⟩ := Paired.get px hx
    obtain ⟨z, rfl, hz⟩ := AtomAt.mono t2 hA
    have e3 : (atomsNums (l.take i)).length = 3 * (l.take i).length := by
      unfold atomsNums
      generalize l.take i = m
      induction m with
      | nil => rfl
      | cons a m ih =>
        rw [List.flatMap_cons, List.length_append, ih]
        show 3 + 3 * m.length = 3 * (m.length + 1)
        omega
    have hil := (List.getElem?_eq_some_iff.mp hat).1
    refine ⟨_, rfl, .inl ⟨rfl, _, SqL.of' hn2⟩, _, rfl, np, z, _, _, rfl, rfl, hn2, SqT.of' hz, ?_, ?_⟩
    · refine Nat.le_of_lt (line_small ?_)
      rw [nV_len, List.length_append, e3, List.length_take]
      show _ + 3 ≤ _
      omega
    · refine ⟨_, rfl, Same.step s2 hq0, t2.trans (SameT.lst hn2), ?_⟩
      rw [upd_same, take_more hat]
      unfold atomsNums nV
      rw [List.flatMap_append, ← List.append_assoc, List.map_append (l₁ := pre ++ _)]
      rfl
  · rintro σ H2 ⟨v5, rfl, s2, t2, hn2⟩
    rw [Paired.len px, List.take_length] at hn2
    exact k H2 v5 s2 t2 hn2
theorem rowsOf_more {c : List Rule} {i : Nat} {r : Rule} (h : c[i]? = some r) : rowsOf (c.take (i + 1)) = rowsOf (c.take i) ++ (Dx07.atomsRow r.body ++ Dx07.atomsRow r.head) := by
  unfold rowsOf
  rw [take_more h, List.flatMap_append]
  simp
theorem rowsOf_take (c : List Rule) (i : Nat) : (rowsOf (c.take i)).length ≤ (rowsOf c).length := take_flat_len _ c i
theorem atomsNums_len : ∀ l : List Atom, (atomsNums l).length = 3 * l.length
  | [] => rfl
  | a :: l => by
    have ih := atomsNums_len l
    show (a.t :: a.x :: a.y :: atomsNums l).length = 3 * (l.length + 1)
    rw [List.length_cons, List.length_cons, List.length_cons, ih]
    omega
/-! ### rules_without_middle -/
def spRules (CS : Addr) : Sp := fun vs H Q _ => ∃ (a l1 l2 l3 : Addr) (h : Dx07.House), vs = [.ref a] ∧ SvcAt CS H a l1 l2 l3 h ∧ ∀ H' p ys, Same H H' → H' p = some (.lst ys) → H p = none → Paired (RuleAt H') ys h.book.composed → Q (.ref p) H'
theorem sc_without : FnScope ["self"] ["self"] (C8.fnScope s_Service_rules_without_middle) := C8.fnScope_by (by decide +kernel)
theorem ok_without (T : Top K mg CR CS) (c1 : C8.Cal P w K mg base 4 "composed_rules" spComposedRules []) : C8.Met P w K mg base 5 CS "rules_without_middle" (spRules CS) [] := by
  refine met_of T.k_Service T.m_Service_rules_without_middle sc_without (fun _ _ _ _ _ _ us hl => match us, hl with | [_], _ => rfl) (fun vs H Q E h => by obtain ⟨t, p, q, r, z, rfl, _⟩ := h; rfl) (fun f cdv A outer s H vs Q E hr h => ?_)
  obtain ⟨a, l1, l2, l3, h, rfl, S, k⟩ := h
  refine ⟨_, pss_one (ps_ret (C8.pe_c c1 hr (by decide) rfl (pa_cons (pe_fld (pv 0) rfl) (pa_cons (pe_fld (pv 0) rfl) pa_nil)))), ?_⟩
  obtain ⟨dx, ha⟩ := S.ob
  exact ⟨_, rfl, a, CS, dx, _, _, rfl, ha, T.k_Service, T.a_Service_first_rules, sF_one l1 l2 l3, _, rfl, a, CS, dx, _, _, rfl, ha, T.k_Service, T.a_Service_second_rules, sF_two l1 l2 l3,
    l1, l2, h.book.one, h.book.two, rfl, S.r1, S.r2, S.ok.n1, S.ok.n2, S.ok.f1, S.ok.f2, fun H1 p ys s1 hp hpn py => k H1 p ys s1 hp hpn py⟩
theorem ok_composed (T : Top K mg CR CS) (c1 : C8.Met P w K mg base 5 CS "rules_without_middle" (spRules CS) []) : C8.Met P w K mg base 6 CS "composed" (spComposed CS) [] := by
  refine met_of T.k_Service T.m_Service_composed sc_composed (fun _ _ _ _ _ _ us hl => match us, hl with | [_], _ => rfl) (fun vs H Q E h => by obtain ⟨t, p, q, r, z, rfl, _⟩ := h; rfl) (fun f cdv A outer s H vs Q E hr h => ?_)
  obtain ⟨a, l1, l2, l3, h, rfl, S, hlen, k⟩ := h
  refine ⟨_, pss_cons (ps_set (i := 1) sc_composed.nd rfl (Or.inl rfl) (C8.pe_mt0 c1 hr (by decide) (pv 0)))
    (pss_cons (ps_set (i := 2) sc_composed.nd rfl (Or.inl rfl) (pe_lst (pa_cons (pe_len K rfl T.b_len (pv 1)) pa_nil)))
    (pss_cons (ps_for PassesOwn.never rfl (pi_list (pv 1)) (pg_name (i := 3) sc_composed.nd rfl (Or.inl rfl))
      (pss_one (ps_for PassesOwn.never rfl (pi_tup (pv 3)) (pg_name (i := 4) sc_composed.nd rfl (Or.inl rfl))
        (pss_cons (ps_expr (pe_bm PySem.F.plainAttrs_list PySem.F.slot_list_append PySem.F.type_list_append mt_append (pv 2) (pa_cons (pe_len K rfl T.b_len (pv 4)) pa_nil)))
        (pss_one (ps_for PassesOwn.never rfl (pi_tup (pv 4)) (pg_name (i := 5) sc_composed.nd rfl (Or.inl rfl))
          (pss_one (ps_expr (pe_bm PySem.F.plainAttrs_list PySem.F.slot_list_extend PySem.F.type_list_extend mt_extT (pv 2) (pa_cons (pv 5) pa_nil))))))))))
    (pss_one (ps_ret (pv 2))))), ?_⟩
  obtain ⟨dx, ha⟩ := S.ob
  refine ⟨_, rfl, a, dx, _, rfl, ha, sF_none l1 l2 l3 (by decide +kernel) (by decide +kernel) (by decide +kernel), a, l1, l2, l3, h, rfl, S, fun H1 p ys s1 hp hpn py => ?_⟩
  have epy : ys.length = h.book.composed.length := Paired.len py
  refine ⟨_, rfl, p, ys, rfl, .inl (SqL.of' hp), (by show 1 ≤ sizeLine; decide), fun np hnp => ?_⟩
  have s2 : Same H1 (upd H1 np (.lst [V.int (ys.length : Int)])) := Same.new hnp
  have e0 : [V.int (ys.length : Int)] = nV (h.book.composed.length :: rowsOf (h.book.composed.take 0)) := by
    rw [epy]
    rfl
  refine ⟨_, rfl, p, rfl, ⟨_, SqL.of' (s2 _ _ hp)⟩, for_list (xs := ys) (fun i σ H' => ∃ v3 v4 v5 : Option V, σ = [some (.ref a), some (.ref p), some (.ref np), v3, v4, v5] ∧ Same H1 H' ∧
    H' np = some (.lst (nV (h.book.composed.length :: rowsOf (h.book.composed.take i))))) ⟨none, none, none, rfl, s2, by rw [upd_same, e0]⟩ (fun i σ H' _ ⟨_, _, _, _, t, _⟩ => SqL.of' (t _ _ hp)) ?_ ?_⟩
  · rintro i x σ H2 hx ⟨v3, v4, v5, rfl, s3, hn⟩
    obtain ⟨r, hr2, hR⟩ := Paired.get py hx
    obtain ⟨q, b, d, rfl, hq, hb, hd⟩ := RuleAt.mono (SameT.of s3) hR
    obtain ⟨qb, bs, rfl, hqb, pb⟩ := id hb
    obtain ⟨qd, ds, rfl, hqd, pd⟩ := id hd
    have hmore : rowsOf (h.book.composed.take (i + 1)) = rowsOf (h.book.composed.take i) ++ (Dx07.atomsRow r.body ++ Dx07.atomsRow r.head) := rowsOf_more hr2
    have htake := rowsOf_take h.book.composed (i + 1)
    rw [hmore, List.length_append, List.length_append] at htake
    have hlb : (Dx07.atomsRow r.body).length = 1 + 3 * r.body.length := by
      show (r.body.length :: atomsNums r.body).length = _
      rw [List.length_cons, atomsNums_len]
      omega
    have hld : (Dx07.atomsRow r.head).length = 1 + 3 * r.head.length := by
      show (r.head.length :: atomsNums r.head).length = _
      rw [List.length_cons, atomsNums_len]
      omega
    refine ⟨_, rfl, q, rfl, ⟨_, SqT.of' hq⟩, for_tup (xs := [.ref qb, .ref qd]) (fun j σ H' => ∃ v4 v5 : Option V, σ = [some (.ref a), some (.ref p), some (.ref np), some (.ref q), v4, v5] ∧ Same H1 H' ∧ SameT H2 H' ∧
      H' np = some (.lst (nV (h.book.composed.length :: (rowsOf (h.book.composed.take i) ++ ([Dx07.atomsRow r.body, Dx07.atomsRow r.head].take j).flatten))))) ⟨v4, v5, rfl, s3, SameT.refl _, by rw [List.take_zero, List.flatten_nil, List.append_nil]; exact hn⟩ (fun j σ H' _ ⟨_, _, _, _, t, _⟩ => SqT.of' (t _ _ hq)) ?_ ?_⟩
    · have turn : ∀ (v4 v5 : Option V) (H3 : Hp) (pre : List Nat) (l : List Atom) (ql : Addr) (xs : List V) (D : Ends), Same H1 H3 → SameT H2 H3 → H3 np = some (.lst (nV pre)) → H3 ql = some (.tup xs) → Paired (AtomAt H3) xs l → pre.length + (1 + 3 * l.length) ≤ 100000 →
          (∀ H4 v5, Same H1 H4 → SameT H2 H4 → H4 np = some (.lst (nV (pre ++ Dx07.atomsRow l))) → D.nx [some (.ref a), some (.ref p), some (.ref np), some (.ref q), some (.ref ql), v5] H4) →
          tSeq (tDrop (tBM K "list" rAppend (tVar 2) (tCons (tCB (rLen K) (tCons (tVar 4) tNil)) tNil))) (tFor (iTup K (tVar 4)) (gName 5) (tDrop (tBM K "list" (rExtT K) (tVar 2) (tCons (tVar 5) tNil)))) D [some (.ref a), some (.ref p), some (.ref np), some (.ref q), some (.ref ql), v5] H3 := by
        intro v4 v5 H3 pre l ql xs D s5 t5 hn5 hql pl hle kk
        have elx : xs.length = l.length := Paired.len pl
        refine ⟨_, rfl, .inl ⟨rfl, _, SqL.of' hn5⟩, _, rfl, ql, xs, rfl, .inr (SqT.of' hql), np, _, _, rfl, rfl, hn5, line_small (by rw [nV_len]; omega), ?_⟩
        have t6 : SameT H3 (upd H3 np (.lst (nV pre ++ [V.int (xs.length : Int)]))) := SameT.lst hn5
        refine atoms_loop (H0 := H1) (pre := pre ++ [l.length]) hnp (Same.step s5 hnp) (by rw [upd_same, elx, nV_snoc]) (q := ql) (t6 _ _ hql) (Paired.imp (fun _ _ k => AtomAt.mono t6 k) pl) (by rw [List.length_append]; show pre.length + 1 + _ ≤ _; omega) fun H4 v5 s7 t7 hn7 => ?_
        refine kk H4 v5 s7 (t5.trans (t6.trans t7)) ?_
        rw [hn7, List.append_assoc]
        rfl
      rintro j y σ H3 hj ⟨v4, v5, rfl, s5, t5, hn5⟩
      match j, hj with
      | 0, hj =>
        cases hj
        refine turn v4 v5 H3 _ r.body qb bs _ s5 t5 hn5 (t5 _ _ hqb) (Paired.imp (fun _ _ k => AtomAt.mono t5 k) pb) ?_ fun H4 v5 s6 t6 hn6 => ⟨_, v5, rfl, s6, t6, ?_⟩
        · rw [List.length_cons, List.length_append]
          show (rowsOf _).length + 0 + 1 + _ ≤ _
          omega
        · rw [hn6]
          show some (HO.lst (nV (h.book.composed.length :: (rowsOf (h.book.composed.take i) ++ []) ++ Dx07.atomsRow r.body))) = some (HO.lst (nV (h.book.composed.length :: (rowsOf (h.book.composed.take i) ++ (Dx07.atomsRow r.body ++ [])))))
          rw [List.append_nil, List.append_nil]
          rfl
      | 1, hj =>
        cases hj
        refine turn v4 v5 H3 _ r.head qd ds _ s5 t5 hn5 (t5 _ _ hqd) (Paired.imp (fun _ _ k => AtomAt.mono t5 k) pd) ?_ fun H4 v5 s6 t6 hn6 => ⟨_, v5, rfl, s6, t6, ?_⟩
        · rw [List.length_cons, List.length_append]
          show (rowsOf _).length + (Dx07.atomsRow r.body ++ []).length + 1 + _ ≤ _
          rw [List.append_nil]
          omega
        · rw [hn6]
          show some (HO.lst (nV (h.book.composed.length :: (rowsOf (h.book.composed.take i) ++ (Dx07.atomsRow r.body ++ [])) ++ Dx07.atomsRow r.head))) = some (HO.lst (nV (h.book.composed.length :: (rowsOf (h.book.composed.take i) ++ (Dx07.atomsRow r.body ++ (Dx07.atomsRow r.head ++ []))))))
          rw [List.append_nil, List.append_nil, List.cons_append, List.append_assoc]
      | j + 2, hj => simp at hj
    · rintro σ H3 ⟨v4, v5, rfl, s5, t5, hn5⟩
      refine ⟨_, _, _, rfl, s5, ?_⟩
      rw [hmore]
      have e : ([Dx07.atomsRow r.body, Dx07.atomsRow r.head].take ([V.ref qb, V.ref qd] : List V).length).flatten = Dx07.atomsRow r.body ++ Dx07.atomsRow r.head := by
        show Dx07.atomsRow r.body ++ (Dx07.atomsRow r.head ++ []) = _
        rw [List.append_nil]
      rw [e] at hn5
      exact hn5
  · rintro σ H2 ⟨v3, v4, v5, rfl, s3, hn⟩
    rw [epy, List.take_length] at hn
    refine ⟨_, rfl, k H2 np (s1.trans s3) hn (s1.free hnp)⟩
end
end Mw
namespace Mw
open PySem PySem.Spec PyProof.Rows L2
open Dx (Fact Facts Rule Atom Fill)
/-! ## sizes -/
theorem flat_all_len {α β : Type} (f : α → List β) (k : Nat) : ∀ (l : List α), (∀ a ∈ l, (f a).length ≤ k) → (l.flatMap f).length ≤ l.length * k := flat_le f k
theorem through_small {one : List Rule} (h : ∀ r ∈ one, Fine r) {r : Rule} (hr : Fine r) {c : List Dx07.Made} (hc : c ∈ Dx07.choices one r.body) : (Dx07.through r c).body.length ≤ 4 ∧ (Dx07.through r c).head.length ≤ 2 := by
  have hl := choices_len one r.body c hc
  have hm := choices_mem one r.body c hc
  constructor
  · unfold Dx07.through Dx07.renamed
    simp only [List.length_map]
    refine Nat.le_trans (foldPut_len _ []) ?_
    rw [List.length_nil, Nat.zero_add]
    refine Nat.le_trans (flat_le _ 2 _ fun x hx => ?_) ?_
    · rw [List.length_map]
      have : x.2 ∈ c := (List.of_mem_zip hx).2
      exact (h _ (hm _ this).1).bl.2
    · rw [List.length_zip, List.length_range, Nat.min_self, hl]
      have := hr.bl.2
      omega
  · unfold Dx07.through Dx07.renamed
    simp only [List.length_map]
    exact hr.hl.2
theorem put_all {α : Type} [BEq α] : ∀ (l m : List α), ∀ x ∈ l.foldl (fun m r => if m.contains r = true then m else m ++ [r]) m, x ∈ m ∨ x ∈ l
  | [], m, x, hx => .inl hx
  | a :: l, m, x, hx => by
    rcases put_all l _ x hx with z | z
    · have z : x ∈ (if m.contains a = true then m else m ++ [a]) := z
      by_cases c : m.contains a = true
      · rw [if_pos c] at z
        exact .inl z
      · rw [if_neg c] at z
        rcases List.mem_append.mp z with y | y
        · exact .inl y
        · exact .inr (List.mem_singleton.mp y ▸ List.mem_cons_self)
    · exact .inr (List.mem_cons_of_mem _ z)
theorem composed_small {h : Dx07.House} (o : HouseOk h) : (∀ r ∈ h.book.composed, r.body.length ≤ 4 ∧ r.head.length ≤ 2) ∧ h.book.composed.length ≤ 32 := by
  constructor
  · intro r hr
    rcases put_all _ [] r hr with z | z
    · cases z
    · obtain ⟨t, ht, z⟩ := List.mem_flatMap.mp z
      obtain ⟨c, hc, rfl⟩ := List.mem_map.mp z
      exact through_small o.f1 (o.f2 t ht) hc
  · have a := foldPut_len (h.book.two.flatMap fun r => (Dx07.choices h.book.one r.body).map (Dx07.through r)) []
    have b := flat_le (fun r => (Dx07.choices h.book.one r.body).map (Dx07.through r)) 16 h.book.two fun r hr => by
      rw [List.length_map]
      exact Nat.le_trans (choices_num o.n1 o.f1 r.body) (pow4 (o.f2 r hr).bl.2)
    have n := o.n2
    have e : h.book.composed = (h.book.two.flatMap fun r => (Dx07.choices h.book.one r.body).map (Dx07.through r)).foldl putNew [] := rfl
    rw [e]
    rw [List.length_nil] at a
    omega
theorem tidy_perm {fs src : List Fact} (p : fs.Perm src) (s : src.Pairwise lessF) : Dx.tidy fs = src := (tidy_unique s fun x => p.mem_iff.symm).symm
/-- the middle facts are few, and in the middle -/
theorem middle_len {h : Dx07.House} (o : HouseOk h) : (h.book.middle h.source).length ≤ 100 := by
  refine Nat.le_trans (tidy_len _) ?_
  refine Nat.le_trans (handed_len h.source (F := 25) h.book.one _ fun r hr => ⟨?_, (o.f1 r hr).hl.2⟩) ?_
  · refine Nat.le_trans (matches_len _ _ _) ?_
    have h1 := o.s5
    have h2 := (o.f1 r hr).bl.2
    refine Nat.le_trans (Nat.pow_le_pow_left h1 _) ?_
    exact Nat.pow_le_pow_right (by decide) h2
  · have := o.n1
    omega
theorem middle_tables {h : Dx07.House} (o : HouseOk h) : ∀ f ∈ h.book.middle h.source, f.t < 4 := fun f hf => by
  obtain ⟨r, hr, a, ha, e⟩ := handed_tables _ _ _ f (tidy_mem.mp hf)
  have := (o.t1 r hr).2.1 a ha
  omega
theorem ends_tables {ns : List Nat} (h : endsM ns = true) : (factsM ns).length ≤ 6 ∧ ∀ f ∈ factsM ns, 4 ≤ f.t := by
  unfold endsM at h
  simp only [Bool.and_eq_true, decide_eq_true_eq, List.all_eq_true] at h
  refine ⟨h.2.1, fun f hf => ?_⟩
  have := h.2.2 f hf
  unfold endM at this
  simp only [Bool.and_eq_true, decide_eq_true_eq] at this
  omega
section
variable {P : Program} {w : World} {K : PySem.W.Frag} {mg : Str → Option Value} {base : Heap} {CR CS : Addr}
/-! ## facts_of_middle -/
def spMidFacts (CS : Addr) : Sp := fun vs H Q _ => ∃ (a l1 l2 l3 : Addr) (h : Dx07.House), vs = [.ref a] ∧ SvcAt CS H a l1 l2 l3 h ∧ ∀ H' p ys, Same H H' → H p = none → H' p = some (.lst ys) → Paired (FactAt H') ys (h.book.middle h.source) → Q (.ref p) H'
theorem sc_midf : FnScope ["self"] ["self"] (C8.fnScope s_Service_facts_of_middle) := C8.fnScope_by (by decide +kernel)
theorem ok_facts_of_middle (T : Top K mg CR CS) (c1 : C8.Cal P w K mg base 3 "computed_facts" spComputed []) (c2 : C8.Cal P w K mg base 1 "set_of_facts" (spSetOf K) []) : C8.Met P w K mg base 4 CS "facts_of_middle" (spMidFacts CS) [] := by
  refine met_of T.k_Service T.m_Service_facts_of_middle sc_midf (fun _ _ _ _ _ _ us hl => match us, hl with | [_], _ => rfl) (fun vs H Q E h => by obtain ⟨t, p, q, r, z, rfl, _⟩ := h; rfl) (fun f cdv A outer s H vs Q E hr h => ?_)
  obtain ⟨a, l1, l2, l3, h, rfl, S, k⟩ := h
  refine ⟨_, pss_one (ps_ret (C8.pe_c c1 hr (by decide) rfl (pa_cons (pe_fld (pv 0) rfl) (pa_cons (C8.pe_c c2 hr (by decide) rfl (pa_cons (pe_fld (pv 0) rfl) pa_nil)) pa_nil)))), ?_⟩
  obtain ⟨dx, ha⟩ := S.ob
  obtain ⟨fs, ⟨xs, h3, p3⟩, pf⟩ := S.sf
  have o := S.ok
  have et := tidy_perm pf o.so
  have s5 := o.s5
  refine ⟨_, rfl, a, CS, dx, _, _, rfl, ha, T.k_Service, T.a_Service_first_rules, sF_one l1 l2 l3, _, rfl, a, CS, dx, _, _, rfl, ha, T.k_Service, T.a_Service_source_facts, sF_src l1 l2 l3,
    l3, xs, fs, rfl, SqL.of' h3, p3, by rw [et]; omega, fun H1 p ys s1 np hp py => ?_⟩
  rw [et] at py
  refine ⟨l1, p, h.book.one, ys, h.source, rfl, S.r1.mono (SameT.of s1) (fun _ e => s1 _ _ e), hp, py, by omega, fun r hr => ⟨.inl ⟨by omega, (o.f1 r hr).bl.2⟩, (o.f1 r hr).hl.2⟩, by have := o.n1; omega, Nat.le_trans (middle_len o) (by decide), fun H2 p2 zs s2 np2 hp2 pz => ?_⟩
  exact k H2 p2 zs (s1.trans s2) (same_none s1 np2) hp2 pz
/-! ## middle, end, direct -/
def spFactsOut (CS : Addr) (out : Dx07.House → Facts) : Sp := fun vs H Q _ => ∃ (a l1 l2 l3 : Addr) (h : Dx07.House), vs = [.ref a] ∧ SvcAt CS H a l1 l2 l3 h ∧ (out h).length ≤ 9999 ∧
  ∀ H' p, Same H H' → H p = none → H' p = some (.lst (nV ((out h).length :: factNums (out h)))) → Q (.ref p) H'
theorem sc_middle : FnScope ["self"] ["self"] (C8.fnScope s_Service_middle) := C8.fnScope_by (by decide +kernel)
theorem ok_middle (T : Top K mg CR CS) (c1 : C8.Met P w K mg base 4 CS "facts_of_middle" (spMidFacts CS) []) (c2 : C8.Cal P w K mg base 1 "numbers_of" (spNumbersOf K) []) : C8.Met P w K mg base 5 CS "middle" (spFactsOut CS fun h => h.book.middle h.source) [] := by
  refine met_of T.k_Service T.m_Service_middle sc_middle (fun _ _ _ _ _ _ us hl => match us, hl with | [_], _ => rfl) (fun vs H Q E h => by obtain ⟨t, p, q, r, z, rfl, _⟩ := h; rfl) (fun f cdv A outer s H vs Q E hr h => ?_)
  obtain ⟨a, l1, l2, l3, h, rfl, S, few, k⟩ := h
  refine ⟨_, pss_one (ps_ret (C8.pe_c c2 hr (by decide) rfl (pa_cons (C8.pe_mt0 c1 hr (by decide) (pv 0)) pa_nil))), ?_⟩
  obtain ⟨dx, ha⟩ := S.ob
  refine ⟨_, rfl, a, dx, _, rfl, ha, sF_none l1 l2 l3 (by decide +kernel) (by decide +kernel) (by decide +kernel), a, l1, l2, l3, h, rfl, S, fun H1 p ys s1 np hp py => ?_⟩
  exact ⟨p, ys, _, rfl, hp, py, few, fun H2 q s2 nq hq => k H2 q (s1.trans s2) (same_none s1 nq) hq⟩
theorem sc_end : FnScope ["self"] ["self"] (C8.fnScope s_Service_end) := C8.fnScope_by (by decide +kernel)
theorem ok_end (T : Top K mg CR CS) (c1 : C8.Met P w K mg base 4 CS "facts_of_middle" (spMidFacts CS) []) (c2 : C8.Cal P w K mg base 1 "numbers_of" (spNumbersOf K) []) (c3 : C8.Cal P w K mg base 3 "computed_facts" spComputed []) :
    C8.Met P w K mg base 5 CS "end" (spFactsOut CS fun h => h.book.end_ h.source) [] := by
  refine met_of T.k_Service T.m_Service_end sc_end (fun _ _ _ _ _ _ us hl => match us, hl with | [_], _ => rfl) (fun vs H Q E h => by obtain ⟨t, p, q, r, z, rfl, _⟩ := h; rfl) (fun f cdv A outer s H vs Q E hr h => ?_)
  obtain ⟨a, l1, l2, l3, h, rfl, S, few, k⟩ := h
  refine ⟨_, pss_one (ps_ret (C8.pe_c c2 hr (by decide) rfl (pa_cons (C8.pe_c c3 hr (by decide) rfl (pa_cons (pe_fld (pv 0) rfl) (pa_cons (C8.pe_mt0 c1 hr (by decide) (pv 0)) pa_nil))) pa_nil))), ?_⟩
  obtain ⟨dx, ha⟩ := S.ob
  have o := S.ok
  have ml := middle_len o
  refine ⟨_, rfl, a, CS, dx, _, _, rfl, ha, T.k_Service, T.a_Service_second_rules, sF_two l1 l2 l3, _, rfl, a, dx, _, rfl, ha, sF_none l1 l2 l3 (by decide +kernel) (by decide +kernel) (by decide +kernel), a, l1, l2, l3, h, rfl, S, fun H1 p ys s1 np hp py => ?_⟩
  refine ⟨l2, p, h.book.two, ys, h.book.middle h.source, rfl, S.r2.mono (SameT.of s1) (fun _ e => s1 _ _ e), hp, py, by omega, fun r hr => ⟨.inl ⟨by omega, (o.f2 r hr).bl.2⟩, (o.f2 r hr).hl.2⟩, by have := o.n2; omega, few, fun H2 p2 zs s2 np2 hp2 pz => ?_⟩
  exact ⟨p2, zs, _, rfl, hp2, pz, few, fun H3 q s3 nq hq => k H3 q ((s1.trans s2).trans s3) (same_none (s1.trans s2) nq) hq⟩
theorem sc_direct : FnScope ["self"] ["self"] (C8.fnScope s_Service_direct) := C8.fnScope_by (by decide +kernel)
theorem ok_direct (T : Top K mg CR CS) (c1 : C8.Met P w K mg base 5 CS "rules_without_middle" (spRules CS) []) (c2 : C8.Cal P w K mg base 1 "numbers_of" (spNumbersOf K) []) (c3 : C8.Cal P w K mg base 3 "computed_facts" spComputed []) (c4 : C8.Cal P w K mg base 1 "set_of_facts" (spSetOf K) []) :
    C8.Met P w K mg base 6 CS "direct" (spFactsOut CS fun h => Dx07.target h.source h.book.composed) [] := by
  refine met_of T.k_Service T.m_Service_direct sc_direct (fun _ _ _ _ _ _ us hl => match us, hl with | [_], _ => rfl) (fun vs H Q E h => by obtain ⟨t, p, q, r, z, rfl, _⟩ := h; rfl) (fun f cdv A outer s H vs Q E hr h => ?_)
  obtain ⟨a, l1, l2, l3, h, rfl, S, few, k⟩ := h
  refine ⟨_, pss_one (ps_ret (C8.pe_c c2 hr (by decide) rfl (pa_cons (C8.pe_c c3 hr (by decide) rfl (pa_cons (C8.pe_mt0 c1 hr (by decide) (pv 0)) (pa_cons (C8.pe_c c4 hr (by decide) rfl (pa_cons (pe_fld (pv 0) rfl) pa_nil)) pa_nil))) pa_nil))), ?_⟩
  obtain ⟨dx, ha⟩ := S.ob
  have o := S.ok
  have s5 := o.s5
  obtain ⟨small, num⟩ := composed_small o
  refine ⟨_, rfl, a, dx, _, rfl, ha, sF_none l1 l2 l3 (by decide +kernel) (by decide +kernel) (by decide +kernel), a, l1, l2, l3, h, rfl, S, fun H1 p ys s1 hp np py => ?_⟩
  obtain ⟨fs, ⟨xs, h3, p3⟩, pf⟩ := (S.same s1).sf
  have et := tidy_perm pf o.so
  refine ⟨_, rfl, a, CS, dx, _, _, rfl, s1 _ _ ha, T.k_Service, T.a_Service_source_facts, sF_src l1 l2 l3, l3, xs, fs, rfl, SqL.of' h3, p3, by rw [et]; omega, fun H2 p2 zs s2 np2 hp2 pz => ?_⟩
  rw [et] at pz
  refine ⟨p, p2, h.book.composed, zs, h.source, rfl, ⟨ys, s2 _ _ hp, Paired.imp (fun _ _ z => RuleAt.mono (SameT.of s2) z) py⟩, hp2, pz, by omega, fun r hr => ⟨.inr ⟨by omega, (small r hr).1⟩, (small r hr).2⟩, by omega, few, fun H3 p3 us s3 np3 hp3 pu => ?_⟩
  exact ⟨p3, us, _, rfl, hp3, pu, few, fun H4 q s4 nq hq => k H4 q (((s1.trans s2).trans s3).trans s4) (same_none ((s1.trans s2).trans s3) nq) hq⟩
/-! ## goes, lacks -/
theorem step_goes (h : Dx07.House) (fn : List Nat) : Dx07.step h (.goes fn) = if endsM fn = true then (h, Dx07.ok (if h.book.goes h.source (Dx.tidy (factsM fn)) = true then 1 else 0)) else (h, Dx07.ok (-1)) := by
  simp only [Dx07.step, some_eq]
  by_cases c : endsM fn = true
  · rw [if_pos c, if_pos c]
  · rw [if_neg c, if_neg c]
theorem step_lacks (h : Dx07.House) (fn : List Nat) : Dx07.step h (.lacks fn) = if endsM fn = true then (h, match h.book.lacks h.source (Dx.tidy (factsM fn)) with
    | none => Dx07.ok 0
    | some x => ⟨1, x.1 :: x.2.flatMap fun p => [p.1, p.2]⟩) else (h, Dx07.ok (-1)) := by
  simp only [Dx07.step, some_eq]
  by_cases c : endsM fn = true
  · rw [if_pos c, if_pos c]
    rfl
  · rw [if_neg c, if_neg c]
def spGoes (K : PySem.W.Frag) (CS : Addr) : Sp := fun vs H Q _ => ∃ (a l1 l2 l3 pf : Addr) (h : Dx07.House) (fn : List Nat), vs = [.ref a, .ref pf] ∧ SvcAt CS H a l1 l2 l3 h ∧ SqL K H pf (nV fn) ∧ fn.length ≤ 24 ∧ ∀ H', Same H H' → Q (.int (Dx07.step h (.goes fn)).2.v) H'
theorem sc_goes : FnScope ["self", "facts", "together"] ["self", "facts"] (C8.fnScope s_Service_goes) := C8.fnScope_by (by decide +kernel)
theorem ok_goes (T : Top K mg CR CS) (c1 : C8.Cal P w K mg base 4 "are_end_facts" (spAreEnds K) []) (c2 : C8.Met P w K mg base 4 CS "facts_of_middle" (spMidFacts CS) []) (c3 : C8.Cal P w K mg base 1 "triples" (spTriples K) []) (c4 : C8.Cal P w K mg base 4 "first_lack" spLack []) (c5 : C8.Cal P w K mg base 1 "set_of_facts" (spSetOf K) []) :
    C8.Met P w K mg base 5 CS "goes" (spGoes K CS) [] := by
  refine met_of T.k_Service T.m_Service_goes sc_goes (fun _ _ _ _ _ _ us hl => match us, hl with | [_, _], _ => rfl) (fun vs H Q E h => by obtain ⟨t, p, q, r, z, y, x, rfl, _⟩ := h; rfl) (fun f cdv A outer s H vs Q E hr h => ?_)
  obtain ⟨a, l1, l2, l3, pf, h, fn, rfl, S, hf, f24, k⟩ := h
  obtain ⟨t2, m2⟩ := T.c_INVALID
  refine ⟨_, pss_cons (ps_if (pt_not (pt_val (C8.pe_c c1 hr (by decide) rfl (pa_cons (pv 1) pa_nil)))) (pss_one (ps_ret (pe_un un_neg (pgI m2)))) pss_nil)
    (pss_cons (ps_set (i := 2) sc_goes.nd rfl (Or.inl rfl) (pe_op op_cat (C8.pe_mt0 c2 hr (by decide) (pv 0)) (pe_callTy call_list_of rfl T.b_list bo_list (pa_cons (C8.pe_c c3 hr (by decide) rfl (pa_cons (pv 1) pa_nil)) pa_nil))))
    (pss_cons (ps_if (pt_cmpR op_isN (C8.pe_c c4 hr (by decide) rfl (pa_cons (pe_fld (pv 0) rfl) (pa_cons (C8.pe_c c5 hr (by decide) rfl (pa_cons (pv 2) pa_nil)) pa_nil))) pe_non (nomark _)) (pss_one (ps_ret pe_int)) pss_nil)
    (pss_one (ps_ret pe_int)))), ?_⟩
  rw [step_goes] at k
  refine ⟨_, rfl, pf, fn, rfl, hf, f24, fun H1 s1 => ⟨_, rfl, ?_⟩⟩
  cases ce : endsM fn with
  | false =>
    rw [if_neg (by rw [ce]; exact Bool.false_ne_true)] at k
    exact ⟨_, rfl, k H1 s1⟩
  | true =>
  rw [if_pos ce] at k
  obtain ⟨f6, ft4⟩ := ends_tables ce
  have f3 : fn.length % 3 = 0 := by
    unfold endsM at ce
    simp only [Bool.and_eq_true, decide_eq_true_eq] at ce
    exact ce.1
  have S1 := S.same s1
  obtain ⟨dx, ha⟩ := S1.ob
  have o := S.ok
  have ml := middle_len o
  refine ⟨_, rfl, a, dx, _, rfl, ha, sF_none l1 l2 l3 (by decide +kernel) (by decide +kernel) (by decide +kernel), a, l1, l2, l3, h, rfl, S1, fun H2 p ys s2 np hp py => ?_⟩
  refine ⟨_, rfl, pf, fn, rfl, (s1.trans s2).seq hf, f3, f24, fun H3 v s3 ⟨q, xs, ev, hq, px⟩ => ?_⟩
  subst ev
  refine ⟨q, xs, rfl, .inr (SqT.of' hq), fun l hl => ?_⟩
  have s4 := s3.trans (Same.new (o := .lst xs) hl)
  have pF : Paired (FactAt (upd H3 l (.lst xs))) xs (factsM fn) := Paired.imp (fun _ _ z => FactAt.mono (SameT.new hl) z) (paired_facts px)
  have eys := Paired.len py
  have exs := Paired.len pF
  refine ⟨p, l, ys, xs, rfl, rfl, s4 _ _ hp, upd_same, by rw [sizeLine_eq]; omega, fun g hg => ?_⟩
  have s5 := s4.trans (Same.new (o := .lst (ys ++ xs)) hg)
  have all : Paired (FactAt (upd (upd H3 l (.lst xs)) g (.lst (ys ++ xs)))) (ys ++ xs) (h.book.middle h.source ++ factsM fn) :=
    Paired.app (Paired.imp (fun _ _ z => FactAt.mono (SameT.of s5) z) py) (Paired.imp (fun _ _ z => FactAt.mono (SameT.new hg) z) pF)
  have et : Dx.tidy (h.book.middle h.source ++ factsM fn) = h.book.middle h.source ++ Dx.tidy (factsM fn) := (tidy_app (p := 4) (tidy_sorted _) (fun x => Iff.rfl) (middle_tables o) ft4).symm
  have tl := tidy_len (factsM fn)
  have ha5 := s5 _ _ (s2 _ _ ha)
  have lim : (h.book.middle h.source ++ Dx.tidy (factsM fn)).length ≤ 106 := by
    rw [List.length_append]
    omega
  refine ⟨_, rfl, a, CS, dx, _, _, rfl, ha5, T.k_Service, T.a_Service_second_rules, sF_two l1 l2 l3, _, rfl, g, _, _, rfl, SqL.of' upd_same, all, by rw [et]; omega, fun H6 p6 zs s6 np6 hp6 pz => ?_⟩
  rw [et] at pz
  have s06 := ((s1.trans s2).trans s5).trans s6
  refine ⟨l2, p6, h.book.two, zs, _, rfl, S.r2.mono (SameT.of s06) (fun _ e => s06 _ _ e), hp6, pz, by omega, fun r hr => ⟨.inl ⟨by omega, (o.f2 r hr).bl.2⟩, .inl ⟨by omega, (o.f2 r hr).hl.2⟩⟩, fun H7 s7 none_ => ?_, fun H7 q7 i sv t s7 some_ hq7 hS => ?_⟩
  · refine ⟨rfl, _, rfl, ?_⟩
    rw [goes_eq, none_] at k
    exact k H7 (s06.trans s7)
  · refine ⟨rfl, _, rfl, ?_⟩
    rw [goes_eq, some_] at k
    exact k H7 (s06.trans s7)
end
end Mw
namespace Mw
open PySem PySem.Spec PyProof.Rows L2
open Dx (Fact Facts Rule Atom Fill)
theorem for_items {d : Addr} {o : Obj} {kvs : List (Key × V)} {g : TG} {tb : TS} {D : Ends} {σ : L2.St} {H : Hp} (Pv : Nat → L2.St → Hp → Prop) (h0 : Pv 0 σ H) (hl : ∀ i σ H, i ≤ kvs.length → Pv i σ H → H d = some (.frz o (.dK kvs)))
    (hs : ∀ i k v σ H T, kvs[i]? = some (k, v) → Pv i σ H → H T = none → g (.ref T) σ (upd H T (.tup [kV k, v])) fun σ2 H2 => tb { D with nx := Pv (i + 1), ct := Pv (i + 1), bk := D.nx } σ2 H2) (hd : ∀ σ H, Pv kvs.length σ H → D.nx σ H) :
    ∃ W : Nat → Nat → L2.St → Hp → Prop, (∃ m, W 0 m σ H) ∧ ∀ i m σ H, W i m σ H →
      ((Iti d o kvs).stop i H ∧ D.nx σ H) ∨ ((Iti d o kvs).go i H ∧ ∃ N : L2.St → Hp → Prop, (∀ σ' H', N σ' H' → ∃ m', m' < m ∧ W (i + 1) m' σ' H') ∧ ∀ x H', (Iti d o kvs).yld i H x H' → g x σ H' fun σ2 H2 => tb { D with nx := N, ct := N, bk := D.nx } σ2 H2) := by
  refine ⟨fun i r σ H => r = kvs.length - i ∧ i ≤ kvs.length ∧ Pv i σ H, ⟨kvs.length, rfl, Nat.zero_le _, h0⟩, ?_⟩
  rintro i r σ H ⟨rfl, hi, p⟩
  have q := hl i σ H hi p
  by_cases lt : i < kvs.length
  · refine .inr ⟨⟨q, lt⟩, Pv (i + 1), fun σ' H' p' => ⟨kvs.length - (i + 1), by omega, rfl, lt, p'⟩, fun x H' y => ?_⟩
    obtain ⟨T, k, v, e, ex, hT, eH⟩ := y
    subst ex eH
    exact hs i k v σ _ T e p hT
  · obtain rfl : i = kvs.length := by omega
    exact .inl ⟨⟨q, Nat.le_refl _⟩, hd σ H p⟩
section
variable {P : Program} {w : World} {K : PySem.W.Frag} {mg : Str → Option Value} {base : Heap} {CR CS : Addr}
def fillNums (s : Fill) : List Nat := s.flatMap fun p => [p.1, p.2]
theorem fillNums_len (s : Fill) : (fillNums s).length = 2 * s.length := by
  induction s with
  | nil => rfl
  | cons p s ih =>
    show (p.1 :: p.2 :: fillNums s).length = _
    simp only [List.length_cons, ih]
    omega
theorem nV_iV (ns : List Nat) : nV ns = iV (ns.map fun (n : Nat) => (n : Int)) := by
  unfold nV iV
  rw [List.map_map]
  rfl
def spLacks (K : PySem.W.Frag) (CS : Addr) : Sp := fun vs H Q _ => ∃ (a l1 l2 l3 pf : Addr) (h : Dx07.House) (fn : List Nat), vs = [.ref a, .ref pf] ∧ SvcAt CS H a l1 l2 l3 h ∧ SqL K H pf (nV fn) ∧ fn.length ≤ 24 ∧
  ∀ H' p, Same H H' → H p = none → H' p = some (.lst (iV (Dx07Neutral.out (Dx07.step h (.lacks fn)).2))) → Q (.ref p) H'
theorem sc_lacks : FnScope ["self", "facts", "together", "lack", "numbers", "variable", "value"] ["self", "facts"] (C8.fnScope s_Service_lacks) := C8.fnScope_by (by decide +kernel)
theorem ok_lacks (T : Top K mg CR CS) (c1 : C8.Cal P w K mg base 4 "are_end_facts" (spAreEnds K) []) (c2 : C8.Met P w K mg base 5 CS "rules_without_middle" (spRules CS) []) (c3 : C8.Cal P w K mg base 1 "triples" (spTriples K) []) (c4 : C8.Cal P w K mg base 4 "first_lack" spLack []) (c5 : C8.Cal P w K mg base 1 "set_of_facts" (spSetOf K) []) :
    C8.Met P w K mg base 6 CS "lacks" (spLacks K CS) [] := by
  refine met_of T.k_Service T.m_Service_lacks sc_lacks (fun _ _ _ _ _ _ us hl => match us, hl with | [_, _], _ => rfl) (fun vs H Q E h => by obtain ⟨t, p, q, r, z, y, x, rfl, _⟩ := h; rfl) (fun f cdv A outer st H vs Q E hr h => ?_)
  obtain ⟨a, l1, l2, l3, pf, h, fn, rfl, S, hf, f24, k⟩ := h
  obtain ⟨t2, m2⟩ := T.c_INVALID
  refine ⟨_, pss_cons (ps_if (pt_not (pt_val (C8.pe_c c1 hr (by decide) rfl (pa_cons (pv 1) pa_nil)))) (pss_one (ps_ret (pe_lst (pa_cons (pe_un un_neg (pgI m2)) pa_nil)))) pss_nil)
    (pss_cons (ps_set (i := 2) sc_lacks.nd rfl (Or.inl rfl) (pe_op op_cat (pe_fld (pv 0) rfl) (pe_callTy call_list_of rfl T.b_list bo_list (pa_cons (C8.pe_c c3 hr (by decide) rfl (pa_cons (pv 1) pa_nil)) pa_nil))))
    (pss_cons (ps_set (i := 3) sc_lacks.nd rfl (Or.inl rfl) (C8.pe_c c4 hr (by decide) rfl (pa_cons (C8.pe_mt0 c2 hr (by decide) (pv 0)) (pa_cons (C8.pe_c c5 hr (by decide) rfl (pa_cons (pv 2) pa_nil)) pa_nil))))
    (pss_cons (ps_if (pt_cmpR op_isN (pv 3) pe_non (nomark _)) (pss_one (ps_ret (pe_lst (pa_cons pe_int pa_nil)))) pss_nil)
    (pss_cons (ps_set (i := 4) sc_lacks.nd rfl (Or.inl rfl) (pe_lst (pa_cons pe_int (pa_cons (pe_ix ix_tup (pv 3) pe_int (fun _ _ => rfl)) pa_nil))))
    (pss_cons (ps_lock (ps_for PassesOwn.never rfl (pi_items (pe_ix ix_tup (pv 3) pe_int (fun _ _ => rfl))) (pg_tup rfl (pgs_cons (pg_name (i := 5) sc_lacks.nd rfl (Or.inl rfl)) (pgs_cons (pg_name (i := 6) sc_lacks.nd rfl (Or.inl rfl)) pgs_nil)))
      (pss_one (ps_expr (pe_bm PySem.F.plainAttrs_list PySem.F.slot_list_extend PySem.F.type_list_extend mt_extT (pv 4) (pa_cons (pe_tup (pa_cons (pv 5) (pa_cons (pv 6) pa_nil))) pa_nil))))))
    (pss_one (ps_ret (pv 4)))))))), ?_⟩
  rw [step_lacks] at k
  refine ⟨_, rfl, pf, fn, rfl, hf, f24, fun H1 s1 => ⟨_, rfl, ?_⟩⟩
  cases ce : endsM fn with
  | false =>
    rw [if_neg (by rw [ce]; exact Bool.false_ne_true)] at k
    refine ⟨_, rfl, (by show 1 ≤ sizeLine; decide), fun p hp => ?_⟩
    exact k _ p (s1.trans (Same.new hp)) (same_none s1 hp) upd_same
  | true =>
  rw [if_pos ce] at k
  obtain ⟨f6, ft4⟩ := ends_tables ce
  have f3 : fn.length % 3 = 0 := by
    unfold endsM at ce
    simp only [Bool.and_eq_true, decide_eq_true_eq] at ce
    exact ce.1
  have S1 := S.same s1
  obtain ⟨dx, ha⟩ := S1.ob
  obtain ⟨fs, ⟨ys, h3, py⟩, pfs⟩ := S1.sf
  have o := S.ok
  have s5len := o.s5
  have fslen := pfs.length_eq
  refine ⟨_, rfl, a, CS, dx, _, _, rfl, ha, T.k_Service, T.a_Service_source_facts, sF_src l1 l2 l3, _, rfl, pf, fn, rfl, s1.seq hf, f3, f24, fun H3 v s3 ⟨q, xs, ev, hq, px⟩ => ?_⟩
  subst ev
  refine ⟨q, xs, rfl, .inr (SqT.of' hq), fun l hl => ?_⟩
  have s4 := s3.trans (Same.new (o := .lst xs) hl)
  have pF : Paired (FactAt (upd H3 l (.lst xs))) xs (factsM fn) := Paired.imp (fun _ _ z => FactAt.mono (SameT.new hl) z) (paired_facts px)
  have eys := Paired.len py
  have exs := Paired.len pF
  refine ⟨l3, l, ys, xs, rfl, rfl, s4 _ _ h3, upd_same, by rw [sizeLine_eq]; omega, fun g hg => ?_⟩
  have s5 := s4.trans (Same.new (o := .lst (ys ++ xs)) hg)
  have all : Paired (FactAt (upd (upd H3 l (.lst xs)) g (.lst (ys ++ xs)))) (ys ++ xs) (fs ++ factsM fn) :=
    Paired.app (Paired.imp (fun _ _ z => FactAt.mono (SameT.of s5) z) py) (Paired.imp (fun _ _ z => FactAt.mono (SameT.new hg) z) pF)
  have et : Dx.tidy (fs ++ factsM fn) = h.source ++ Dx.tidy (factsM fn) := (tidy_app (p := 2) o.so (fun x => pfs.mem_iff.symm) (fun f hf => (o.sv f hf).1) fun f hf => Nat.le_trans (by decide) (ft4 f hf)).symm
  have tl := tidy_len (factsM fn)
  have lim : (h.source ++ Dx.tidy (factsM fn)).length ≤ 11 := by
    rw [List.length_append]
    omega
  obtain ⟨small, num⟩ := composed_small o
  have hg5 : upd (upd H3 l (.lst xs)) g (.lst (ys ++ xs)) g = some (.lst (ys ++ xs)) := upd_same
  generalize upd (upd H3 l (.lst xs)) g (.lst (ys ++ xs)) = H5 at s5 all hg5
  have S5 := S1.same s5
  refine ⟨_, rfl, a, dx, _, rfl, s5 _ _ ha, sF_none l1 l2 l3 (by decide +kernel) (by decide +kernel) (by decide +kernel), a, l1, l2, l3, h, rfl, S5, fun H6 pr rs s6 hpr _ prs => ?_⟩
  refine ⟨_, rfl, g, _, _, rfl, SqL.of' (s6 _ _ hg5), Paired.imp (fun _ _ z => FactAt.mono (SameT.of s6) z) all, by rw [et]; omega, fun H7 p7 zs s7 np7 hp7 pz => ?_⟩
  rw [et] at pz
  have s17 := (s5.trans s6).trans s7
  have s07 := s1.trans s17
  refine ⟨pr, p7, h.book.composed, zs, _, rfl, ⟨rs, s7 _ _ hpr, Paired.imp (fun _ _ z => RuleAt.mono (SameT.of s7) z) prs⟩, hp7, pz, by omega, fun r hr => ⟨.inr ⟨by omega, (small r hr).1⟩, .inl ⟨by omega, (small r hr).2⟩⟩, fun H8 s8 none_ => ?_, fun H8 q8 i sv t s8 some_ hq8 hS => ?_⟩
  · refine ⟨_, rfl, rfl, _, rfl, ?_⟩
    rw [lacks_eq, none_] at k
    refine ⟨(by show 1 ≤ sizeLine; decide), fun p hp => ?_⟩
    exact k _ p ((s07.trans s8).trans (Same.new hp)) (same_none (s07.trans s8) hp) upd_same
  · refine ⟨_, rfl, rfl, _, rfl, ?_⟩
    rw [lacks_eq, some_] at k
    obtain ⟨e, rfl, he⟩ := hS
    have s08 := s07.trans s8
    have tlen : t.length ≤ 1000 := by
      have key : ∀ (rs : List Rule) (F : Facts), lackM F rs = some (i, t) → (∀ r ∈ rs, r.body.length ≤ 4) → t.length ≤ 1000 := fun rs F he hb => by
        unfold lackM at he
        obtain ⟨j, hj, e2⟩ := List.exists_of_findSome?_eq_some he
        cases er : rs[j]? with
        | none => rw [er] at e2; cases e2
        | some r =>
          rw [er] at e2
          have e2 : (lackOf F r).map (fun s => (j, s)) = some (i, t) := e2
          obtain ⟨u, hu, e3⟩ := Option.map_eq_some_iff.mp e2
          have : u = t := congrArg Prod.snd e3
          have hm := match_len (List.mem_of_find?_eq_some hu)
          have := hb r (List.mem_of_getElem? er)
          rw [List.length_nil] at hm
          subst u
          omega
      exact key _ _ some_ fun r hr => (small r hr).1
    refine ⟨_, rfl, q8, _, 0, _, rfl, rfl, SqT.of' hq8, ix_at (i := 0) rfl, (by show 2 ≤ sizeLine; decide), fun np hnp => ?_⟩
    have hnp0 : upd H8 np (.lst [V.int 1, V.int (i : Nat)]) np = some (.lst (nV (1 :: i :: fillNums (t.take 0)))) := upd_same
    have s9 : Same H8 (upd H8 np (.lst [V.int 1, V.int (i : Nat)])) := Same.new hnp
    generalize upd H8 np (.lst [V.int 1, V.int (i : Nat)]) = H9 at hnp0 s9
    have he9 := s9 _ _ he
    have hq9 := s9 _ _ hq8
    have en : e ≠ np := ne_of he9 hnp0 (by intro z; cases z)
    have eq8 : q8 ≠ e := ne_of hq9 he9 (by intro z; cases z)
    refine ⟨e, .dK (encF t), he9, trivial, fun od => ?_⟩
    have fz : upd H9 e (.frz od (.dK (encF t))) e = some (.frz od (.dK (encF t))) := upd_same
    have hnp1 : upd H9 e (.frz od (.dK (encF t))) np = some (.lst (nV (1 :: i :: fillNums (t.take 0)))) := by rw [upd_ne (fun z => en z.symm)]; exact hnp0
    have hq10 : upd H9 e (.frz od (.dK (encF t))) q8 = some (.tup [.int (i : Nat), .ref e]) := by rw [upd_ne eq8]; exact hq9
    have b10 : SameBut e H8 (upd H9 e (.frz od (.dK (encF t)))) := (SameBut.of s9).trans SameBut.set
    generalize upd H9 e (.frz od (.dK (encF t))) = H10 at fz hnp1 hq10 b10
    refine ⟨_, rfl, q8, _, 1, _, rfl, rfl, SqT.of' hq10, ix_at (i := 1) rfl, e, od, encF t, rfl, fz, for_items (fun j σ H' => ∃ v5 v6 : Option V, σ = [some (.ref a), some (.ref pf), some (.ref g), some (.ref q8), some (.ref np), v5, v6] ∧ SameBut e H8 H' ∧ H' e = some (.frz od (.dK (encF t))) ∧
      H' np = some (.lst (nV (1 :: i :: fillNums (t.take j))))) ⟨none, none, rfl, b10, fz, hnp1⟩ (fun j σ H' _ ⟨_, _, _, _, h, _⟩ => h) ?_ ?_⟩
    · rintro j kk v σ H11 T2 hj ⟨v5, v6, rfl, b11, fz11, hn11⟩ nT
      obtain ⟨pr2, hpr2, ee⟩ : ∃ p, t[j]? = some p ∧ (kk, v) = (nK p.1, V.int (p.2 : Int)) := by
        unfold encF at hj
        rw [List.getElem?_map] at hj
        obtain ⟨p, hp, e⟩ := Option.map_eq_some_iff.mp hj
        exact ⟨p, hp, e.symm⟩
      cases ee
      have nnT : np ≠ T2 := ne_of_none hn11 nT
      have enT : e ≠ T2 := ne_of_none fz11 nT
      have fl := fillNums_len (t.take j)
      rw [List.length_take] at fl
      refine ⟨T2, _, rfl, SqT.of' upd_same, rfl, _, _, rfl, _, _, rfl, rfl, _, rfl, .inl ⟨rfl, _, SqL.of' (by rw [upd_ne nnT]; exact hn11)⟩, _, rfl, _, rfl, (by show 2 ≤ sizeLine; decide), fun T3 nT3 => ?_⟩
      have nn3 : np ≠ T3 := ne_of_none (show upd H11 T2 _ np = _ by rw [upd_ne nnT]; exact hn11) nT3
      have en3 : e ≠ T3 := ne_of_none (show upd H11 T2 _ e = _ by rw [upd_ne enT]; exact fz11) nT3
      refine ⟨np, T3, _, _, rfl, rfl, by rw [upd_ne nn3, upd_ne nnT]; exact hn11, SqT.of' upd_same, by rw [nV_len, List.length_cons, List.length_cons, fl, sizeLine_eq]; show _ + 2 ≤ _; omega, _, _, rfl, ?_, ?_, ?_⟩
      · have a1 : SameBut e H11 (upd (upd H11 T2 (.tup [V.int (pr2.1 : Int), V.int (pr2.2 : Int)])) T3 (.tup [V.int (pr2.1 : Int), V.int (pr2.2 : Int)])) := (SameBut.of (Same.new nT)).trans (SameBut.of (Same.new nT3))
        intro b ob hb e8
        rw [upd_ne (ne_of_none e8 hnp)]
        exact a1 b ob hb (b11 b ob hb e8)
      · rw [upd_ne en, upd_ne en3, upd_ne enT]
        exact fz11
      · rw [upd_same, take_more hpr2]
        have e4 : fillNums (t.take j ++ [pr2]) = fillNums (t.take j) ++ [pr2.1, pr2.2] := by
          rw [fillNums, List.flatMap_append]
          rfl
        rw [e4]
        show some (HO.lst (nV _ ++ nV [pr2.1, pr2.2])) = some (HO.lst (nV (_ :: _ :: (_ ++ _))))
        unfold nV
        rw [← List.map_append]
        rfl
    · rintro σ H11 ⟨v5, v6, rfl, b11, fz11, hn11⟩
      refine ⟨fz11, _, rfl, ?_⟩
      have el : (encF t).length = t.length := encF_len t
      rw [el, List.take_length] at hn11
      refine k _ np (fun b ob e0 => ?_) (same_none s08 hnp) ?_
      · have e8 := s08 b ob e0
        by_cases c : b = e
        · rw [c] at e8 ⊢
          rw [he] at e8
          rw [← e8]
          exact upd_same
        · rw [upd_ne c]
          exact b11 b ob c e8
      · rw [upd_ne (fun z => en z.symm), hn11, nV_iV]
        rfl
end
end Mw
namespace Mw
open PySem PySem.Spec PyProof.Rows L2
open Dx (Fact Facts Rule Atom Fill)
section
variable {P : Program} {w : World} {K : PySem.W.Frag} {mg : Str → Option Value} {base : Heap} {CR CS : Addr}
/-! ## steps.py -/
/-- the calls as they were handed in: nothing here may change them -/
def CallsAt (K : PySem.W.Frag) (H : Hp) (c : Addr) (l : List Int) : Prop := (∃ o, H c = some (.frz o (.lst (iV l)))) ∨
  ∃ (o : Obj) (its : Array Value) (n : Nat), K.lookup c = some o ∧ o.cls = .type "list" ∧ o.dict = none ∧ o.data = .seq its n ∧ its.size ≤ sizeLine ∧ Vals (iV l) its.toList
theorem CallsAt.sq {H : Hp} {c : Addr} {l : List Int} (h : CallsAt K H c l) : SqL K H c (iV l) := by
  rcases h with ⟨o, h⟩ | h
  · exact .inl (.inr ⟨o, h⟩)
  · exact .inr h
theorem CallsAt.of {H : Hp} {c : Addr} {l : List Int} (h : SqL K H c (iV l)) (o : OnlyF H) : CallsAt K H c l := by
  rcases h with (h | h) | h
  · rcases o c with z | ⟨u, v, z⟩
    · rw [z] at h
      cases h
    · rw [z] at h
      cases h
  · exact .inl h
  · exact .inr h
theorem CallsAt.stay {H H' : Hp} {c : Addr} {l : List Int} (h : CallsAt K H c l) (s : ∀ o, H c = some (.frz o (.lst (iV l))) → H' c = some (.frz o (.lst (iV l)))) : CallsAt K H' c l := by
  rcases h with ⟨o, h⟩ | h
  · exact .inl ⟨o, s o h⟩
  · exact .inr h
theorem CallsAt.same {H H' : Hp} {c : Addr} {l : List Int} (h : CallsAt K H c l) (s : Same H H') : CallsAt K H' c l := h.stay fun _ e => s _ _ e
/-- places that hold lists and instances -/
theorem CallsAt.x {H H' : Hp} {c : Addr} {l : List Int} {A : List Addr} (h : CallsAt K H c l) (s : SameX A H H') (hA : ∀ a ∈ A, ∃ o, H a = some o ∧ ∀ u v, o ≠ .frz u v) : CallsAt K H' c l := h.stay fun o e => s _ _ (fun z => by
  obtain ⟨o2, e2, n⟩ := hA c z
  rw [e] at e2
  cases e2
  exact n _ _ rfl) e
theorem SvcAt.places {H : Hp} {a l1 l2 l3 : Addr} {h : Dx07.House} (S : SvcAt CS H a l1 l2 l3 h) : ∀ p ∈ [l1, l2, l3], ∃ o, H p = some o ∧ (∀ u v, o ≠ .frz u v) ∧ (∀ C d f, o ≠ .ins C d f) := by
  obtain ⟨x1, h1, _⟩ := S.r1
  obtain ⟨x2, h2, _⟩ := S.r2
  obtain ⟨fs, ⟨x3, h3, _⟩, _⟩ := S.sf
  intro p hp
  rcases List.mem_cons.mp hp with z | z
  · rw [z]
    exact ⟨_, h1, (fun u v e => by cases e), (fun C d f e => by cases e)⟩
  · rcases List.mem_cons.mp z with z | z
    · rw [z]
      exact ⟨_, h2, (fun u v e => by cases e), (fun C d f e => by cases e)⟩
    · rw [List.mem_singleton.mp z]
      exact ⟨_, h3, (fun u v e => by cases e), (fun C d f e => by cases e)⟩
/-- the reader's turn leaves the service -/
theorem SvcAt.ins {H H' : Hp} {a ra C dx l1 l2 l3 : Addr} {fs : List (Str × V)} {h : Dx07.House} (S : SvcAt CS H a l1 l2 l3 h) (hr : H ra = some (.ins C dx fs)) (n : a ≠ ra) (s : SameBut ra H H') : SvcAt CS H' a l1 l2 l3 h where
  ob := by
    obtain ⟨d, e⟩ := S.ob
    exact ⟨d, s _ _ n e⟩
  r1 := S.r1.mono (fun b x e => s _ _ (ne_of e hr (by intro z; cases z)) e) fun o e => s _ _ (fun z => by
    obtain ⟨x, q, _⟩ := S.r1
    rw [z, hr] at q
    cases q) e
  r2 := S.r2.mono (fun b x e => s _ _ (ne_of e hr (by intro z; cases z)) e) fun o e => s _ _ (fun z => by
    obtain ⟨x, q, _⟩ := S.r2
    rw [z, hr] at q
    cases q) e
  sf := by
    obtain ⟨f, hf, p⟩ := S.sf
    exact ⟨f, hf.mono (fun b x e => s _ _ (ne_of e hr (by intro z; cases z)) e) fun o e => s _ _ (fun z => by
      obtain ⟨x, q, _⟩ := hf
      rw [z, hr] at q
      cases q) e, p⟩
  d12 := S.d12
  d13 := S.d13
  d23 := S.d23
  ok := S.ok
/-- a list that is none of the service's own changes -/
theorem SvcAt.list {H H' : Hp} {a g l1 l2 l3 : Addr} {xs : List V} {h : Dx07.House} (S : SvcAt CS H a l1 l2 l3 h) (hg : H g = some (.lst xs)) (n : g ∉ [l1, l2, l3]) (s : SameBut g H H') : SvcAt CS H' a l1 l2 l3 h where
  ob := by
    obtain ⟨d, e⟩ := S.ob
    exact ⟨d, s _ _ (ne_of e hg (by intro z; cases z)) e⟩
  r1 := S.r1.mono (s.tup hg) fun o e => s _ _ (fun z => n (by rw [← z]; simp)) e
  r2 := S.r2.mono (s.tup hg) fun o e => s _ _ (fun z => n (by rw [← z]; simp)) e
  sf := by
    obtain ⟨f, hf, p⟩ := S.sf
    exact ⟨f, hf.mono (s.tup hg) fun o e => s _ _ (fun z => n (by rw [← z]; simp)) e, p⟩
  d12 := S.d12
  d13 := S.d13
  d23 := S.d23
  ok := S.ok
/-- one call's promise -/
def spAnswer (K : PySem.W.Frag) (CR CS : Addr) : Sp := fun vs H Q _ => ∃ (sa l1 l2 l3 ra c : Addr) (h : Dx07.House) (i : Nat) (l rest : List Int) (call : List (List Int)), vs = [.ref sa, .ref ra] ∧ SvcAt CS H sa l1 l2 l3 h ∧ ReaderAt CR H ra c i ∧ sa ≠ ra ∧ CallsAt K H c l ∧
  l.drop i = put1 call ++ rest ∧ Asked call ∧ (Dx07Neutral.step h call).2.length ≤ 30000 ∧
  ∀ H' p, SameX [l1, l2, l3, ra] H H' → SvcAt CS H' sa l1 l2 l3 (Dx07Neutral.step h call).1 → ReaderAt CR H' ra c (i + (put1 call).length) → H' p = some (.lst (iV (Dx07Neutral.step h call).2)) → H p = none → Q (.ref p) H'
def spAnswers (K : PySem.W.Frag) : Sp := fun vs H Q _ => ∃ (c : Addr) (l : List Int), vs = [.ref c] ∧ CallsAt K H c l ∧ PyDx07.answers_asked l = true ∧
  ∀ H' p, H' p = some (.lst (iV (PyDx07.answers l))) → Q (.ref p) H'
theorem sc_answers : FnScope ["calls", "service", "reader", "given", "numbers"] ["calls"] (C8.fnScope s_answers) := C8.fnScope_by (by decide +kernel)
theorem put1_pos {c : List (List Int)} (h : Asked c) : 0 < (put1 c).length := by
  cases h <;> exact Nat.succ_pos _
theorem iV_len (l : List Int) : (iV l).length = l.length := by
  unfold iV
  rw [List.length_map]
theorem pe_mk0 {X : Cx} {k j : Nat} {C : Addr} {x : Str} {sp : Sp} {dvs : List V} {p pos : Pos} (c : C8.Mak X.prog X.w X.K X.mg X.base k x C sp dvs) (hr : Room j X.A) (hk : k + 1 ≤ j) (hg : Gl X x) (hd : (x == ("__debug__" : Str)) = false := by decide) :
    PE X (.Call (.Name x p) [] [] pos) (tMake C sp dvs C8.E0 tNil) := by
  obtain ⟨f, fd, ps, ds, M, F, hm, b, d⟩ := c.ex
  exact pe_make0 M F (hr.mono hk) hg hm b d C8.pass0 hd
theorem told_cons (a : List Int) (r : List (List Int)) : PyFlat.told (a :: r) = ((a.length : Int) :: a) ++ PyFlat.told r := rfl
theorem ok_answers {k : Nat} (T : Top K mg CR CS) (c1 : C8.Mak P w K mg base 1 "Service" CS (spSvcInit CS) []) (c2 : C8.Mak P w K mg base 1 "Reader" CR (spReaderInit CR) []) (c3 : C8.Met P w K mg base 1 CR "is_done" (spIsDone K CR) []) (hk : 2 ≤ k)
    (c4 : C8.Cal P w K mg base k "answer" (spAnswer K CR CS) []) {f : Addr} {fd : FuncData} (F : C8.Fun K "answers" "answers" s_answers f fd) : FnOk P w K mg base C8.CX0 (k + 1) f fd ["calls"] (spAnswers K) := by
  refine C8.fn0 F sc_answers (fun vs H Q E h => by obtain ⟨t, p, rfl, _⟩ := h; rfl) (fun cdv A outer s H vs Q E hr h => ?_)
  obtain ⟨c, l, rfl, hc, hask, kk⟩ := h
  refine ⟨_, pss_cons (ps_set (i := 1) sc_answers.nd rfl (Or.inl rfl) (pe_mk0 c1 hr (by omega) rfl))
    (pss_cons (ps_set (i := 2) sc_answers.nd rfl (Or.inl rfl) (C8.pe_mk c2 hr (by omega) rfl (pa_cons (pv 0) pa_nil)))
    (pss_cons (ps_set (i := 3) sc_answers.nd rfl (Or.inl rfl) (pe_lst pa_nil))
    (pss_cons (ps_while PassesOwn.never (pt_not (pt_val (C8.pe_mt0 c3 hr (by omega) (pv 2))))
      (pss_cons (ps_set (i := 4) sc_answers.nd rfl (Or.inl rfl) (C8.pe_c c4 hr (by omega) rfl (pa_cons (pv 1) (pa_cons (pv 2) pa_nil))))
      (pss_cons (ps_expr (pe_bm PySem.F.plainAttrs_list PySem.F.slot_list_append PySem.F.type_list_append mt_append (pv 3) (pa_cons (pe_len K rfl T.b_len (pv 4)) pa_nil)))
      (pss_one (ps_expr (pe_bm PySem.F.plainAttrs_list PySem.F.slot_list_extend PySem.F.type_list_extend mt_extend (pv 3) (pa_cons (pv 4) pa_nil)))))))
    (pss_one (ps_ret (pv 3)))))), ?_⟩
  obtain ⟨cs, el, hasked, eans, hlen, _, hmany⟩ := request hask
  -- service = Service()
  intro sa d1 nsa nd1 ne1
  have s1 : Same H (upd (upd H d1 (.own sa)) sa (.ins CS d1 [])) := fun b o e => by
    rw [upd_ne (ne_of_none e nsa), upd_ne (ne_of_none e nd1)]
    exact e
  refine ⟨sa, d1, rfl, upd_same, fun H1 l1 l2 l3 S1 b1 f1 f2 f3 => ⟨rfl, ?_⟩⟩
  have s2 : Same H H1 := fun b o e => b1 b o (ne_of_none e nsa) (s1 b o e)
  -- reader = Reader(calls)
  refine ⟨_, rfl, ?_⟩
  intro ra d2 nra nd2 ne2
  have s3 : Same H1 (upd (upd H1 d2 (.own ra)) ra (.ins CR d2 [])) := fun b o e => by
    rw [upd_ne (ne_of_none e nra), upd_ne (ne_of_none e nd2)]
    exact e
  refine ⟨ra, d2, c, rfl, upd_same, fun H2 R2 b2 => ⟨rfl, ?_⟩⟩
  have s4 : Same H1 H2 := fun b o e => b2 b o (ne_of_none e nra) (s3 b o e)
  have S2 := S1.same s4
  have hsr : sa ≠ ra := by
    obtain ⟨d, e⟩ := S1.ob
    exact ne_of_none e nra
  -- given = []
  refine ⟨Nat.zero_le _, fun g hg => ?_⟩
  have s5 : Same H2 (upd H2 g (.lst [])) := Same.new hg
  have hgl : g ∉ [l1, l2, l3] := fun z => by
    obtain ⟨o, e, _⟩ := S2.places g z
    rw [hg] at e
    cases e
  have R3 : ReaderAt CR (upd H2 g (.lst [])) ra c 0 := by
    obtain ⟨d, e⟩ := R2
    exact ⟨d, s5 _ _ e⟩
  refine ⟨fun m σ H' => ∃ (h : Dx07.House) (i : Nat) (rest : List (List (List Int))) (out : List Int) (v4 : Option V), m = rest.length ∧ σ = [some (.ref c), some (.ref sa), some (.ref ra), some (.ref g), v4] ∧ SvcAt CS H' sa l1 l2 l3 h ∧ ReaderAt CR H' ra c i ∧ CallsAt K H' c l ∧
    l.drop i = putAll rest ∧ (∀ x ∈ rest, Asked x) ∧ H' g = some (.lst (iV out)) ∧ out ++ PyFlat.told (PyFlat.played Dx07Neutral.step h rest) = PyDx07.answers l ∧ Dx07Neutral.many h rest ≤ 30000, ⟨cs.length, Dx07.init, 0, cs, [], none, rfl, rfl, S2.same s5, R3, (hc.same (s2.trans (s4.trans s5))), by rw [List.drop_zero]; exact el, hasked, upd_same, eans.symm, hmany⟩, ?_⟩
  rintro m σ H3 ⟨h, i, rest, out, v4, rfl, rfl, S3, R3, C3, hd, ha, hg3, htot, hmany3⟩
  obtain ⟨dr, hra⟩ := id R3
  refine ⟨_, rfl, ra, dr, _, rfl, hra, rF_none c i (by decide +kernel) (by decide +kernel), ra, c, i, l, rfl, R3, C3.sq, _, rfl, ?_⟩
  match rest, hd, ha, htot, hmany3 with
  | [], hd, ha, htot, hmany3 =>
    have hli : l.length ≤ i := List.drop_eq_nil_iff.mp hd
    rw [decide_eq_true hli]
    refine ⟨_, rfl, kk H3 g ?_⟩
    rw [hg3, ← htot]
    show _ = some (HO.lst (iV (out ++ [])))
    rw [List.append_nil]
  | call :: rest, hd, ha, htot, hmany3 =>
    have hm1 : (Dx07Neutral.step h call).2.length + Dx07Neutral.many (Dx07Neutral.step h call).1 rest ≤ 30000 := hmany3
    have hd : l.drop i = put1 call ++ putAll rest := hd
    have hac := ha call (List.Mem.head _)
    have hli : ¬ l.length ≤ i := fun z => by
      have e : l.drop i = [] := List.drop_eq_nil_iff.mpr z
      have e2 : (put1 call ++ putAll rest).length = 0 := by
        rw [← hd, e]
        rfl
      have := put1_pos hac
      rw [List.length_append] at e2
      omega
    rw [decide_eq_false hli]
    have htot2 : out ++ (((Dx07Neutral.step h call).2.length : Int) :: (Dx07Neutral.step h call).2 ++ PyFlat.told (PyFlat.played Dx07Neutral.step (Dx07Neutral.step h call).1 rest)) = PyDx07.answers l := htot
    have hl2 : out.length + (1 + (Dx07Neutral.step h call).2.length) ≤ 30060 := by
      have e := congrArg List.length htot2
      rw [List.length_append, List.length_append, List.length_cons] at e
      omega
    refine ⟨fun σ' H' => ∃ m', m' < (call :: rest).length ∧ ∃ (h : Dx07.House) (i : Nat) (rest : List (List (List Int))) (out : List Int) (v4 : Option V), m' = rest.length ∧ σ' = [some (.ref c), some (.ref sa), some (.ref ra), some (.ref g), v4] ∧ SvcAt CS H' sa l1 l2 l3 h ∧ ReaderAt CR H' ra c i ∧ CallsAt K H' c l ∧
      l.drop i = putAll rest ∧ (∀ x ∈ rest, Asked x) ∧ H' g = some (.lst (iV out)) ∧ out ++ PyFlat.told (PyFlat.played Dx07Neutral.step h rest) = PyDx07.answers l ∧ Dx07Neutral.many h rest ≤ 30000, fun σ' H' z => z, ?_⟩
    refine ⟨_, rfl, _, rfl, sa, l1, l2, l3, ra, c, h, i, l, putAll rest, call, rfl, S3, R3, hsr, C3, hd, hac, by omega, fun H4 p x4 S4 R4 hp hpn => ?_⟩
    have hgA : g ∉ [l1, l2, l3, ra] := fun z => by
      rcases List.mem_append.mp (show g ∈ [l1, l2, l3] ++ [ra] from z) with y | y
      · exact hgl y
      · rw [List.mem_singleton.mp y, hra] at hg3
        cases hg3
    have hg4 := x4 g _ hgA hg3
    have hpg : p ≠ g := fun z => by
      rw [z, hg3] at hpn
      cases hpn
    have C4 : CallsAt K H4 c l := C3.x x4 fun a z => by
      rcases List.mem_append.mp (show a ∈ [l1, l2, l3] ++ [ra] from z) with y | y
      · obtain ⟨o, e, n, _⟩ := S3.places a y
        exact ⟨o, e, n⟩
      · rw [List.mem_singleton.mp y]
        exact ⟨_, hra, fun u v e => by cases e⟩
    refine ⟨_, rfl, .inl ⟨rfl, _, SqL.of' hg4⟩, _, rfl, p, _, rfl, .inl (SqL.of' hp), g, _, _, rfl, rfl, hg4, line_small (by rw [iV_len]; omega), ?_⟩
    have hg5 : (upd H4 g (.lst (iV out ++ [V.int ((iV (Dx07Neutral.step h call).2).length : Int)]))) g = some (.lst (iV (out ++ [((Dx07Neutral.step h call).2.length : Int)]))) := by
      rw [upd_same, iV_len]
      unfold iV
      rw [List.map_append]
      rfl
    have hp5 : (upd H4 g (.lst (iV out ++ [V.int ((iV (Dx07Neutral.step h call).2).length : Int)]))) p = some (.lst (iV (Dx07Neutral.step h call).2)) := by
      rw [upd_ne hpg]
      exact hp
    refine ⟨_, rfl, .inl ⟨rfl, _, SqL.of' hg5⟩, _, rfl, g, p, _, _, rfl, rfl, hg5, hp5, ?_, ?_⟩
    · refine Nat.le_of_lt (line_small ?_)
      rw [iV_len, iV_len, List.length_append]
      show out.length + 1 + _ ≤ _
      omega
    · have b6 : SameBut g H4 (upd (upd H4 g (.lst (iV out ++ [V.int ((iV (Dx07Neutral.step h call).2).length : Int)]))) g (.lst (iV (out ++ [((Dx07Neutral.step h call).2.length : Int)]) ++ iV (Dx07Neutral.step h call).2))) := SameBut.set.trans SameBut.set
      refine ⟨rest.length, Nat.lt_succ_self _, _, i + (put1 call).length, rest, out ++ ((((Dx07Neutral.step h call).2.length : Int)) :: (Dx07Neutral.step h call).2), _, rfl, rfl, S4.list hg4 hgl b6, ?_, ?_, ?_, fun x hx => ha x (List.Mem.tail _ hx), ?_, ?_, by omega⟩
      · obtain ⟨d, e⟩ := R4
        exact ⟨d, b6 _ _ (ne_of e hg4 (by intro z; cases z)) e⟩
      · exact C4.stay fun o e => b6 _ _ (ne_of e hg4 (by intro z; cases z)) e
      · rw [← List.drop_drop, hd, List.drop_left]
      · rw [upd_same]
        unfold iV
        rw [List.map_append, List.map_append, List.append_assoc]
        rfl
      · rw [← htot2, List.append_assoc]
end
end Mw
namespace Mw
open PySem PySem.Spec PyProof.Rows L2
open Dx (Fact Facts Rule Atom Fill)
section
variable {P : Program} {w : World} {K : PySem.W.Frag} {mg : Str → Option Value} {base : Heap} {CR CS : Addr}
/-! ## what stays, what is new -/
theorem SameX.sub {A B : List Addr} {H H' : Hp} (x : SameX A H H') (s : ∀ a ∈ A, a ∈ B) : SameX B H H' := fun b o n e => x b o (fun z => n (s b z)) e
theorem CallsAt.read {H H' : Hp} {ra c C dx : Addr} {l : List Int} {fs : List (Str × V)} (h : CallsAt K H c l) (hr : H ra = some (.ins C dx fs)) (s : SameBut ra H H') : CallsAt K H' c l := h.stay fun o e => s _ _ (ne_of e hr (by intro z; cases z)) e
theorem SvcAt.tracks {H : Hp} {a l1 l2 l3 ra c : Addr} {i : Nat} {h : Dx07.House} (S : SvcAt CS H a l1 l2 l3 h) (R : ReaderAt CR H ra c i) : ∀ p ∈ [l1, l2, l3, ra], H p ≠ none := fun p hp z => by
  rcases List.mem_append.mp (show p ∈ [l1, l2, l3] ++ [ra] from hp) with y | y
  · obtain ⟨o, e, _⟩ := S.places p y
    rw [z] at e
    cases e
  · obtain ⟨d, e⟩ := R
    rw [List.mem_singleton.mp y] at z
    rw [z] at e
    cases e
/-- what is new behind a call was new ahead of it -/
theorem new_back {H H' : Hp} {a l1 l2 l3 ra c p : Addr} {i : Nat} {h : Dx07.House} (S : SvcAt CS H' a l1 l2 l3 h) (R : ReaderAt CR H' ra c i) (x : SameX [l1, l2, l3, ra] H H') (hp : H' p = none) : H p = none := by
  by_cases m : p ∈ [l1, l2, l3, ra]
  · exact absurd hp (S.tracks R p m)
  · cases e : H p with
    | none => rfl
    | some o =>
      rw [x p o m e] at hp
      cases hp
theorem SvcAt.off {H : Hp} {a l1 l2 l3 ra c : Addr} {i : Nat} {h : Dx07.House} (S : SvcAt CS H a l1 l2 l3 h) (R : ReaderAt CR H ra c i) : ra ∉ [l1, l2, l3] := fun z => by
  obtain ⟨o, e, _, n⟩ := S.places ra z
  obtain ⟨d, r⟩ := R
  rw [r] at e
  exact n _ _ _ (Option.some.inj e).symm
theorem ReaderAt.x {H H' : Hp} {ra c : Addr} {i : Nat} {A : List Addr} (R : ReaderAt CR H ra c i) (x : SameX A H H') (n : ra ∉ A) : ReaderAt CR H' ra c i := by
  obtain ⟨d, e⟩ := R
  exact ⟨d, x _ _ n e⟩
theorem ReaderAt.same {H H' : Hp} {ra c : Addr} {i : Nat} (R : ReaderAt CR H ra c i) (s : Same H H') : ReaderAt CR H' ra c i := by
  obtain ⟨d, e⟩ := R
  exact ⟨d, s _ _ e⟩
theorem row_ok {b : List Int} (h : Dx07Neutral.row32 b 24 = true) : b.length ≤ 24 ∧ iV b = nV (Dx07Neutral.nats b) ∧ (Dx07Neutral.nats b).length ≤ 24 := by
  unfold Dx07Neutral.row32 at h
  simp only [Bool.and_eq_true, decide_eq_true_eq, List.all_eq_true] at h
  refine ⟨h.1, iV_nat fun z hz => ?_, by unfold Dx07Neutral.nats; rw [List.length_map]; exact h.1⟩
  have := h.2 z hz
  unfold Dx07Neutral.whole32 at this
  simp only [Bool.and_eq_true, decide_eq_true_eq] at this
  exact this.1
theorem whole_ok {z : Int} (h : Dx07Neutral.whole32 z = true) : z = ((z.toNat : Nat) : Int) := by
  unfold Dx07Neutral.whole32 at h
  simp only [Bool.and_eq_true, decide_eq_true_eq] at h
  omega
/-- an answer of one number -/
theorem out_one {a : Dx07.Ans} (h : a.l = []) : Dx07Neutral.out a = [a.v] := by
  unfold Dx07Neutral.out
  rw [h]
  rfl
theorem one_l (h : Dx07.House) (b d : List Nat) : (Dx07.step h (.one b d)).2.l = [] := by
  cases e : Dx07.rule? 0 b d with
  | none => rw [step_one_bad e]; rfl
  | some r =>
    rw [step_one_ok e]
    split
    · rfl
    · split <;> rfl
theorem two_l (h : Dx07.House) (b d : List Nat) : (Dx07.step h (.two b d)).2.l = [] := by
  cases e : Dx07.rule? 2 b d with
  | none => rw [step_two_bad e]; rfl
  | some r =>
    rw [step_two_ok e]
    split <;> rfl
theorem fact_l (h : Dx07.House) (t a b : Nat) : (Dx07.step h (.fact t a b)).2.l = [] := by
  rw [step_fact]
  split
  · rfl
  · split
    · rfl
    · split <;> rfl
theorem gone_l (h : Dx07.House) (t a b : Nat) : (Dx07.step h (.gone t a b)).2.l = [] := by
  rw [step_gone]
  split <;> rfl
theorem goes_l (h : Dx07.House) (k : List Nat) : (Dx07.step h (.goes k)).2.l = [] ∧ (Dx07.step h (.goes k)).1 = h := by
  rw [step_goes]
  split <;> exact ⟨rfl, rfl⟩
theorem lacks_h (h : Dx07.House) (k : List Nat) : (Dx07.step h (.lacks k)).1 = h := by
  rw [step_lacks]
  split <;> rfl
/-! ## answer_to_rule, answer_to_fact -/
def ruleCall (n : Int) (b d : List Int) : Dx07.Call := if n = 1 then .one (Dx07Neutral.nats b) (Dx07Neutral.nats d) else .two (Dx07Neutral.nats b) (Dx07Neutral.nats d)
def spToRule (K : PySem.W.Frag) (CR CS : Addr) : Sp := fun vs H Q _ => ∃ (sa l1 l2 l3 ra c : Addr) (h : Dx07.House) (i : Nat) (l rest b d : List Int) (n : Int), vs = [.ref sa, .ref ra, .int n] ∧ SvcAt CS H sa l1 l2 l3 h ∧ ReaderAt CR H ra c i ∧ sa ≠ ra ∧ CallsAt K H c l ∧
  l.drop i = putRow b ++ (putRow d ++ rest) ∧ Dx07Neutral.row32 b 24 = true ∧ Dx07Neutral.row32 d 24 = true ∧ (n = 1 ∨ n = 2) ∧
  ∀ H', SameX [l1, l2, l3, ra] H H' → SvcAt CS H' sa l1 l2 l3 (Dx07.step h (ruleCall n b d)).1 → ReaderAt CR H' ra c (i + 1 + b.length + 1 + d.length) → Q (.int (Dx07.step h (ruleCall n b d)).2.v) H'
theorem sc_to_rule : FnScope ["service", "reader", "call", "body", "head"] ["service", "reader", "call"] (C8.fnScope s_answer_to_rule) := C8.fnScope_by (by decide +kernel)
theorem ok_answer_to_rule (T : Top K mg CR CS) (c1 : C8.Met P w K mg base 2 CR "row" (spRow K CR) []) (c2 : C8.Met P w K mg base 4 CS "one" (spOne K CS) []) (c3 : C8.Met P w K mg base 4 CS "two" (spTwo K CS) []) : C8.Cal P w K mg base 5 "answer_to_rule" (spToRule K CR CS) [] := by
  refine cal_of T.d_answer_to_rule sc_to_rule (fun _ _ _ _ _ _ us hl => match us, hl with | [_, _, _], _ => rfl) (fun vs H Q E h => by obtain ⟨_, _, _, _, _, _, _, _, _, _, _, _, _, rfl, _⟩ := h; rfl) (fun f cdv A outer s H vs Q E hr h => ?_)
  obtain ⟨sa, l1, l2, l3, ra, c, h, i, l, rest, b, d, n, rfl, S, R, hsr, C, hd, hb, hd2, hn, k⟩ := h
  obtain ⟨t1, m1⟩ := T.c_ONE
  refine ⟨_, pss_cons (ps_set (i := 3) sc_to_rule.nd rfl (Or.inl rfl) (C8.pe_mt0 c1 hr (by decide) (pv 1)))
    (pss_cons (ps_set (i := 4) sc_to_rule.nd rfl (Or.inl rfl) (C8.pe_mt0 c1 hr (by decide) (pv 1)))
    (pss_cons (ps_if (pt_cmpR op_eq (pv 2) (pgI m1) (nomark _)) (pss_one (ps_ret (C8.pe_mt c2 hr (by decide) (pv 0) (pa_cons (pv 3) (pa_cons (pv 4) pa_nil))))) pss_nil)
    (pss_one (ps_ret (C8.pe_mt c3 hr (by decide) (pv 0) (pa_cons (pv 3) (pa_cons (pv 4) pa_nil))))))), ?_⟩
  obtain ⟨b24, eb, nb⟩ := row_ok hb
  obtain ⟨d24, ed, nd⟩ := row_ok hd2
  obtain ⟨dr, hra⟩ := id R
  refine ⟨_, rfl, ra, dr, _, rfl, hra, rF_none c i (by decide +kernel) (by decide +kernel), ra, c, i, l, b, _, rfl, R, C.sq, hd, fun H1 p1 b1 R1 hp1 np1 => ?_⟩
  have S1 := S.ins hra hsr b1
  have C1 := C.read hra b1
  obtain ⟨dr1, hra1⟩ := id R1
  have hd1 : l.drop (i + 1 + b.length) = putRow d ++ rest := by
    have e : (putRow b).length = 1 + b.length := by
      show (_ :: b).length = _
      rw [List.length_cons, Nat.add_comm]
    rw [Nat.add_assoc, ← List.drop_drop, hd, ← e, List.drop_left]
  refine ⟨_, rfl, ra, dr1, _, rfl, hra1, rF_none c _ (by decide +kernel) (by decide +kernel), ra, c, _, l, d, _, rfl, R1, C1.sq, hd1, fun H2 p2 b2 R2 hp2 np2 => ?_⟩
  have S2 := S1.ins hra1 hsr b2
  have n1 : p1 ≠ ra := ne_of hp1 hra1 (by intro z; cases z)
  have hp12 := b2 _ _ n1 hp1
  have x02 : SameX [l1, l2, l3, ra] H H2 := (SameX.but (by simp) b1).trans (SameX.but (by simp) b2)
  obtain ⟨dx, ha⟩ := S2.ob
  have rp : ReaderAt CR H2 ra c (i + 1 + b.length + 1 + d.length) := R2
  have q1 : SqL K H2 p1 (nV (Dx07Neutral.nats b)) := SqL.of' (by rw [← eb]; exact hp12)
  have q2 : SqL K H2 p2 (nV (Dx07Neutral.nats d)) := SqL.of' (by rw [← ed]; exact hp2)
  refine ⟨_, rfl, rfl, _, rfl, ?_⟩
  have off := S2.off R2
  rcases hn with hn | hn
  · subst hn
    rw [show decide (V.int 1 = V.int 1) = true from rfl]
    refine ⟨_, rfl, sa, dx, _, rfl, ha, sF_none l1 l2 l3 (by decide +kernel) (by decide +kernel) (by decide +kernel), _, rfl, _, rfl, sa, l1, l2, l3, p1, p2, h, _, _, rfl, S2, q1, q2, nb, nd, fun H3 x3 S3 => ?_⟩
    exact k H3 (x02.trans (x3.sub fun a ha => by simp at ha; simp [ha])) S3 (rp.x x3 fun z => off (by simp at z; simp [z]))
  · subst hn
    rw [show decide (V.int 2 = V.int 1) = false from rfl]
    refine ⟨_, rfl, sa, dx, _, rfl, ha, sF_none l1 l2 l3 (by decide +kernel) (by decide +kernel) (by decide +kernel), _, rfl, _, rfl, sa, l1, l2, l3, p1, p2, h, _, _, rfl, S2, q1, q2, nb, nd, fun H3 x3 S3 => ?_⟩
    exact k H3 (x02.trans (x3.sub fun a ha => by simp at ha; simp [ha])) S3 (rp.x x3 fun z => off (by simp at z; simp [z]))
def factCall (n t a b : Int) : Dx07.Call := if n = 3 then .fact t.toNat a.toNat b.toNat else .gone t.toNat a.toNat b.toNat
def spToFact (K : PySem.W.Frag) (CR CS : Addr) : Sp := fun vs H Q _ => ∃ (sa l1 l2 l3 ra c : Addr) (h : Dx07.House) (i : Nat) (l rest : List Int) (t a b n : Int), vs = [.ref sa, .ref ra, .int n] ∧ SvcAt CS H sa l1 l2 l3 h ∧ ReaderAt CR H ra c i ∧ sa ≠ ra ∧ CallsAt K H c l ∧
  l.drop i = t :: a :: b :: rest ∧ Dx07Neutral.whole32 t = true ∧ Dx07Neutral.whole32 a = true ∧ Dx07Neutral.whole32 b = true ∧ (n = 3 ∨ n = 4) ∧
  ∀ H', SameX [l1, l2, l3, ra] H H' → SvcAt CS H' sa l1 l2 l3 (Dx07.step h (factCall n t a b)).1 → ReaderAt CR H' ra c (i + 3) → Q (.int (Dx07.step h (factCall n t a b)).2.v) H'
theorem sc_to_fact : FnScope ["service", "reader", "call", "table", "a", "b"] ["service", "reader", "call"] (C8.fnScope s_answer_to_fact) := C8.fnScope_by (by decide +kernel)
theorem ok_answer_to_fact (T : Top K mg CR CS) (c1 : C8.Met P w K mg base 1 CR "number" (spNumber K CR) []) (c2 : C8.Met P w K mg base 3 CS "fact" (spFact CS) []) (c3 : C8.Met P w K mg base 2 CS "gone" (spGone CS) []) : C8.Cal P w K mg base 4 "answer_to_fact" (spToFact K CR CS) [] := by
  refine cal_of T.d_answer_to_fact sc_to_fact (fun _ _ _ _ _ _ us hl => match us, hl with | [_, _, _], _ => rfl) (fun vs H Q E h => by obtain ⟨_, _, _, _, _, _, _, _, _, _, _, _, _, _, rfl, _⟩ := h; rfl) (fun f cdv A outer s H vs Q E hr h => ?_)
  obtain ⟨sa, l1, l2, l3, ra, c, h, i, l, rest, t, a, b, n, rfl, S, R, hsr, C, hd, ht, ha0, hb, hn, k⟩ := h
  obtain ⟨t1, m1⟩ := T.c_FACT
  refine ⟨_, pss_cons (ps_set (i := 3) sc_to_fact.nd rfl (Or.inl rfl) (C8.pe_mt0 c1 hr (by decide) (pv 1)))
    (pss_cons (ps_set (i := 4) sc_to_fact.nd rfl (Or.inl rfl) (C8.pe_mt0 c1 hr (by decide) (pv 1)))
    (pss_cons (ps_set (i := 5) sc_to_fact.nd rfl (Or.inl rfl) (C8.pe_mt0 c1 hr (by decide) (pv 1)))
    (pss_cons (ps_if (pt_cmpR op_eq (pv 2) (pgI m1) (nomark _)) (pss_one (ps_ret (C8.pe_mt c2 hr (by decide) (pv 0) (pa_cons (pv 3) (pa_cons (pv 4) (pa_cons (pv 5) pa_nil)))))) pss_nil)
    (pss_one (ps_ret (C8.pe_mt c3 hr (by decide) (pv 0) (pa_cons (pv 3) (pa_cons (pv 4) (pa_cons (pv 5) pa_nil))))))))), ?_⟩
  obtain ⟨e1, d1⟩ := drop_at hd
  obtain ⟨e2, d2⟩ := drop_at d1
  obtain ⟨e3, _⟩ := drop_at d2
  obtain ⟨dr, hra⟩ := id R
  refine ⟨_, rfl, ra, dr, _, rfl, hra, rF_none c i (by decide +kernel) (by decide +kernel), ra, c, i, l, _, rfl, R, C.sq, e1, fun H1 b1 R1 => ?_⟩
  have S1 := S.ins hra hsr b1
  have C1 := C.read hra b1
  obtain ⟨dr1, hra1⟩ := id R1
  refine ⟨_, rfl, ra, dr1, _, rfl, hra1, rF_none c _ (by decide +kernel) (by decide +kernel), ra, c, _, l, _, rfl, R1, C1.sq, e2, fun H2 b2 R2 => ?_⟩
  have S2 := S1.ins hra1 hsr b2
  have C2 := C1.read hra1 b2
  obtain ⟨dr2, hra2⟩ := id R2
  refine ⟨_, rfl, ra, dr2, _, rfl, hra2, rF_none c _ (by decide +kernel) (by decide +kernel), ra, c, _, l, _, rfl, R2, C2.sq, e3, fun H3 b3 R3 => ?_⟩
  have S3 := S2.ins hra2 hsr b3
  have x03 : SameX [l1, l2, l3, ra] H H3 := ((SameX.but (by simp) b1).trans (SameX.but (by simp) b2)).trans (SameX.but (by simp) b3)
  obtain ⟨dx, ha⟩ := S3.ob
  have off := S3.off R3
  refine ⟨_, rfl, rfl, _, rfl, ?_⟩
  rcases hn with hn | hn
  · subst hn
    rw [show decide (V.int 3 = V.int 3) = true from rfl]
    refine ⟨_, rfl, sa, dx, _, rfl, ha, sF_none l1 l2 l3 (by decide +kernel) (by decide +kernel) (by decide +kernel), _, rfl, _, rfl, _, rfl, sa, l1, l2, l3, h, t.toNat, a.toNat, b.toNat, by rw [← whole_ok ht, ← whole_ok ha0, ← whole_ok hb]; rfl, S3, fun H4 x4 S4 => ?_⟩
    exact k H4 (x03.trans (x4.sub fun a ha => by simp at ha; simp [ha])) S4 (R3.x x4 fun z => off (by simp at z; simp [z]))
  · subst hn
    rw [show decide (V.int 4 = V.int 3) = false from rfl]
    refine ⟨_, rfl, sa, dx, _, rfl, ha, sF_none l1 l2 l3 (by decide +kernel) (by decide +kernel) (by decide +kernel), _, rfl, _, rfl, _, rfl, sa, l1, l2, l3, h, t.toNat, a.toNat, b.toNat, by rw [← whole_ok ht, ← whole_ok ha0, ← whole_ok hb]; rfl, S3, fun H4 x4 S4 => ?_⟩
    exact k H4 (x03.trans (x4.sub fun a ha => by simp at ha; simp [ha])) S4 (R3.x x4 fun z => off (by simp at z; simp [z]))
/-! ## answer -/
theorem sc_answer : FnScope ["service", "reader", "call"] ["service", "reader"] (C8.fnScope s_answer) := C8.fnScope_by (by decide +kernel)
theorem told_len (l : Facts) : (Dx07Neutral.out (Dx07.told l)).length = 1 + 3 * l.length := by
  show (_ :: (factNums l).map _).length = _
  rw [List.length_cons, List.length_map, factNums_len]
  omega
theorem told_iV (l : Facts) : nV (l.length :: factNums l) = iV (Dx07Neutral.out (Dx07.told l)) := by
  rw [nV_iV]
  rfl
theorem composed_iV (c : List Rule) : nV (c.length :: rowsOf c) = iV (Dx07Neutral.out ⟨(c.length : Nat), rowsOf c⟩) := by
  rw [nV_iV]
  rfl
theorem ok_answer (T : Top K mg CR CS) (c1 : C8.Met P w K mg base 1 CR "number" (spNumber K CR) []) (c2 : C8.Met P w K mg base 2 CR "row" (spRow K CR) []) (c3 : C8.Met P w K mg base 1 CS "begins" (spBegins CS) [])
    (c4 : C8.Cal P w K mg base 5 "answer_to_rule" (spToRule K CR CS) []) (c5 : C8.Cal P w K mg base 4 "answer_to_fact" (spToFact K CR CS) []) (c6 : C8.Met P w K mg base 6 CS "composed" (spComposed CS) [])
    (c7 : C8.Met P w K mg base 5 CS "middle" (spFactsOut CS fun h => h.book.middle h.source) []) (c8 : C8.Met P w K mg base 5 CS "end" (spFactsOut CS fun h => h.book.end_ h.source) []) (c9 : C8.Met P w K mg base 6 CS "direct" (spFactsOut CS fun h => Dx07.target h.source h.book.composed) [])
    (c10 : C8.Met P w K mg base 5 CS "goes" (spGoes K CS) []) (c11 : C8.Met P w K mg base 6 CS "lacks" (spLacks K CS) []) : C8.Cal P w K mg base 11 "answer" (spAnswer K CR CS) [] := by
  refine cal_of T.d_answer sc_answer (fun _ _ _ _ _ _ us hl => match us, hl with | [_, _], _ => rfl) (fun vs H Q E h => by obtain ⟨_, _, _, _, _, _, _, _, _, _, _, rfl, _⟩ := h; rfl) (fun f cdv A outer s H vs Q E hr h => ?_)
  obtain ⟨sa, l1, l2, l3, ra, c, h, i, l, rest, call, rfl, S, R, hsr, C, hd, hask, hlen, k⟩ := h
  obtain ⟨u0, m0⟩ := T.c_BEGINS
  obtain ⟨u1, m1⟩ := T.c_ONE
  obtain ⟨u2, m2⟩ := T.c_TWO
  obtain ⟨u3, m3⟩ := T.c_FACT
  obtain ⟨u4, m4⟩ := T.c_GONE
  obtain ⟨u5, m5⟩ := T.c_COMPOSED
  obtain ⟨u6, m6⟩ := T.c_MIDDLE_steps
  obtain ⟨u7, m7⟩ := T.c_END_steps
  obtain ⟨u8, m8⟩ := T.c_DIRECT
  obtain ⟨u9, m9⟩ := T.c_GOES
  obtain ⟨u10, m10⟩ := T.c_LACKS
  refine ⟨_, pss_cons (ps_set (i := 2) sc_answer.nd rfl (Or.inl rfl) (C8.pe_mt0 c1 hr (by decide) (pv 1)))
    (pss_cons (ps_if (pt_cmpR op_eq (pv 2) (pgI m0) (nomark _)) (pss_one (ps_ret (pe_lst (pa_cons (C8.pe_mt0 c3 hr (by decide) (pv 0)) pa_nil)))) pss_nil)
    (pss_cons (ps_if (PW.pt (pw_or (pt_cmpR op_eq (pv 2) (pgI m1) (nomark _)) (pw_or1 (pt_cmpR op_eq (pv 2) (pgI m2) (nomark _))))) (pss_one (ps_ret (pe_lst (pa_cons (C8.pe_c c4 hr (by decide) rfl (pa_cons (pv 0) (pa_cons (pv 1) (pa_cons (pv 2) pa_nil)))) pa_nil)))) pss_nil)
    (pss_cons (ps_if (PW.pt (pw_or (pt_cmpR op_eq (pv 2) (pgI m3) (nomark _)) (pw_or1 (pt_cmpR op_eq (pv 2) (pgI m4) (nomark _))))) (pss_one (ps_ret (pe_lst (pa_cons (C8.pe_c c5 hr (by decide) rfl (pa_cons (pv 0) (pa_cons (pv 1) (pa_cons (pv 2) pa_nil)))) pa_nil)))) pss_nil)
    (pss_cons (ps_if (pt_cmpR op_eq (pv 2) (pgI m5) (nomark _)) (pss_one (ps_ret (C8.pe_mt0 c6 hr (by decide) (pv 0)))) pss_nil)
    (pss_cons (ps_if (pt_cmpR op_eq (pv 2) (pgI m6) (nomark _)) (pss_one (ps_ret (C8.pe_mt0 c7 hr (by decide) (pv 0)))) pss_nil)
    (pss_cons (ps_if (pt_cmpR op_eq (pv 2) (pgI m7) (nomark _)) (pss_one (ps_ret (C8.pe_mt0 c8 hr (by decide) (pv 0)))) pss_nil)
    (pss_cons (ps_if (pt_cmpR op_eq (pv 2) (pgI m8) (nomark _)) (pss_one (ps_ret (C8.pe_mt0 c9 hr (by decide) (pv 0)))) pss_nil)
    (pss_cons (ps_if (pt_cmpR op_eq (pv 2) (pgI m9) (nomark _)) (pss_one (ps_ret (pe_lst (pa_cons (C8.pe_mt c10 hr (by decide) (pv 0) (pa_cons (C8.pe_mt0 c2 hr (by decide) (pv 1)) pa_nil)) pa_nil)))) pss_nil)
    (pss_cons (ps_if (pt_cmpR op_eq (pv 2) (pgI m10) (nomark _)) (pss_one (ps_ret (C8.pe_mt c11 hr (by decide) (pv 0) (pa_cons (C8.pe_mt0 c2 hr (by decide) (pv 1)) pa_nil)))) pss_nil)
    (pss_one ps_never)))))))))), ?_⟩
  obtain ⟨dr, hra⟩ := id R
  have news : ∀ {H2 : Hp} {h2 : Dx07.House} {j : Nat} {vs : List V}, SameX [l1, l2, l3, ra] H H2 → SvcAt CS H2 sa l1 l2 l3 h2 → ReaderAt CR H2 ra c j → (Dx07Neutral.step h call).1 = h2 → j = i + (put1 call).length → vs = iV (Dx07Neutral.step h call).2 →
      ∀ p, H2 p = none → Q (.ref p) (upd H2 p (.lst vs)) := fun {H2 h2 j vs} x2 S2 R2 e1 e2 e3 p hp => by
    subst e1 e2 e3
    exact k _ p (x2.trans (SameX.of (Same.new hp))) (S2.same (Same.new hp)) (R2.same (Same.new hp)) upd_same (new_back S2 R2 x2 hp)
  have done : ∀ {H1 H2 : Hp} {p : Addr} {vs : List V}, SameX [l1, l2, l3, ra] H H1 → SvcAt CS H1 sa l1 l2 l3 h → ∀ {j : Nat}, ReaderAt CR H1 ra c j → (Dx07Neutral.step h call).1 = h → j = i + (put1 call).length → vs = iV (Dx07Neutral.step h call).2 →
      Same H1 H2 → H1 p = none → H2 p = some (.lst vs) → Q (.ref p) H2 := fun {H1 H2 p vs} x1 S1 {j} R1 e1 e2 e3 s2 np hp => by
    subst e2 e3
    exact k _ p (x1.trans (SameX.of s2)) (by rw [e1]; exact S1.same s2) (R1.same s2) hp (new_back S1 R1 x1 np)
  cases hask with
  | begins =>
    obtain ⟨e0, dr1⟩ := drop_at (show l.drop i = 0 :: _ from hd)
    refine ⟨_, rfl, ra, dr, _, rfl, hra, rF_none c i (by decide +kernel) (by decide +kernel), ra, c, i, l, 0, rfl, R, C.sq, e0, fun H1 b1 R1 => ?_⟩
    have S1 := S.ins hra hsr b1
    obtain ⟨dx, ha⟩ := id S1.ob
    have x1 : SameX [l1, l2, l3, ra] H H1 := SameX.but (by simp) b1
    have C1 := C.read hra b1
    have off := S1.off R1
    refine ⟨_, rfl, rfl, _, rfl, ?_⟩
    rw [show decide (V.int 0 = V.int 0) = true from rfl]
    refine ⟨_, rfl, sa, dx, _, rfl, ha, sF_none l1 l2 l3 (by decide +kernel) (by decide +kernel) (by decide +kernel), sa, l1, l2, l3, h, rfl, S1, fun H2 x2 S2 => ⟨(by show 1 ≤ sizeLine; decide), ?_⟩⟩
    exact news (x1.trans (x2.sub fun a ha => by simp at ha; simp; rcases ha with e | e | e <;> simp [e])) S2 (R1.x x2 off) rfl rfl rfl
  | one b d hb hd2 =>
    obtain ⟨e0, dr1⟩ := drop_at (show l.drop i = 1 :: _ from hd)
    refine ⟨_, rfl, ra, dr, _, rfl, hra, rF_none c i (by decide +kernel) (by decide +kernel), ra, c, i, l, 1, rfl, R, C.sq, e0, fun H1 b1 R1 => ?_⟩
    have S1 := S.ins hra hsr b1
    obtain ⟨dx, ha⟩ := id S1.ob
    have x1 : SameX [l1, l2, l3, ra] H H1 := SameX.but (by simp) b1
    have C1 := C.read hra b1
    have off := S1.off R1
    refine ⟨_, rfl, rfl, _, rfl, ?_⟩
    rw [show decide (V.int 1 = V.int 0) = false from rfl]
    refine ⟨_, rfl, rfl, _, rfl, ?_⟩
    rw [show decide (V.int 1 = V.int 1) = true from rfl]
    refine ⟨_, rfl, _, rfl, _, rfl, sa, l1, l2, l3, ra, c, h, i + 1, l, rest, b, d, 1, rfl, S1, R1, hsr, C1, by rw [dr1]; show putRow b ++ (putRow d ++ []) ++ rest = _; rw [List.append_nil, List.append_assoc], hb, hd2, .inl rfl, fun H2 x2 S2 R2 => ⟨(by show 1 ≤ sizeLine; decide), ?_⟩⟩
    refine news (x1.trans x2) S2 R2 rfl ?_ ?_
    · show i + 1 + 1 + b.length + 1 + d.length = i + (1 :: (putRow b ++ (putRow d ++ []))).length
      rw [List.length_cons, List.length_append, List.length_append]
      show _ = i + ((b.length + 1) + ((d.length + 1) + 0) + 1)
      omega
    · show _ = iV (Dx07Neutral.out (Dx07.step h (.one (Dx07Neutral.nats b) (Dx07Neutral.nats d))).2)
      rw [out_one (one_l h _ _)]
      rfl
  | two b d hb hd2 =>
    obtain ⟨e0, dr1⟩ := drop_at (show l.drop i = 2 :: _ from hd)
    refine ⟨_, rfl, ra, dr, _, rfl, hra, rF_none c i (by decide +kernel) (by decide +kernel), ra, c, i, l, 2, rfl, R, C.sq, e0, fun H1 b1 R1 => ?_⟩
    have S1 := S.ins hra hsr b1
    obtain ⟨dx, ha⟩ := id S1.ob
    have x1 : SameX [l1, l2, l3, ra] H H1 := SameX.but (by simp) b1
    have C1 := C.read hra b1
    have off := S1.off R1
    refine ⟨_, rfl, rfl, _, rfl, ?_⟩
    rw [show decide (V.int 2 = V.int 0) = false from rfl]
    refine ⟨_, rfl, rfl, _, rfl, ?_⟩
    rw [show decide (V.int 2 = V.int 1) = false from rfl]
    refine ⟨_, rfl, rfl, _, rfl, ?_⟩
    rw [show decide (V.int 2 = V.int 2) = true from rfl]
    refine ⟨_, rfl, _, rfl, _, rfl, sa, l1, l2, l3, ra, c, h, i + 1, l, rest, b, d, 2, rfl, S1, R1, hsr, C1, by rw [dr1]; show putRow b ++ (putRow d ++ []) ++ rest = _; rw [List.append_nil, List.append_assoc], hb, hd2, .inr rfl, fun H2 x2 S2 R2 => ⟨(by show 1 ≤ sizeLine; decide), ?_⟩⟩
    refine news (x1.trans x2) S2 R2 rfl ?_ ?_
    · show i + 1 + 1 + b.length + 1 + d.length = i + (2 :: (putRow b ++ (putRow d ++ []))).length
      rw [List.length_cons, List.length_append, List.length_append]
      show _ = i + ((b.length + 1) + ((d.length + 1) + 0) + 1)
      omega
    · show _ = iV (Dx07Neutral.out (Dx07.step h (.two (Dx07Neutral.nats b) (Dx07Neutral.nats d))).2)
      rw [out_one (two_l h _ _)]
      rfl
  | fact t a b ht ha0 hb =>
    obtain ⟨e0, dr1⟩ := drop_at (show l.drop i = 3 :: _ from hd)
    refine ⟨_, rfl, ra, dr, _, rfl, hra, rF_none c i (by decide +kernel) (by decide +kernel), ra, c, i, l, 3, rfl, R, C.sq, e0, fun H1 b1 R1 => ?_⟩
    have S1 := S.ins hra hsr b1
    obtain ⟨dx, ha⟩ := id S1.ob
    have x1 : SameX [l1, l2, l3, ra] H H1 := SameX.but (by simp) b1
    have C1 := C.read hra b1
    have off := S1.off R1
    refine ⟨_, rfl, rfl, _, rfl, ?_⟩
    rw [show decide (V.int 3 = V.int 0) = false from rfl]
    refine ⟨_, rfl, rfl, _, rfl, ?_⟩
    rw [show decide (V.int 3 = V.int 1) = false from rfl]
    refine ⟨_, rfl, rfl, _, rfl, ?_⟩
    rw [show decide (V.int 3 = V.int 2) = false from rfl]
    refine ⟨_, rfl, rfl, _, rfl, ?_⟩
    rw [show decide (V.int 3 = V.int 3) = true from rfl]
    refine ⟨_, rfl, _, rfl, _, rfl, sa, l1, l2, l3, ra, c, h, i + 1, l, rest, t, a, b, 3, rfl, S1, R1, hsr, C1, dr1, ht, ha0, hb, .inl rfl, fun H2 x2 S2 R2 => ⟨(by show 1 ≤ sizeLine; decide), ?_⟩⟩
    refine news (x1.trans x2) S2 R2 rfl rfl ?_
    show _ = iV (Dx07Neutral.out (Dx07.step h (.fact t.toNat a.toNat b.toNat)).2)
    rw [out_one (fact_l h _ _ _)]
    rfl
  | gone t a b ht ha0 hb =>
    obtain ⟨e0, dr1⟩ := drop_at (show l.drop i = 4 :: _ from hd)
    refine ⟨_, rfl, ra, dr, _, rfl, hra, rF_none c i (by decide +kernel) (by decide +kernel), ra, c, i, l, 4, rfl, R, C.sq, e0, fun H1 b1 R1 => ?_⟩
    have S1 := S.ins hra hsr b1
    obtain ⟨dx, ha⟩ := id S1.ob
    have x1 : SameX [l1, l2, l3, ra] H H1 := SameX.but (by simp) b1
    have C1 := C.read hra b1
    have off := S1.off R1
    refine ⟨_, rfl, rfl, _, rfl, ?_⟩
    rw [show decide (V.int 4 = V.int 0) = false from rfl]
    refine ⟨_, rfl, rfl, _, rfl, ?_⟩
    rw [show decide (V.int 4 = V.int 1) = false from rfl]
    refine ⟨_, rfl, rfl, _, rfl, ?_⟩
    rw [show decide (V.int 4 = V.int 2) = false from rfl]
    refine ⟨_, rfl, rfl, _, rfl, ?_⟩
    rw [show decide (V.int 4 = V.int 3) = false from rfl]
    refine ⟨_, rfl, rfl, _, rfl, ?_⟩
    rw [show decide (V.int 4 = V.int 4) = true from rfl]
    refine ⟨_, rfl, _, rfl, _, rfl, sa, l1, l2, l3, ra, c, h, i + 1, l, rest, t, a, b, 4, rfl, S1, R1, hsr, C1, dr1, ht, ha0, hb, .inr rfl, fun H2 x2 S2 R2 => ⟨(by show 1 ≤ sizeLine; decide), ?_⟩⟩
    refine news (x1.trans x2) S2 R2 rfl rfl ?_
    show _ = iV (Dx07Neutral.out (Dx07.step h (.gone t.toNat a.toNat b.toNat)).2)
    rw [out_one (gone_l h _ _ _)]
    rfl
  | composed =>
    obtain ⟨e0, dr1⟩ := drop_at (show l.drop i = 5 :: _ from hd)
    refine ⟨_, rfl, ra, dr, _, rfl, hra, rF_none c i (by decide +kernel) (by decide +kernel), ra, c, i, l, 5, rfl, R, C.sq, e0, fun H1 b1 R1 => ?_⟩
    have S1 := S.ins hra hsr b1
    obtain ⟨dx, ha⟩ := id S1.ob
    have x1 : SameX [l1, l2, l3, ra] H H1 := SameX.but (by simp) b1
    have C1 := C.read hra b1
    have off := S1.off R1
    refine ⟨_, rfl, rfl, _, rfl, ?_⟩
    rw [show decide (V.int 5 = V.int 0) = false from rfl]
    refine ⟨_, rfl, rfl, _, rfl, ?_⟩
    rw [show decide (V.int 5 = V.int 1) = false from rfl]
    refine ⟨_, rfl, rfl, _, rfl, ?_⟩
    rw [show decide (V.int 5 = V.int 2) = false from rfl]
    refine ⟨_, rfl, rfl, _, rfl, ?_⟩
    rw [show decide (V.int 5 = V.int 3) = false from rfl]
    refine ⟨_, rfl, rfl, _, rfl, ?_⟩
    rw [show decide (V.int 5 = V.int 4) = false from rfl]
    refine ⟨_, rfl, rfl, _, rfl, ?_⟩
    rw [show decide (V.int 5 = V.int 5) = true from rfl]
    have hl2 : (Dx07Neutral.out ⟨(h.book.composed.length : Nat), rowsOf h.book.composed⟩).length ≤ 30000 := hlen
    have hl3 : (rowsOf h.book.composed).length ≤ 90000 := by
      have e : (Dx07Neutral.out ⟨(h.book.composed.length : Nat), rowsOf h.book.composed⟩).length = (rowsOf h.book.composed).length + 1 := by
        show (_ :: (rowsOf h.book.composed).map _).length = _
        rw [List.length_cons, List.length_map]
      omega
    refine ⟨_, rfl, sa, dx, _, rfl, ha, sF_none l1 l2 l3 (by decide +kernel) (by decide +kernel) (by decide +kernel), sa, l1, l2, l3, h, rfl, S1, hl3, fun H2 p s2 hp np => ?_⟩
    exact done x1 S1 R1 rfl rfl (composed_iV _) s2 np hp
  | middle =>
    obtain ⟨e0, dr1⟩ := drop_at (show l.drop i = 6 :: _ from hd)
    refine ⟨_, rfl, ra, dr, _, rfl, hra, rF_none c i (by decide +kernel) (by decide +kernel), ra, c, i, l, 6, rfl, R, C.sq, e0, fun H1 b1 R1 => ?_⟩
    have S1 := S.ins hra hsr b1
    obtain ⟨dx, ha⟩ := id S1.ob
    have x1 : SameX [l1, l2, l3, ra] H H1 := SameX.but (by simp) b1
    have C1 := C.read hra b1
    have off := S1.off R1
    refine ⟨_, rfl, rfl, _, rfl, ?_⟩
    rw [show decide (V.int 6 = V.int 0) = false from rfl]
    refine ⟨_, rfl, rfl, _, rfl, ?_⟩
    rw [show decide (V.int 6 = V.int 1) = false from rfl]
    refine ⟨_, rfl, rfl, _, rfl, ?_⟩
    rw [show decide (V.int 6 = V.int 2) = false from rfl]
    refine ⟨_, rfl, rfl, _, rfl, ?_⟩
    rw [show decide (V.int 6 = V.int 3) = false from rfl]
    refine ⟨_, rfl, rfl, _, rfl, ?_⟩
    rw [show decide (V.int 6 = V.int 4) = false from rfl]
    refine ⟨_, rfl, rfl, _, rfl, ?_⟩
    rw [show decide (V.int 6 = V.int 5) = false from rfl]
    refine ⟨_, rfl, rfl, _, rfl, ?_⟩
    rw [show decide (V.int 6 = V.int 6) = true from rfl]
    have hl2 : (Dx07Neutral.out (Dx07.told (h.book.middle h.source))).length ≤ 30000 := hlen
    rw [told_len] at hl2
    refine ⟨_, rfl, sa, dx, _, rfl, ha, sF_none l1 l2 l3 (by decide +kernel) (by decide +kernel) (by decide +kernel), sa, l1, l2, l3, h, rfl, S1, (by show (h.book.middle h.source).length ≤ 9999; omega), fun H2 p s2 np hp => ?_⟩
    exact done x1 S1 R1 rfl rfl (told_iV _) s2 np hp
  | ends =>
    obtain ⟨e0, dr1⟩ := drop_at (show l.drop i = 7 :: _ from hd)
    refine ⟨_, rfl, ra, dr, _, rfl, hra, rF_none c i (by decide +kernel) (by decide +kernel), ra, c, i, l, 7, rfl, R, C.sq, e0, fun H1 b1 R1 => ?_⟩
    have S1 := S.ins hra hsr b1
    obtain ⟨dx, ha⟩ := id S1.ob
    have x1 : SameX [l1, l2, l3, ra] H H1 := SameX.but (by simp) b1
    have C1 := C.read hra b1
    have off := S1.off R1
    refine ⟨_, rfl, rfl, _, rfl, ?_⟩
    rw [show decide (V.int 7 = V.int 0) = false from rfl]
    refine ⟨_, rfl, rfl, _, rfl, ?_⟩
    rw [show decide (V.int 7 = V.int 1) = false from rfl]
    refine ⟨_, rfl, rfl, _, rfl, ?_⟩
    rw [show decide (V.int 7 = V.int 2) = false from rfl]
    refine ⟨_, rfl, rfl, _, rfl, ?_⟩
    rw [show decide (V.int 7 = V.int 3) = false from rfl]
    refine ⟨_, rfl, rfl, _, rfl, ?_⟩
    rw [show decide (V.int 7 = V.int 4) = false from rfl]
    refine ⟨_, rfl, rfl, _, rfl, ?_⟩
    rw [show decide (V.int 7 = V.int 5) = false from rfl]
    refine ⟨_, rfl, rfl, _, rfl, ?_⟩
    rw [show decide (V.int 7 = V.int 6) = false from rfl]
    refine ⟨_, rfl, rfl, _, rfl, ?_⟩
    rw [show decide (V.int 7 = V.int 7) = true from rfl]
    have hl2 : (Dx07Neutral.out (Dx07.told (h.book.end_ h.source))).length ≤ 30000 := hlen
    rw [told_len] at hl2
    refine ⟨_, rfl, sa, dx, _, rfl, ha, sF_none l1 l2 l3 (by decide +kernel) (by decide +kernel) (by decide +kernel), sa, l1, l2, l3, h, rfl, S1, (by show (h.book.end_ h.source).length ≤ 9999; omega), fun H2 p s2 np hp => ?_⟩
    exact done x1 S1 R1 rfl rfl (told_iV _) s2 np hp
  | direct =>
    obtain ⟨e0, dr1⟩ := drop_at (show l.drop i = 8 :: _ from hd)
    refine ⟨_, rfl, ra, dr, _, rfl, hra, rF_none c i (by decide +kernel) (by decide +kernel), ra, c, i, l, 8, rfl, R, C.sq, e0, fun H1 b1 R1 => ?_⟩
    have S1 := S.ins hra hsr b1
    obtain ⟨dx, ha⟩ := id S1.ob
    have x1 : SameX [l1, l2, l3, ra] H H1 := SameX.but (by simp) b1
    have C1 := C.read hra b1
    have off := S1.off R1
    refine ⟨_, rfl, rfl, _, rfl, ?_⟩
    rw [show decide (V.int 8 = V.int 0) = false from rfl]
    refine ⟨_, rfl, rfl, _, rfl, ?_⟩
    rw [show decide (V.int 8 = V.int 1) = false from rfl]
    refine ⟨_, rfl, rfl, _, rfl, ?_⟩
    rw [show decide (V.int 8 = V.int 2) = false from rfl]
    refine ⟨_, rfl, rfl, _, rfl, ?_⟩
    rw [show decide (V.int 8 = V.int 3) = false from rfl]
    refine ⟨_, rfl, rfl, _, rfl, ?_⟩
    rw [show decide (V.int 8 = V.int 4) = false from rfl]
    refine ⟨_, rfl, rfl, _, rfl, ?_⟩
    rw [show decide (V.int 8 = V.int 5) = false from rfl]
    refine ⟨_, rfl, rfl, _, rfl, ?_⟩
    rw [show decide (V.int 8 = V.int 6) = false from rfl]
    refine ⟨_, rfl, rfl, _, rfl, ?_⟩
    rw [show decide (V.int 8 = V.int 7) = false from rfl]
    refine ⟨_, rfl, rfl, _, rfl, ?_⟩
    rw [show decide (V.int 8 = V.int 8) = true from rfl]
    have hl2 : (Dx07Neutral.out (Dx07.told (Dx07.target h.source h.book.composed))).length ≤ 30000 := hlen
    rw [told_len] at hl2
    refine ⟨_, rfl, sa, dx, _, rfl, ha, sF_none l1 l2 l3 (by decide +kernel) (by decide +kernel) (by decide +kernel), sa, l1, l2, l3, h, rfl, S1, (by show (Dx07.target h.source h.book.composed).length ≤ 9999; omega), fun H2 p s2 np hp => ?_⟩
    exact done x1 S1 R1 rfl rfl (told_iV _) s2 np hp
  | goes kk hk =>
    obtain ⟨e0, dr1⟩ := drop_at (show l.drop i = 9 :: _ from hd)
    refine ⟨_, rfl, ra, dr, _, rfl, hra, rF_none c i (by decide +kernel) (by decide +kernel), ra, c, i, l, 9, rfl, R, C.sq, e0, fun H1 b1 R1 => ?_⟩
    have S1 := S.ins hra hsr b1
    obtain ⟨dx, ha⟩ := id S1.ob
    have x1 : SameX [l1, l2, l3, ra] H H1 := SameX.but (by simp) b1
    have C1 := C.read hra b1
    have off := S1.off R1
    refine ⟨_, rfl, rfl, _, rfl, ?_⟩
    rw [show decide (V.int 9 = V.int 0) = false from rfl]
    refine ⟨_, rfl, rfl, _, rfl, ?_⟩
    rw [show decide (V.int 9 = V.int 1) = false from rfl]
    refine ⟨_, rfl, rfl, _, rfl, ?_⟩
    rw [show decide (V.int 9 = V.int 2) = false from rfl]
    refine ⟨_, rfl, rfl, _, rfl, ?_⟩
    rw [show decide (V.int 9 = V.int 3) = false from rfl]
    refine ⟨_, rfl, rfl, _, rfl, ?_⟩
    rw [show decide (V.int 9 = V.int 4) = false from rfl]
    refine ⟨_, rfl, rfl, _, rfl, ?_⟩
    rw [show decide (V.int 9 = V.int 5) = false from rfl]
    refine ⟨_, rfl, rfl, _, rfl, ?_⟩
    rw [show decide (V.int 9 = V.int 6) = false from rfl]
    refine ⟨_, rfl, rfl, _, rfl, ?_⟩
    rw [show decide (V.int 9 = V.int 7) = false from rfl]
    refine ⟨_, rfl, rfl, _, rfl, ?_⟩
    rw [show decide (V.int 9 = V.int 8) = false from rfl]
    refine ⟨_, rfl, rfl, _, rfl, ?_⟩
    rw [show decide (V.int 9 = V.int 9) = true from rfl]
    obtain ⟨k24, ek, nk⟩ := row_ok hk
    obtain ⟨dr1', hra1⟩ := id R1
    refine ⟨_, rfl, sa, dx, _, rfl, ha, sF_none l1 l2 l3 (by decide +kernel) (by decide +kernel) (by decide +kernel), ?_⟩
    refine ⟨_, rfl, ra, dr1', _, rfl, hra1, rF_none c _ (by decide +kernel) (by decide +kernel), ra, c, _, l, kk, rest, rfl, R1, C1.sq, (by rw [dr1]; show putRow kk ++ [] ++ rest = _; rw [List.append_nil]), fun H2 p b2 R2 hp np => ?_⟩
    have S2 := S1.ins hra1 hsr b2
    have x2 : SameX [l1, l2, l3, ra] H H2 := x1.trans (SameX.but (by simp) b2)
    have len : i + 1 + 1 + kk.length = i + (put1 [[9], kk]).length := by
      show _ = i + (9 :: (putRow kk ++ [])).length
      rw [List.length_cons, List.append_nil]
      show _ = i + (kk.length + 1 + 1)
      omega
    refine ⟨sa, l1, l2, l3, p, h, _, rfl, S2, SqL.of' (by rw [← ek]; exact hp), nk, fun H3 s3 => ⟨(by show 1 ≤ sizeLine; decide), ?_⟩⟩
    refine news (x2.trans (SameX.of s3)) (S2.same s3) (R2.same s3) (goes_l h _).2 len ?_
    show _ = iV (Dx07Neutral.out (Dx07.step h (.goes (Dx07Neutral.nats kk))).2)
    rw [out_one (goes_l h _).1]
    rfl
  | lacks kk hk =>
    obtain ⟨e0, dr1⟩ := drop_at (show l.drop i = 10 :: _ from hd)
    refine ⟨_, rfl, ra, dr, _, rfl, hra, rF_none c i (by decide +kernel) (by decide +kernel), ra, c, i, l, 10, rfl, R, C.sq, e0, fun H1 b1 R1 => ?_⟩
    have S1 := S.ins hra hsr b1
    obtain ⟨dx, ha⟩ := id S1.ob
    have x1 : SameX [l1, l2, l3, ra] H H1 := SameX.but (by simp) b1
    have C1 := C.read hra b1
    have off := S1.off R1
    refine ⟨_, rfl, rfl, _, rfl, ?_⟩
    rw [show decide (V.int 10 = V.int 0) = false from rfl]
    refine ⟨_, rfl, rfl, _, rfl, ?_⟩
    rw [show decide (V.int 10 = V.int 1) = false from rfl]
    refine ⟨_, rfl, rfl, _, rfl, ?_⟩
    rw [show decide (V.int 10 = V.int 2) = false from rfl]
    refine ⟨_, rfl, rfl, _, rfl, ?_⟩
    rw [show decide (V.int 10 = V.int 3) = false from rfl]
    refine ⟨_, rfl, rfl, _, rfl, ?_⟩
    rw [show decide (V.int 10 = V.int 4) = false from rfl]
    refine ⟨_, rfl, rfl, _, rfl, ?_⟩
    rw [show decide (V.int 10 = V.int 5) = false from rfl]
    refine ⟨_, rfl, rfl, _, rfl, ?_⟩
    rw [show decide (V.int 10 = V.int 6) = false from rfl]
    refine ⟨_, rfl, rfl, _, rfl, ?_⟩
    rw [show decide (V.int 10 = V.int 7) = false from rfl]
    refine ⟨_, rfl, rfl, _, rfl, ?_⟩
    rw [show decide (V.int 10 = V.int 8) = false from rfl]
    refine ⟨_, rfl, rfl, _, rfl, ?_⟩
    rw [show decide (V.int 10 = V.int 9) = false from rfl]
    refine ⟨_, rfl, rfl, _, rfl, ?_⟩
    rw [show decide (V.int 10 = V.int 10) = true from rfl]
    obtain ⟨k24, ek, nk⟩ := row_ok hk
    obtain ⟨dr1', hra1⟩ := id R1
    refine ⟨_, rfl, sa, dx, _, rfl, ha, sF_none l1 l2 l3 (by decide +kernel) (by decide +kernel) (by decide +kernel), ?_⟩
    refine ⟨_, rfl, ra, dr1', _, rfl, hra1, rF_none c _ (by decide +kernel) (by decide +kernel), ra, c, _, l, kk, rest, rfl, R1, C1.sq, (by rw [dr1]; show putRow kk ++ [] ++ rest = _; rw [List.append_nil]), fun H2 p b2 R2 hp np => ?_⟩
    have S2 := S1.ins hra1 hsr b2
    have x2 : SameX [l1, l2, l3, ra] H H2 := x1.trans (SameX.but (by simp) b2)
    have len : i + 1 + 1 + kk.length = i + (put1 [[10], kk]).length := by
      show _ = i + (10 :: (putRow kk ++ [])).length
      rw [List.length_cons, List.append_nil]
      show _ = i + (kk.length + 1 + 1)
      omega
    refine ⟨sa, l1, l2, l3, p, h, _, rfl, S2, SqL.of' (by rw [← ek]; exact hp), nk, fun H3 q s3 nq hq => ?_⟩
    exact done x2 S2 R2 (lacks_h h _) len rfl s3 nq hq
end
end Mw
namespace Mw
open PySem PySem.Spec PyProof.Rows L2
/-! ## what the top has written -/
theorem df_mk {K : PySem.W.Frag} {h : Heap} {mg : Str → Option Value} {x : Str} {st : Stmt} {f : Addr} {oc : Value} {od an : Option Addr} {osl : Array (Option Value)} {kV dc pm cd ct : Value} (X : K.In h) (G : h.Ns mainGlobals mg)
    (a : PySem.W.nsIn K mainGlobals x = some (some (.ref f))) (l : K.lookup f = some ⟨oc, od, .func (PySem.W.fnOf x x (C8.fnArgs st) (C8.fnBody st) (C8.fnScope st) .none kV dc pm an cd ct), osl⟩) (c : PySem.W.codeIn K cd x = true) (k : PySem.W.keepIn K (.ref f) = true) : Df K mg x st :=
  ⟨f, _, ⟨⟨oc, od, .none, kV, dc, pm, an, cd, ct, osl, rfl, l, c⟩, PySem.W.mg_of X G a, k⟩, rfl⟩
theorem mt_mk {K : PySem.W.Frag} {C : Addr} {m qual : Str} {st : Stmt} {f : Addr} {oc : Value} {od an : Option Addr} {osl : Array (Option Value)} {kV dc pm cd ct : Value} (a : PySem.W.findIn K (.ref C) m = some (some (.ref f))) (i : PySem.W.isFn K (.ref f) = true) (k : PySem.W.keepIn K (.ref f) = true)
    (l : K.lookup f = some ⟨oc, od, .func (PySem.W.fnOf m qual (C8.fnArgs st) (C8.fnBody st) (C8.fnScope st) .none kV dc pm an cd ct), osl⟩) (c : PySem.W.codeIn K cd qual = true) : Mt K C m qual st :=
  ⟨f, _, ⟨a, i, k⟩, ⟨oc, od, .none, kV, dc, pm, an, cd, ct, osl, rfl, l, c⟩, rfl⟩
theorem mi_mk {K : PySem.W.Frag} {C : Addr} {qual : Str} {st : Stmt} {f : Addr} {oc : Value} {od an : Option Addr} {osl : Array (Option Value)} {kV dc pm cd ct : Value} (mk : PySem.W.makesIn K C = true) (a : PySem.W.findIn K (.ref C) "__init__" = some (some (.ref f))) (i : PySem.W.isFn K (.ref f) = true) (k : PySem.W.keepIn K (.ref C) = true)
    (l : K.lookup f = some ⟨oc, od, .func (PySem.W.fnOf "__init__" qual (C8.fnArgs st) (C8.fnBody st) (C8.fnScope st) .none kV dc pm an cd ct), osl⟩) (c : PySem.W.codeIn K cd qual = true) : Mi K C qual st :=
  ⟨f, _, ⟨mk, a, i, k⟩, ⟨oc, od, .none, kV, dc, pm, an, cd, ct, osl, rfl, l, c⟩, rfl⟩
theorem top_mk {K : PySem.W.Frag} {h : Heap} {mg : Str → Option Value} {C_Reader C_Service f_is_table_of f_triples f_is_atom f_are_atoms f_body_of f_head_of f_variables_of f_existential_variables f_composed_rules f_choices f_options f_composed_rule f_names_of_variables f_made_equal f_copied f_named_atom f_numbered_atoms f_is_source_fact f_is_end_fact f_is_given_known f_is_given_value f_are_end_facts f_set_of_facts f_numbers_of f_facts_by_table f_matches f_with_values_of f_first_lack f_first_match_without_head f_computed_facts f_with_unknown_values f_index_when_added f_answers f_answer f_answer_to_rule f_answer_to_fact f_Reader_init f_Reader_is_done f_Reader_number f_Reader_row f_Service_init f_Service_begins f_Service_one f_Service_two f_Service_fact f_Service_gone f_Service_composed f_Service_middle f_Service_end f_Service_direct f_Service_goes f_Service_lacks f_Service_rules_without_middle f_Service_facts_of_middle : Addr} {od_is_table_of an_is_table_of od_triples an_triples od_is_atom an_is_atom od_are_atoms an_are_atoms od_body_of an_body_of od_head_of an_head_of od_variables_of an_variables_of od_existential_variables an_existential_variables od_composed_rules an_composed_rules od_choices an_choices od_options an_options od_composed_rule an_composed_rule od_names_of_variables an_names_of_variables od_made_equal an_made_equal od_copied an_copied od_named_atom an_named_atom od_numbered_atoms an_numbered_atoms od_is_source_fact an_is_source_fact od_is_end_fact an_is_end_fact od_is_given_known an_is_given_known od_is_given_value an_is_given_value od_are_end_facts an_are_end_facts od_set_of_facts an_set_of_facts od_numbers_of an_numbers_of od_facts_by_table an_facts_by_table od_matches an_matches od_with_values_of an_with_values_of od_first_lack an_first_lack od_first_match_without_head an_first_match_without_head od_computed_facts an_computed_facts od_with_unknown_values an_with_unknown_values od_index_when_added an_index_when_added od_answers an_answers od_answer an_answer od_answer_to_rule an_answer_to_rule od_answer_to_fact an_answer_to_fact od_Reader_init an_Reader_init od_Reader_is_done an_Reader_is_done od_Reader_number an_Reader_number od_Reader_row an_Reader_row od_Service_init an_Service_init od_Service_begins an_Service_begins od_Service_one an_Service_one od_Service_two an_Service_two od_Service_fact an_Service_fact od_Service_gone an_Service_gone od_Service_composed an_Service_composed od_Service_middle an_Service_middle od_Service_end an_Service_end od_Service_direct an_Service_direct od_Service_goes an_Service_goes od_Service_lacks an_Service_lacks od_Service_rules_without_middle an_Service_rules_without_middle od_Service_facts_of_middle an_Service_facts_of_middle : Option Addr} {sl_is_table_of sl_triples sl_is_atom sl_are_atoms sl_body_of sl_head_of sl_variables_of sl_existential_variables sl_composed_rules sl_choices sl_options sl_composed_rule sl_names_of_variables sl_made_equal sl_copied sl_named_atom sl_numbered_atoms sl_is_source_fact sl_is_end_fact sl_is_given_known sl_is_given_value sl_are_end_facts sl_set_of_facts sl_numbers_of sl_facts_by_table sl_matches sl_with_values_of sl_first_lack sl_first_match_without_head sl_computed_facts sl_with_unknown_values sl_index_when_added sl_answers sl_answer sl_answer_to_rule sl_answer_to_fact sl_Reader_init sl_Reader_is_done sl_Reader_number sl_Reader_row sl_Service_init sl_Service_begins sl_Service_one sl_Service_two sl_Service_fact sl_Service_gone sl_Service_composed sl_Service_middle sl_Service_end sl_Service_direct sl_Service_goes sl_Service_lacks sl_Service_rules_without_middle sl_Service_facts_of_middle : Array (Option Value)} {oc_is_table_of kV_is_table_of dc_is_table_of pm_is_table_of cd_is_table_of ct_is_table_of oc_triples kV_triples dc_triples pm_triples cd_triples ct_triples oc_is_atom kV_is_atom dc_is_atom pm_is_atom cd_is_atom ct_is_atom oc_are_atoms kV_are_atoms dc_are_atoms pm_are_atoms cd_are_atoms ct_are_atoms oc_body_of kV_body_of dc_body_of pm_body_of cd_body_of ct_body_of oc_head_of kV_head_of dc_head_of pm_head_of cd_head_of ct_head_of oc_variables_of kV_variables_of dc_variables_of pm_variables_of cd_variables_of ct_variables_of oc_existential_variables kV_existential_variables dc_existential_variables pm_existential_variables cd_existential_variables ct_existential_variables oc_composed_rules kV_composed_rules dc_composed_rules pm_composed_rules cd_composed_rules ct_composed_rules oc_choices kV_choices dc_choices pm_choices cd_choices ct_choices oc_options kV_options dc_options pm_options cd_options ct_options oc_composed_rule kV_composed_rule dc_composed_rule pm_composed_rule cd_composed_rule ct_composed_rule oc_names_of_variables kV_names_of_variables dc_names_of_variables pm_names_of_variables cd_names_of_variables ct_names_of_variables oc_made_equal kV_made_equal dc_made_equal pm_made_equal cd_made_equal ct_made_equal oc_copied kV_copied dc_copied pm_copied cd_copied ct_copied oc_named_atom kV_named_atom dc_named_atom pm_named_atom cd_named_atom ct_named_atom oc_numbered_atoms kV_numbered_atoms dc_numbered_atoms pm_numbered_atoms cd_numbered_atoms ct_numbered_atoms oc_is_source_fact kV_is_source_fact dc_is_source_fact pm_is_source_fact cd_is_source_fact ct_is_source_fact oc_is_end_fact kV_is_end_fact dc_is_end_fact pm_is_end_fact cd_is_end_fact ct_is_end_fact oc_is_given_known kV_is_given_known dc_is_given_known pm_is_given_known cd_is_given_known ct_is_given_known oc_is_given_value kV_is_given_value dc_is_given_value pm_is_given_value cd_is_given_value ct_is_given_value oc_are_end_facts kV_are_end_facts dc_are_end_facts pm_are_end_facts cd_are_end_facts ct_are_end_facts oc_set_of_facts kV_set_of_facts dc_set_of_facts pm_set_of_facts cd_set_of_facts ct_set_of_facts oc_numbers_of kV_numbers_of dc_numbers_of pm_numbers_of cd_numbers_of ct_numbers_of oc_facts_by_table kV_facts_by_table dc_facts_by_table pm_facts_by_table cd_facts_by_table ct_facts_by_table oc_matches kV_matches dc_matches pm_matches cd_matches ct_matches oc_with_values_of kV_with_values_of dc_with_values_of pm_with_values_of cd_with_values_of ct_with_values_of oc_first_lack kV_first_lack dc_first_lack pm_first_lack cd_first_lack ct_first_lack oc_first_match_without_head kV_first_match_without_head dc_first_match_without_head pm_first_match_without_head cd_first_match_without_head ct_first_match_without_head oc_computed_facts kV_computed_facts dc_computed_facts pm_computed_facts cd_computed_facts ct_computed_facts oc_with_unknown_values kV_with_unknown_values dc_with_unknown_values pm_with_unknown_values cd_with_unknown_values ct_with_unknown_values oc_index_when_added kV_index_when_added dc_index_when_added pm_index_when_added cd_index_when_added ct_index_when_added oc_answers kV_answers dc_answers pm_answers cd_answers ct_answers oc_answer kV_answer dc_answer pm_answer cd_answer ct_answer oc_answer_to_rule kV_answer_to_rule dc_answer_to_rule pm_answer_to_rule cd_answer_to_rule ct_answer_to_rule oc_answer_to_fact kV_answer_to_fact dc_answer_to_fact pm_answer_to_fact cd_answer_to_fact ct_answer_to_fact oc_Reader_init kV_Reader_init dc_Reader_init pm_Reader_init cd_Reader_init ct_Reader_init oc_Reader_is_done kV_Reader_is_done dc_Reader_is_done pm_Reader_is_done cd_Reader_is_done ct_Reader_is_done oc_Reader_number kV_Reader_number dc_Reader_number pm_Reader_number cd_Reader_number ct_Reader_number oc_Reader_row kV_Reader_row dc_Reader_row pm_Reader_row cd_Reader_row ct_Reader_row oc_Service_init kV_Service_init dc_Service_init pm_Service_init cd_Service_init ct_Service_init oc_Service_begins kV_Service_begins dc_Service_begins pm_Service_begins cd_Service_begins ct_Service_begins oc_Service_one kV_Service_one dc_Service_one pm_Service_one cd_Service_one ct_Service_one oc_Service_two kV_Service_two dc_Service_two pm_Service_two cd_Service_two ct_Service_two oc_Service_fact kV_Service_fact dc_Service_fact pm_Service_fact cd_Service_fact ct_Service_fact oc_Service_gone kV_Service_gone dc_Service_gone pm_Service_gone cd_Service_gone ct_Service_gone oc_Service_composed kV_Service_composed dc_Service_composed pm_Service_composed cd_Service_composed ct_Service_composed oc_Service_middle kV_Service_middle dc_Service_middle pm_Service_middle cd_Service_middle ct_Service_middle oc_Service_end kV_Service_end dc_Service_end pm_Service_end cd_Service_end ct_Service_end oc_Service_direct kV_Service_direct dc_Service_direct pm_Service_direct cd_Service_direct ct_Service_direct oc_Service_goes kV_Service_goes dc_Service_goes pm_Service_goes cd_Service_goes ct_Service_goes oc_Service_lacks kV_Service_lacks dc_Service_lacks pm_Service_lacks cd_Service_lacks ct_Service_lacks oc_Service_rules_without_middle kV_Service_rules_without_middle dc_Service_rules_without_middle pm_Service_rules_without_middle cd_Service_rules_without_middle ct_Service_rules_without_middle oc_Service_facts_of_middle kV_Service_facts_of_middle dc_Service_facts_of_middle pm_Service_facts_of_middle cd_Service_facts_of_middle ct_Service_facts_of_middle : Value} {t_SOURCE t_MIDDLE_rules t_END_rules t_TABLES_OF_A_PLACE t_TRIPLE t_MOST_ATOMS t_VARIABLES t_SECOND_RULE t_FIRST_COPY t_GIVEN_KNOWN_VALUES t_FIRST_UNKNOWN t_LAST_GIVEN_UNKNOWN t_MOST_GIVEN_FACTS t_MOST_RULES t_MOST_FACTS t_INVALID t_NOT_THERE t_EXISTS t_EXISTENTIAL t_FULL t_BEGINS t_ONE t_TWO t_FACT t_GONE t_COMPOSED t_MIDDLE_steps t_END_steps t_DIRECT t_GOES t_LACKS : Tok} (X : K.In h) (G : h.Ns mainGlobals mg)
    (z_all : PySem.W.nsIn K mainGlobals "all" = some none)
    (z_dict : PySem.W.nsIn K mainGlobals "dict" = some none)
    (z_enumerate : PySem.W.nsIn K mainGlobals "enumerate" = some none)
    (z_len : PySem.W.nsIn K mainGlobals "len" = some none)
    (z_list : PySem.W.nsIn K mainGlobals "list" = some none)
    (z_range : PySem.W.nsIn K mainGlobals "range" = some none)
    (z_set : PySem.W.nsIn K mainGlobals "set" = some none)
    (z_sorted : PySem.W.nsIn K mainGlobals "sorted" = some none)
    (z_tuple : PySem.W.nsIn K mainGlobals "tuple" = some none)
    (n_SOURCE : PySem.W.nsIn K mainGlobals "SOURCE" = some (some (.int 0 t_SOURCE)))
    (n_MIDDLE_rules : PySem.W.nsIn K mainGlobals "MIDDLE_rules" = some (some (.int 1 t_MIDDLE_rules)))
    (n_END_rules : PySem.W.nsIn K mainGlobals "END_rules" = some (some (.int 2 t_END_rules)))
    (n_TABLES_OF_A_PLACE : PySem.W.nsIn K mainGlobals "TABLES_OF_A_PLACE" = some (some (.int 2 t_TABLES_OF_A_PLACE)))
    (n_TRIPLE : PySem.W.nsIn K mainGlobals "TRIPLE" = some (some (.int 3 t_TRIPLE)))
    (n_MOST_ATOMS : PySem.W.nsIn K mainGlobals "MOST_ATOMS" = some (some (.int 2 t_MOST_ATOMS)))
    (n_VARIABLES : PySem.W.nsIn K mainGlobals "VARIABLES" = some (some (.int 5 t_VARIABLES)))
    (n_SECOND_RULE : PySem.W.nsIn K mainGlobals "SECOND_RULE" = some (some (.int 0 t_SECOND_RULE)))
    (n_FIRST_COPY : PySem.W.nsIn K mainGlobals "FIRST_COPY" = some (some (.int 1 t_FIRST_COPY)))
    (n_GIVEN_KNOWN_VALUES : PySem.W.nsIn K mainGlobals "GIVEN_KNOWN_VALUES" = some (some (.int 20 t_GIVEN_KNOWN_VALUES)))
    (n_FIRST_UNKNOWN : PySem.W.nsIn K mainGlobals "FIRST_UNKNOWN" = some (some (.int 100 t_FIRST_UNKNOWN)))
    (n_LAST_GIVEN_UNKNOWN : PySem.W.nsIn K mainGlobals "LAST_GIVEN_UNKNOWN" = some (some (.int 199 t_LAST_GIVEN_UNKNOWN)))
    (n_MOST_GIVEN_FACTS : PySem.W.nsIn K mainGlobals "MOST_GIVEN_FACTS" = some (some (.int 6 t_MOST_GIVEN_FACTS)))
    (n_MOST_RULES : PySem.W.nsIn K mainGlobals "MOST_RULES" = some (some (.int 2 t_MOST_RULES)))
    (n_MOST_FACTS : PySem.W.nsIn K mainGlobals "MOST_FACTS" = some (some (.int 5 t_MOST_FACTS)))
    (n_INVALID : PySem.W.nsIn K mainGlobals "INVALID" = some (some (.int 1 t_INVALID)))
    (n_NOT_THERE : PySem.W.nsIn K mainGlobals "NOT_THERE" = some (some (.int 2 t_NOT_THERE)))
    (n_EXISTS : PySem.W.nsIn K mainGlobals "EXISTS" = some (some (.int 4 t_EXISTS)))
    (n_EXISTENTIAL : PySem.W.nsIn K mainGlobals "EXISTENTIAL" = some (some (.int 5 t_EXISTENTIAL)))
    (n_FULL : PySem.W.nsIn K mainGlobals "FULL" = some (some (.int 7 t_FULL)))
    (n_BEGINS : PySem.W.nsIn K mainGlobals "BEGINS" = some (some (.int 0 t_BEGINS)))
    (n_ONE : PySem.W.nsIn K mainGlobals "ONE" = some (some (.int 1 t_ONE)))
    (n_TWO : PySem.W.nsIn K mainGlobals "TWO" = some (some (.int 2 t_TWO)))
    (n_FACT : PySem.W.nsIn K mainGlobals "FACT" = some (some (.int 3 t_FACT)))
    (n_GONE : PySem.W.nsIn K mainGlobals "GONE" = some (some (.int 4 t_GONE)))
    (n_COMPOSED : PySem.W.nsIn K mainGlobals "COMPOSED" = some (some (.int 5 t_COMPOSED)))
    (n_MIDDLE_steps : PySem.W.nsIn K mainGlobals "MIDDLE_steps" = some (some (.int 6 t_MIDDLE_steps)))
    (n_END_steps : PySem.W.nsIn K mainGlobals "END_steps" = some (some (.int 7 t_END_steps)))
    (n_DIRECT : PySem.W.nsIn K mainGlobals "DIRECT" = some (some (.int 8 t_DIRECT)))
    (n_GOES : PySem.W.nsIn K mainGlobals "GOES" = some (some (.int 9 t_GOES)))
    (n_LACKS : PySem.W.nsIn K mainGlobals "LACKS" = some (some (.int 10 t_LACKS)))
    (a_is_table_of : PySem.W.nsIn K mainGlobals "is_table_of" = some (some (.ref f_is_table_of)))
    (l_is_table_of : K.lookup f_is_table_of = some ⟨oc_is_table_of, od_is_table_of, .func (PySem.W.fnOf "is_table_of" "is_table_of" (C8.fnArgs s_is_table_of) (C8.fnBody s_is_table_of) (C8.fnScope s_is_table_of) .none kV_is_table_of dc_is_table_of pm_is_table_of an_is_table_of cd_is_table_of ct_is_table_of), sl_is_table_of⟩)
    (c_is_table_of : PySem.W.codeIn K cd_is_table_of "is_table_of" = true)
    (k_is_table_of : PySem.W.keepIn K (.ref f_is_table_of) = true)
    (a_triples : PySem.W.nsIn K mainGlobals "triples" = some (some (.ref f_triples)))
    (l_triples : K.lookup f_triples = some ⟨oc_triples, od_triples, .func (PySem.W.fnOf "triples" "triples" (C8.fnArgs s_triples) (C8.fnBody s_triples) (C8.fnScope s_triples) .none kV_triples dc_triples pm_triples an_triples cd_triples ct_triples), sl_triples⟩)
    (c_triples : PySem.W.codeIn K cd_triples "triples" = true)
    (k_triples : PySem.W.keepIn K (.ref f_triples) = true)
    (a_is_atom : PySem.W.nsIn K mainGlobals "is_atom" = some (some (.ref f_is_atom)))
    (l_is_atom : K.lookup f_is_atom = some ⟨oc_is_atom, od_is_atom, .func (PySem.W.fnOf "is_atom" "is_atom" (C8.fnArgs s_is_atom) (C8.fnBody s_is_atom) (C8.fnScope s_is_atom) .none kV_is_atom dc_is_atom pm_is_atom an_is_atom cd_is_atom ct_is_atom), sl_is_atom⟩)
    (c_is_atom : PySem.W.codeIn K cd_is_atom "is_atom" = true)
    (k_is_atom : PySem.W.keepIn K (.ref f_is_atom) = true)
    (a_are_atoms : PySem.W.nsIn K mainGlobals "are_atoms" = some (some (.ref f_are_atoms)))
    (l_are_atoms : K.lookup f_are_atoms = some ⟨oc_are_atoms, od_are_atoms, .func (PySem.W.fnOf "are_atoms" "are_atoms" (C8.fnArgs s_are_atoms) (C8.fnBody s_are_atoms) (C8.fnScope s_are_atoms) .none kV_are_atoms dc_are_atoms pm_are_atoms an_are_atoms cd_are_atoms ct_are_atoms), sl_are_atoms⟩)
    (c_are_atoms : PySem.W.codeIn K cd_are_atoms "are_atoms" = true)
    (k_are_atoms : PySem.W.keepIn K (.ref f_are_atoms) = true)
    (a_body_of : PySem.W.nsIn K mainGlobals "body_of" = some (some (.ref f_body_of)))
    (l_body_of : K.lookup f_body_of = some ⟨oc_body_of, od_body_of, .func (PySem.W.fnOf "body_of" "body_of" (C8.fnArgs s_body_of) (C8.fnBody s_body_of) (C8.fnScope s_body_of) .none kV_body_of dc_body_of pm_body_of an_body_of cd_body_of ct_body_of), sl_body_of⟩)
    (c_body_of : PySem.W.codeIn K cd_body_of "body_of" = true)
    (k_body_of : PySem.W.keepIn K (.ref f_body_of) = true)
    (a_head_of : PySem.W.nsIn K mainGlobals "head_of" = some (some (.ref f_head_of)))
    (l_head_of : K.lookup f_head_of = some ⟨oc_head_of, od_head_of, .func (PySem.W.fnOf "head_of" "head_of" (C8.fnArgs s_head_of) (C8.fnBody s_head_of) (C8.fnScope s_head_of) .none kV_head_of dc_head_of pm_head_of an_head_of cd_head_of ct_head_of), sl_head_of⟩)
    (c_head_of : PySem.W.codeIn K cd_head_of "head_of" = true)
    (k_head_of : PySem.W.keepIn K (.ref f_head_of) = true)
    (a_variables_of : PySem.W.nsIn K mainGlobals "variables_of" = some (some (.ref f_variables_of)))
    (l_variables_of : K.lookup f_variables_of = some ⟨oc_variables_of, od_variables_of, .func (PySem.W.fnOf "variables_of" "variables_of" (C8.fnArgs s_variables_of) (C8.fnBody s_variables_of) (C8.fnScope s_variables_of) .none kV_variables_of dc_variables_of pm_variables_of an_variables_of cd_variables_of ct_variables_of), sl_variables_of⟩)
    (c_variables_of : PySem.W.codeIn K cd_variables_of "variables_of" = true)
    (k_variables_of : PySem.W.keepIn K (.ref f_variables_of) = true)
    (a_existential_variables : PySem.W.nsIn K mainGlobals "existential_variables" = some (some (.ref f_existential_variables)))
    (l_existential_variables : K.lookup f_existential_variables = some ⟨oc_existential_variables, od_existential_variables, .func (PySem.W.fnOf "existential_variables" "existential_variables" (C8.fnArgs s_existential_variables) (C8.fnBody s_existential_variables) (C8.fnScope s_existential_variables) .none kV_existential_variables dc_existential_variables pm_existential_variables an_existential_variables cd_existential_variables ct_existential_variables), sl_existential_variables⟩)
    (c_existential_variables : PySem.W.codeIn K cd_existential_variables "existential_variables" = true)
    (k_existential_variables : PySem.W.keepIn K (.ref f_existential_variables) = true)
    (a_composed_rules : PySem.W.nsIn K mainGlobals "composed_rules" = some (some (.ref f_composed_rules)))
    (l_composed_rules : K.lookup f_composed_rules = some ⟨oc_composed_rules, od_composed_rules, .func (PySem.W.fnOf "composed_rules" "composed_rules" (C8.fnArgs s_composed_rules) (C8.fnBody s_composed_rules) (C8.fnScope s_composed_rules) .none kV_composed_rules dc_composed_rules pm_composed_rules an_composed_rules cd_composed_rules ct_composed_rules), sl_composed_rules⟩)
    (c_composed_rules : PySem.W.codeIn K cd_composed_rules "composed_rules" = true)
    (k_composed_rules : PySem.W.keepIn K (.ref f_composed_rules) = true)
    (a_choices : PySem.W.nsIn K mainGlobals "choices" = some (some (.ref f_choices)))
    (l_choices : K.lookup f_choices = some ⟨oc_choices, od_choices, .func (PySem.W.fnOf "choices" "choices" (C8.fnArgs s_choices) (C8.fnBody s_choices) (C8.fnScope s_choices) .none kV_choices dc_choices pm_choices an_choices cd_choices ct_choices), sl_choices⟩)
    (c_choices : PySem.W.codeIn K cd_choices "choices" = true)
    (k_choices : PySem.W.keepIn K (.ref f_choices) = true)
    (a_options : PySem.W.nsIn K mainGlobals "options" = some (some (.ref f_options)))
    (l_options : K.lookup f_options = some ⟨oc_options, od_options, .func (PySem.W.fnOf "options" "options" (C8.fnArgs s_options) (C8.fnBody s_options) (C8.fnScope s_options) .none kV_options dc_options pm_options an_options cd_options ct_options), sl_options⟩)
    (c_options : PySem.W.codeIn K cd_options "options" = true)
    (k_options : PySem.W.keepIn K (.ref f_options) = true)
    (a_composed_rule : PySem.W.nsIn K mainGlobals "composed_rule" = some (some (.ref f_composed_rule)))
    (l_composed_rule : K.lookup f_composed_rule = some ⟨oc_composed_rule, od_composed_rule, .func (PySem.W.fnOf "composed_rule" "composed_rule" (C8.fnArgs s_composed_rule) (C8.fnBody s_composed_rule) (C8.fnScope s_composed_rule) .none kV_composed_rule dc_composed_rule pm_composed_rule an_composed_rule cd_composed_rule ct_composed_rule), sl_composed_rule⟩)
    (c_composed_rule : PySem.W.codeIn K cd_composed_rule "composed_rule" = true)
    (k_composed_rule : PySem.W.keepIn K (.ref f_composed_rule) = true)
    (a_names_of_variables : PySem.W.nsIn K mainGlobals "names_of_variables" = some (some (.ref f_names_of_variables)))
    (l_names_of_variables : K.lookup f_names_of_variables = some ⟨oc_names_of_variables, od_names_of_variables, .func (PySem.W.fnOf "names_of_variables" "names_of_variables" (C8.fnArgs s_names_of_variables) (C8.fnBody s_names_of_variables) (C8.fnScope s_names_of_variables) .none kV_names_of_variables dc_names_of_variables pm_names_of_variables an_names_of_variables cd_names_of_variables ct_names_of_variables), sl_names_of_variables⟩)
    (c_names_of_variables : PySem.W.codeIn K cd_names_of_variables "names_of_variables" = true)
    (k_names_of_variables : PySem.W.keepIn K (.ref f_names_of_variables) = true)
    (a_made_equal : PySem.W.nsIn K mainGlobals "made_equal" = some (some (.ref f_made_equal)))
    (l_made_equal : K.lookup f_made_equal = some ⟨oc_made_equal, od_made_equal, .func (PySem.W.fnOf "made_equal" "made_equal" (C8.fnArgs s_made_equal) (C8.fnBody s_made_equal) (C8.fnScope s_made_equal) .none kV_made_equal dc_made_equal pm_made_equal an_made_equal cd_made_equal ct_made_equal), sl_made_equal⟩)
    (c_made_equal : PySem.W.codeIn K cd_made_equal "made_equal" = true)
    (k_made_equal : PySem.W.keepIn K (.ref f_made_equal) = true)
    (a_copied : PySem.W.nsIn K mainGlobals "copied" = some (some (.ref f_copied)))
    (l_copied : K.lookup f_copied = some ⟨oc_copied, od_copied, .func (PySem.W.fnOf "copied" "copied" (C8.fnArgs s_copied) (C8.fnBody s_copied) (C8.fnScope s_copied) .none kV_copied dc_copied pm_copied an_copied cd_copied ct_copied), sl_copied⟩)
    (c_copied : PySem.W.codeIn K cd_copied "copied" = true)
    (k_copied : PySem.W.keepIn K (.ref f_copied) = true)
    (a_named_atom : PySem.W.nsIn K mainGlobals "named_atom" = some (some (.ref f_named_atom)))
    (l_named_atom : K.lookup f_named_atom = some ⟨oc_named_atom, od_named_atom, .func (PySem.W.fnOf "named_atom" "named_atom" (C8.fnArgs s_named_atom) (C8.fnBody s_named_atom) (C8.fnScope s_named_atom) .none kV_named_atom dc_named_atom pm_named_atom an_named_atom cd_named_atom ct_named_atom), sl_named_atom⟩)
    (c_named_atom : PySem.W.codeIn K cd_named_atom "named_atom" = true)
    (k_named_atom : PySem.W.keepIn K (.ref f_named_atom) = true)
    (a_numbered_atoms : PySem.W.nsIn K mainGlobals "numbered_atoms" = some (some (.ref f_numbered_atoms)))
    (l_numbered_atoms : K.lookup f_numbered_atoms = some ⟨oc_numbered_atoms, od_numbered_atoms, .func (PySem.W.fnOf "numbered_atoms" "numbered_atoms" (C8.fnArgs s_numbered_atoms) (C8.fnBody s_numbered_atoms) (C8.fnScope s_numbered_atoms) .none kV_numbered_atoms dc_numbered_atoms pm_numbered_atoms an_numbered_atoms cd_numbered_atoms ct_numbered_atoms), sl_numbered_atoms⟩)
    (c_numbered_atoms : PySem.W.codeIn K cd_numbered_atoms "numbered_atoms" = true)
    (k_numbered_atoms : PySem.W.keepIn K (.ref f_numbered_atoms) = true)
    (a_is_source_fact : PySem.W.nsIn K mainGlobals "is_source_fact" = some (some (.ref f_is_source_fact)))
    (l_is_source_fact : K.lookup f_is_source_fact = some ⟨oc_is_source_fact, od_is_source_fact, .func (PySem.W.fnOf "is_source_fact" "is_source_fact" (C8.fnArgs s_is_source_fact) (C8.fnBody s_is_source_fact) (C8.fnScope s_is_source_fact) .none kV_is_source_fact dc_is_source_fact pm_is_source_fact an_is_source_fact cd_is_source_fact ct_is_source_fact), sl_is_source_fact⟩)
    (c_is_source_fact : PySem.W.codeIn K cd_is_source_fact "is_source_fact" = true)
    (k_is_source_fact : PySem.W.keepIn K (.ref f_is_source_fact) = true)
    (a_is_end_fact : PySem.W.nsIn K mainGlobals "is_end_fact" = some (some (.ref f_is_end_fact)))
    (l_is_end_fact : K.lookup f_is_end_fact = some ⟨oc_is_end_fact, od_is_end_fact, .func (PySem.W.fnOf "is_end_fact" "is_end_fact" (C8.fnArgs s_is_end_fact) (C8.fnBody s_is_end_fact) (C8.fnScope s_is_end_fact) .none kV_is_end_fact dc_is_end_fact pm_is_end_fact an_is_end_fact cd_is_end_fact ct_is_end_fact), sl_is_end_fact⟩)
    (c_is_end_fact : PySem.W.codeIn K cd_is_end_fact "is_end_fact" = true)
    (k_is_end_fact : PySem.W.keepIn K (.ref f_is_end_fact) = true)
    (a_is_given_known : PySem.W.nsIn K mainGlobals "is_given_known" = some (some (.ref f_is_given_known)))
    (l_is_given_known : K.lookup f_is_given_known = some ⟨oc_is_given_known, od_is_given_known, .func (PySem.W.fnOf "is_given_known" "is_given_known" (C8.fnArgs s_is_given_known) (C8.fnBody s_is_given_known) (C8.fnScope s_is_given_known) .none kV_is_given_known dc_is_given_known pm_is_given_known an_is_given_known cd_is_given_known ct_is_given_known), sl_is_given_known⟩)
    (c_is_given_known : PySem.W.codeIn K cd_is_given_known "is_given_known" = true)
    (k_is_given_known : PySem.W.keepIn K (.ref f_is_given_known) = true)
    (a_is_given_value : PySem.W.nsIn K mainGlobals "is_given_value" = some (some (.ref f_is_given_value)))
    (l_is_given_value : K.lookup f_is_given_value = some ⟨oc_is_given_value, od_is_given_value, .func (PySem.W.fnOf "is_given_value" "is_given_value" (C8.fnArgs s_is_given_value) (C8.fnBody s_is_given_value) (C8.fnScope s_is_given_value) .none kV_is_given_value dc_is_given_value pm_is_given_value an_is_given_value cd_is_given_value ct_is_given_value), sl_is_given_value⟩)
    (c_is_given_value : PySem.W.codeIn K cd_is_given_value "is_given_value" = true)
    (k_is_given_value : PySem.W.keepIn K (.ref f_is_given_value) = true)
    (a_are_end_facts : PySem.W.nsIn K mainGlobals "are_end_facts" = some (some (.ref f_are_end_facts)))
    (l_are_end_facts : K.lookup f_are_end_facts = some ⟨oc_are_end_facts, od_are_end_facts, .func (PySem.W.fnOf "are_end_facts" "are_end_facts" (C8.fnArgs s_are_end_facts) (C8.fnBody s_are_end_facts) (C8.fnScope s_are_end_facts) .none kV_are_end_facts dc_are_end_facts pm_are_end_facts an_are_end_facts cd_are_end_facts ct_are_end_facts), sl_are_end_facts⟩)
    (c_are_end_facts : PySem.W.codeIn K cd_are_end_facts "are_end_facts" = true)
    (k_are_end_facts : PySem.W.keepIn K (.ref f_are_end_facts) = true)
    (a_set_of_facts : PySem.W.nsIn K mainGlobals "set_of_facts" = some (some (.ref f_set_of_facts)))
    (l_set_of_facts : K.lookup f_set_of_facts = some ⟨oc_set_of_facts, od_set_of_facts, .func (PySem.W.fnOf "set_of_facts" "set_of_facts" (C8.fnArgs s_set_of_facts) (C8.fnBody s_set_of_facts) (C8.fnScope s_set_of_facts) .none kV_set_of_facts dc_set_of_facts pm_set_of_facts an_set_of_facts cd_set_of_facts ct_set_of_facts), sl_set_of_facts⟩)
    (c_set_of_facts : PySem.W.codeIn K cd_set_of_facts "set_of_facts" = true)
    (k_set_of_facts : PySem.W.keepIn K (.ref f_set_of_facts) = true)
    (a_numbers_of : PySem.W.nsIn K mainGlobals "numbers_of" = some (some (.ref f_numbers_of)))
    (l_numbers_of : K.lookup f_numbers_of = some ⟨oc_numbers_of, od_numbers_of, .func (PySem.W.fnOf "numbers_of" "numbers_of" (C8.fnArgs s_numbers_of) (C8.fnBody s_numbers_of) (C8.fnScope s_numbers_of) .none kV_numbers_of dc_numbers_of pm_numbers_of an_numbers_of cd_numbers_of ct_numbers_of), sl_numbers_of⟩)
    (c_numbers_of : PySem.W.codeIn K cd_numbers_of "numbers_of" = true)
    (k_numbers_of : PySem.W.keepIn K (.ref f_numbers_of) = true)
    (a_facts_by_table : PySem.W.nsIn K mainGlobals "facts_by_table" = some (some (.ref f_facts_by_table)))
    (l_facts_by_table : K.lookup f_facts_by_table = some ⟨oc_facts_by_table, od_facts_by_table, .func (PySem.W.fnOf "facts_by_table" "facts_by_table" (C8.fnArgs s_facts_by_table) (C8.fnBody s_facts_by_table) (C8.fnScope s_facts_by_table) .none kV_facts_by_table dc_facts_by_table pm_facts_by_table an_facts_by_table cd_facts_by_table ct_facts_by_table), sl_facts_by_table⟩)
    (c_facts_by_table : PySem.W.codeIn K cd_facts_by_table "facts_by_table" = true)
    (k_facts_by_table : PySem.W.keepIn K (.ref f_facts_by_table) = true)
    (a_matches : PySem.W.nsIn K mainGlobals "matches" = some (some (.ref f_matches)))
    (l_matches : K.lookup f_matches = some ⟨oc_matches, od_matches, .func (PySem.W.fnOf "matches" "matches" (C8.fnArgs s_matches) (C8.fnBody s_matches) (C8.fnScope s_matches) .none kV_matches dc_matches pm_matches an_matches cd_matches ct_matches), sl_matches⟩)
    (c_matches : PySem.W.codeIn K cd_matches "matches" = true)
    (k_matches : PySem.W.keepIn K (.ref f_matches) = true)
    (a_with_values_of : PySem.W.nsIn K mainGlobals "with_values_of" = some (some (.ref f_with_values_of)))
    (l_with_values_of : K.lookup f_with_values_of = some ⟨oc_with_values_of, od_with_values_of, .func (PySem.W.fnOf "with_values_of" "with_values_of" (C8.fnArgs s_with_values_of) (C8.fnBody s_with_values_of) (C8.fnScope s_with_values_of) .none kV_with_values_of dc_with_values_of pm_with_values_of an_with_values_of cd_with_values_of ct_with_values_of), sl_with_values_of⟩)
    (c_with_values_of : PySem.W.codeIn K cd_with_values_of "with_values_of" = true)
    (k_with_values_of : PySem.W.keepIn K (.ref f_with_values_of) = true)
    (a_first_lack : PySem.W.nsIn K mainGlobals "first_lack" = some (some (.ref f_first_lack)))
    (l_first_lack : K.lookup f_first_lack = some ⟨oc_first_lack, od_first_lack, .func (PySem.W.fnOf "first_lack" "first_lack" (C8.fnArgs s_first_lack) (C8.fnBody s_first_lack) (C8.fnScope s_first_lack) .none kV_first_lack dc_first_lack pm_first_lack an_first_lack cd_first_lack ct_first_lack), sl_first_lack⟩)
    (c_first_lack : PySem.W.codeIn K cd_first_lack "first_lack" = true)
    (k_first_lack : PySem.W.keepIn K (.ref f_first_lack) = true)
    (a_first_match_without_head : PySem.W.nsIn K mainGlobals "first_match_without_head" = some (some (.ref f_first_match_without_head)))
    (l_first_match_without_head : K.lookup f_first_match_without_head = some ⟨oc_first_match_without_head, od_first_match_without_head, .func (PySem.W.fnOf "first_match_without_head" "first_match_without_head" (C8.fnArgs s_first_match_without_head) (C8.fnBody s_first_match_without_head) (C8.fnScope s_first_match_without_head) .none kV_first_match_without_head dc_first_match_without_head pm_first_match_without_head an_first_match_without_head cd_first_match_without_head ct_first_match_without_head), sl_first_match_without_head⟩)
    (c_first_match_without_head : PySem.W.codeIn K cd_first_match_without_head "first_match_without_head" = true)
    (k_first_match_without_head : PySem.W.keepIn K (.ref f_first_match_without_head) = true)
    (a_computed_facts : PySem.W.nsIn K mainGlobals "computed_facts" = some (some (.ref f_computed_facts)))
    (l_computed_facts : K.lookup f_computed_facts = some ⟨oc_computed_facts, od_computed_facts, .func (PySem.W.fnOf "computed_facts" "computed_facts" (C8.fnArgs s_computed_facts) (C8.fnBody s_computed_facts) (C8.fnScope s_computed_facts) .none kV_computed_facts dc_computed_facts pm_computed_facts an_computed_facts cd_computed_facts ct_computed_facts), sl_computed_facts⟩)
    (c_computed_facts : PySem.W.codeIn K cd_computed_facts "computed_facts" = true)
    (k_computed_facts : PySem.W.keepIn K (.ref f_computed_facts) = true)
    (a_with_unknown_values : PySem.W.nsIn K mainGlobals "with_unknown_values" = some (some (.ref f_with_unknown_values)))
    (l_with_unknown_values : K.lookup f_with_unknown_values = some ⟨oc_with_unknown_values, od_with_unknown_values, .func (PySem.W.fnOf "with_unknown_values" "with_unknown_values" (C8.fnArgs s_with_unknown_values) (C8.fnBody s_with_unknown_values) (C8.fnScope s_with_unknown_values) .none kV_with_unknown_values dc_with_unknown_values pm_with_unknown_values an_with_unknown_values cd_with_unknown_values ct_with_unknown_values), sl_with_unknown_values⟩)
    (c_with_unknown_values : PySem.W.codeIn K cd_with_unknown_values "with_unknown_values" = true)
    (k_with_unknown_values : PySem.W.keepIn K (.ref f_with_unknown_values) = true)
    (a_index_when_added : PySem.W.nsIn K mainGlobals "index_when_added" = some (some (.ref f_index_when_added)))
    (l_index_when_added : K.lookup f_index_when_added = some ⟨oc_index_when_added, od_index_when_added, .func (PySem.W.fnOf "index_when_added" "index_when_added" (C8.fnArgs s_index_when_added) (C8.fnBody s_index_when_added) (C8.fnScope s_index_when_added) .none kV_index_when_added dc_index_when_added pm_index_when_added an_index_when_added cd_index_when_added ct_index_when_added), sl_index_when_added⟩)
    (c_index_when_added : PySem.W.codeIn K cd_index_when_added "index_when_added" = true)
    (k_index_when_added : PySem.W.keepIn K (.ref f_index_when_added) = true)
    (a_answers : PySem.W.nsIn K mainGlobals "answers" = some (some (.ref f_answers)))
    (l_answers : K.lookup f_answers = some ⟨oc_answers, od_answers, .func (PySem.W.fnOf "answers" "answers" (C8.fnArgs s_answers) (C8.fnBody s_answers) (C8.fnScope s_answers) .none kV_answers dc_answers pm_answers an_answers cd_answers ct_answers), sl_answers⟩)
    (c_answers : PySem.W.codeIn K cd_answers "answers" = true)
    (k_answers : PySem.W.keepIn K (.ref f_answers) = true)
    (a_answer : PySem.W.nsIn K mainGlobals "answer" = some (some (.ref f_answer)))
    (l_answer : K.lookup f_answer = some ⟨oc_answer, od_answer, .func (PySem.W.fnOf "answer" "answer" (C8.fnArgs s_answer) (C8.fnBody s_answer) (C8.fnScope s_answer) .none kV_answer dc_answer pm_answer an_answer cd_answer ct_answer), sl_answer⟩)
    (c_answer : PySem.W.codeIn K cd_answer "answer" = true)
    (k_answer : PySem.W.keepIn K (.ref f_answer) = true)
    (a_answer_to_rule : PySem.W.nsIn K mainGlobals "answer_to_rule" = some (some (.ref f_answer_to_rule)))
    (l_answer_to_rule : K.lookup f_answer_to_rule = some ⟨oc_answer_to_rule, od_answer_to_rule, .func (PySem.W.fnOf "answer_to_rule" "answer_to_rule" (C8.fnArgs s_answer_to_rule) (C8.fnBody s_answer_to_rule) (C8.fnScope s_answer_to_rule) .none kV_answer_to_rule dc_answer_to_rule pm_answer_to_rule an_answer_to_rule cd_answer_to_rule ct_answer_to_rule), sl_answer_to_rule⟩)
    (c_answer_to_rule : PySem.W.codeIn K cd_answer_to_rule "answer_to_rule" = true)
    (k_answer_to_rule : PySem.W.keepIn K (.ref f_answer_to_rule) = true)
    (a_answer_to_fact : PySem.W.nsIn K mainGlobals "answer_to_fact" = some (some (.ref f_answer_to_fact)))
    (l_answer_to_fact : K.lookup f_answer_to_fact = some ⟨oc_answer_to_fact, od_answer_to_fact, .func (PySem.W.fnOf "answer_to_fact" "answer_to_fact" (C8.fnArgs s_answer_to_fact) (C8.fnBody s_answer_to_fact) (C8.fnScope s_answer_to_fact) .none kV_answer_to_fact dc_answer_to_fact pm_answer_to_fact an_answer_to_fact cd_answer_to_fact ct_answer_to_fact), sl_answer_to_fact⟩)
    (c_answer_to_fact : PySem.W.codeIn K cd_answer_to_fact "answer_to_fact" = true)
    (k_answer_to_fact : PySem.W.keepIn K (.ref f_answer_to_fact) = true)
    (g_Reader : PySem.W.nsIn K mainGlobals "Reader" = some (some (.ref C_Reader)))
    (pg_Reader : PySem.W.plainGet K C_Reader Str.empty = true)
    (hd_Reader : PySem.W.hasDictIn K C_Reader = true)
    (po_Reader : PySem.W.plainOver K C_Reader = true)
    (sa_Reader : PySem.W.findIn K (.ref C_Reader) "__setattr__" = some (some (.builtin "object.__setattr__")))
    (mk_Reader : PySem.W.makesIn K C_Reader = true)
    (kc_Reader : PySem.W.keepIn K (.ref C_Reader) = true)
    (no_Reader_calls : PySem.W.findIn K (.ref C_Reader) "calls" = some none)
    (no_Reader_position : PySem.W.findIn K (.ref C_Reader) "position" = some none)
    (a_Reader_init : PySem.W.findIn K (.ref C_Reader) "__init__" = some (some (.ref f_Reader_init)))
    (l_Reader_init : K.lookup f_Reader_init = some ⟨oc_Reader_init, od_Reader_init, .func (PySem.W.fnOf "__init__" "Reader.__init__" (C8.fnArgs s_Reader_init) (C8.fnBody s_Reader_init) (C8.fnScope s_Reader_init) .none kV_Reader_init dc_Reader_init pm_Reader_init an_Reader_init cd_Reader_init ct_Reader_init), sl_Reader_init⟩)
    (c_Reader_init : PySem.W.codeIn K cd_Reader_init "Reader.__init__" = true)
    (k_Reader_init : PySem.W.keepIn K (.ref f_Reader_init) = true)
    (i_Reader_init : PySem.W.isFn K (.ref f_Reader_init) = true)
    (a_Reader_is_done : PySem.W.findIn K (.ref C_Reader) "is_done" = some (some (.ref f_Reader_is_done)))
    (l_Reader_is_done : K.lookup f_Reader_is_done = some ⟨oc_Reader_is_done, od_Reader_is_done, .func (PySem.W.fnOf "is_done" "Reader.is_done" (C8.fnArgs s_Reader_is_done) (C8.fnBody s_Reader_is_done) (C8.fnScope s_Reader_is_done) .none kV_Reader_is_done dc_Reader_is_done pm_Reader_is_done an_Reader_is_done cd_Reader_is_done ct_Reader_is_done), sl_Reader_is_done⟩)
    (c_Reader_is_done : PySem.W.codeIn K cd_Reader_is_done "Reader.is_done" = true)
    (k_Reader_is_done : PySem.W.keepIn K (.ref f_Reader_is_done) = true)
    (i_Reader_is_done : PySem.W.isFn K (.ref f_Reader_is_done) = true)
    (a_Reader_number : PySem.W.findIn K (.ref C_Reader) "number" = some (some (.ref f_Reader_number)))
    (l_Reader_number : K.lookup f_Reader_number = some ⟨oc_Reader_number, od_Reader_number, .func (PySem.W.fnOf "number" "Reader.number" (C8.fnArgs s_Reader_number) (C8.fnBody s_Reader_number) (C8.fnScope s_Reader_number) .none kV_Reader_number dc_Reader_number pm_Reader_number an_Reader_number cd_Reader_number ct_Reader_number), sl_Reader_number⟩)
    (c_Reader_number : PySem.W.codeIn K cd_Reader_number "Reader.number" = true)
    (k_Reader_number : PySem.W.keepIn K (.ref f_Reader_number) = true)
    (i_Reader_number : PySem.W.isFn K (.ref f_Reader_number) = true)
    (a_Reader_row : PySem.W.findIn K (.ref C_Reader) "row" = some (some (.ref f_Reader_row)))
    (l_Reader_row : K.lookup f_Reader_row = some ⟨oc_Reader_row, od_Reader_row, .func (PySem.W.fnOf "row" "Reader.row" (C8.fnArgs s_Reader_row) (C8.fnBody s_Reader_row) (C8.fnScope s_Reader_row) .none kV_Reader_row dc_Reader_row pm_Reader_row an_Reader_row cd_Reader_row ct_Reader_row), sl_Reader_row⟩)
    (c_Reader_row : PySem.W.codeIn K cd_Reader_row "Reader.row" = true)
    (k_Reader_row : PySem.W.keepIn K (.ref f_Reader_row) = true)
    (i_Reader_row : PySem.W.isFn K (.ref f_Reader_row) = true)
    (g_Service : PySem.W.nsIn K mainGlobals "Service" = some (some (.ref C_Service)))
    (pg_Service : PySem.W.plainGet K C_Service Str.empty = true)
    (hd_Service : PySem.W.hasDictIn K C_Service = true)
    (po_Service : PySem.W.plainOver K C_Service = true)
    (sa_Service : PySem.W.findIn K (.ref C_Service) "__setattr__" = some (some (.builtin "object.__setattr__")))
    (mk_Service : PySem.W.makesIn K C_Service = true)
    (kc_Service : PySem.W.keepIn K (.ref C_Service) = true)
    (no_Service_first_rules : PySem.W.findIn K (.ref C_Service) "first_rules" = some none)
    (no_Service_second_rules : PySem.W.findIn K (.ref C_Service) "second_rules" = some none)
    (no_Service_source_facts : PySem.W.findIn K (.ref C_Service) "source_facts" = some none)
    (a_Service_init : PySem.W.findIn K (.ref C_Service) "__init__" = some (some (.ref f_Service_init)))
    (l_Service_init : K.lookup f_Service_init = some ⟨oc_Service_init, od_Service_init, .func (PySem.W.fnOf "__init__" "Service.__init__" (C8.fnArgs s_Service_init) (C8.fnBody s_Service_init) (C8.fnScope s_Service_init) .none kV_Service_init dc_Service_init pm_Service_init an_Service_init cd_Service_init ct_Service_init), sl_Service_init⟩)
    (c_Service_init : PySem.W.codeIn K cd_Service_init "Service.__init__" = true)
    (k_Service_init : PySem.W.keepIn K (.ref f_Service_init) = true)
    (i_Service_init : PySem.W.isFn K (.ref f_Service_init) = true)
    (a_Service_begins : PySem.W.findIn K (.ref C_Service) "begins" = some (some (.ref f_Service_begins)))
    (l_Service_begins : K.lookup f_Service_begins = some ⟨oc_Service_begins, od_Service_begins, .func (PySem.W.fnOf "begins" "Service.begins" (C8.fnArgs s_Service_begins) (C8.fnBody s_Service_begins) (C8.fnScope s_Service_begins) .none kV_Service_begins dc_Service_begins pm_Service_begins an_Service_begins cd_Service_begins ct_Service_begins), sl_Service_begins⟩)
    (c_Service_begins : PySem.W.codeIn K cd_Service_begins "Service.begins" = true)
    (k_Service_begins : PySem.W.keepIn K (.ref f_Service_begins) = true)
    (i_Service_begins : PySem.W.isFn K (.ref f_Service_begins) = true)
    (a_Service_one : PySem.W.findIn K (.ref C_Service) "one" = some (some (.ref f_Service_one)))
    (l_Service_one : K.lookup f_Service_one = some ⟨oc_Service_one, od_Service_one, .func (PySem.W.fnOf "one" "Service.one" (C8.fnArgs s_Service_one) (C8.fnBody s_Service_one) (C8.fnScope s_Service_one) .none kV_Service_one dc_Service_one pm_Service_one an_Service_one cd_Service_one ct_Service_one), sl_Service_one⟩)
    (c_Service_one : PySem.W.codeIn K cd_Service_one "Service.one" = true)
    (k_Service_one : PySem.W.keepIn K (.ref f_Service_one) = true)
    (i_Service_one : PySem.W.isFn K (.ref f_Service_one) = true)
    (a_Service_two : PySem.W.findIn K (.ref C_Service) "two" = some (some (.ref f_Service_two)))
    (l_Service_two : K.lookup f_Service_two = some ⟨oc_Service_two, od_Service_two, .func (PySem.W.fnOf "two" "Service.two" (C8.fnArgs s_Service_two) (C8.fnBody s_Service_two) (C8.fnScope s_Service_two) .none kV_Service_two dc_Service_two pm_Service_two an_Service_two cd_Service_two ct_Service_two), sl_Service_two⟩)
    (c_Service_two : PySem.W.codeIn K cd_Service_two "Service.two" = true)
    (k_Service_two : PySem.W.keepIn K (.ref f_Service_two) = true)
    (i_Service_two : PySem.W.isFn K (.ref f_Service_two) = true)
    (a_Service_fact : PySem.W.findIn K (.ref C_Service) "fact" = some (some (.ref f_Service_fact)))
    (l_Service_fact : K.lookup f_Service_fact = some ⟨oc_Service_fact, od_Service_fact, .func (PySem.W.fnOf "fact" "Service.fact" (C8.fnArgs s_Service_fact) (C8.fnBody s_Service_fact) (C8.fnScope s_Service_fact) .none kV_Service_fact dc_Service_fact pm_Service_fact an_Service_fact cd_Service_fact ct_Service_fact), sl_Service_fact⟩)
    (c_Service_fact : PySem.W.codeIn K cd_Service_fact "Service.fact" = true)
    (k_Service_fact : PySem.W.keepIn K (.ref f_Service_fact) = true)
    (i_Service_fact : PySem.W.isFn K (.ref f_Service_fact) = true)
    (a_Service_gone : PySem.W.findIn K (.ref C_Service) "gone" = some (some (.ref f_Service_gone)))
    (l_Service_gone : K.lookup f_Service_gone = some ⟨oc_Service_gone, od_Service_gone, .func (PySem.W.fnOf "gone" "Service.gone" (C8.fnArgs s_Service_gone) (C8.fnBody s_Service_gone) (C8.fnScope s_Service_gone) .none kV_Service_gone dc_Service_gone pm_Service_gone an_Service_gone cd_Service_gone ct_Service_gone), sl_Service_gone⟩)
    (c_Service_gone : PySem.W.codeIn K cd_Service_gone "Service.gone" = true)
    (k_Service_gone : PySem.W.keepIn K (.ref f_Service_gone) = true)
    (i_Service_gone : PySem.W.isFn K (.ref f_Service_gone) = true)
    (a_Service_composed : PySem.W.findIn K (.ref C_Service) "composed" = some (some (.ref f_Service_composed)))
    (l_Service_composed : K.lookup f_Service_composed = some ⟨oc_Service_composed, od_Service_composed, .func (PySem.W.fnOf "composed" "Service.composed" (C8.fnArgs s_Service_composed) (C8.fnBody s_Service_composed) (C8.fnScope s_Service_composed) .none kV_Service_composed dc_Service_composed pm_Service_composed an_Service_composed cd_Service_composed ct_Service_composed), sl_Service_composed⟩)
    (c_Service_composed : PySem.W.codeIn K cd_Service_composed "Service.composed" = true)
    (k_Service_composed : PySem.W.keepIn K (.ref f_Service_composed) = true)
    (i_Service_composed : PySem.W.isFn K (.ref f_Service_composed) = true)
    (a_Service_middle : PySem.W.findIn K (.ref C_Service) "middle" = some (some (.ref f_Service_middle)))
    (l_Service_middle : K.lookup f_Service_middle = some ⟨oc_Service_middle, od_Service_middle, .func (PySem.W.fnOf "middle" "Service.middle" (C8.fnArgs s_Service_middle) (C8.fnBody s_Service_middle) (C8.fnScope s_Service_middle) .none kV_Service_middle dc_Service_middle pm_Service_middle an_Service_middle cd_Service_middle ct_Service_middle), sl_Service_middle⟩)
    (c_Service_middle : PySem.W.codeIn K cd_Service_middle "Service.middle" = true)
    (k_Service_middle : PySem.W.keepIn K (.ref f_Service_middle) = true)
    (i_Service_middle : PySem.W.isFn K (.ref f_Service_middle) = true)
    (a_Service_end : PySem.W.findIn K (.ref C_Service) "end" = some (some (.ref f_Service_end)))
    (l_Service_end : K.lookup f_Service_end = some ⟨oc_Service_end, od_Service_end, .func (PySem.W.fnOf "end" "Service.end" (C8.fnArgs s_Service_end) (C8.fnBody s_Service_end) (C8.fnScope s_Service_end) .none kV_Service_end dc_Service_end pm_Service_end an_Service_end cd_Service_end ct_Service_end), sl_Service_end⟩)
    (c_Service_end : PySem.W.codeIn K cd_Service_end "Service.end" = true)
    (k_Service_end : PySem.W.keepIn K (.ref f_Service_end) = true)
    (i_Service_end : PySem.W.isFn K (.ref f_Service_end) = true)
    (a_Service_direct : PySem.W.findIn K (.ref C_Service) "direct" = some (some (.ref f_Service_direct)))
    (l_Service_direct : K.lookup f_Service_direct = some ⟨oc_Service_direct, od_Service_direct, .func (PySem.W.fnOf "direct" "Service.direct" (C8.fnArgs s_Service_direct) (C8.fnBody s_Service_direct) (C8.fnScope s_Service_direct) .none kV_Service_direct dc_Service_direct pm_Service_direct an_Service_direct cd_Service_direct ct_Service_direct), sl_Service_direct⟩)
    (c_Service_direct : PySem.W.codeIn K cd_Service_direct "Service.direct" = true)
    (k_Service_direct : PySem.W.keepIn K (.ref f_Service_direct) = true)
    (i_Service_direct : PySem.W.isFn K (.ref f_Service_direct) = true)
    (a_Service_goes : PySem.W.findIn K (.ref C_Service) "goes" = some (some (.ref f_Service_goes)))
    (l_Service_goes : K.lookup f_Service_goes = some ⟨oc_Service_goes, od_Service_goes, .func (PySem.W.fnOf "goes" "Service.goes" (C8.fnArgs s_Service_goes) (C8.fnBody s_Service_goes) (C8.fnScope s_Service_goes) .none kV_Service_goes dc_Service_goes pm_Service_goes an_Service_goes cd_Service_goes ct_Service_goes), sl_Service_goes⟩)
    (c_Service_goes : PySem.W.codeIn K cd_Service_goes "Service.goes" = true)
    (k_Service_goes : PySem.W.keepIn K (.ref f_Service_goes) = true)
    (i_Service_goes : PySem.W.isFn K (.ref f_Service_goes) = true)
    (a_Service_lacks : PySem.W.findIn K (.ref C_Service) "lacks" = some (some (.ref f_Service_lacks)))
    (l_Service_lacks : K.lookup f_Service_lacks = some ⟨oc_Service_lacks, od_Service_lacks, .func (PySem.W.fnOf "lacks" "Service.lacks" (C8.fnArgs s_Service_lacks) (C8.fnBody s_Service_lacks) (C8.fnScope s_Service_lacks) .none kV_Service_lacks dc_Service_lacks pm_Service_lacks an_Service_lacks cd_Service_lacks ct_Service_lacks), sl_Service_lacks⟩)
    (c_Service_lacks : PySem.W.codeIn K cd_Service_lacks "Service.lacks" = true)
    (k_Service_lacks : PySem.W.keepIn K (.ref f_Service_lacks) = true)
    (i_Service_lacks : PySem.W.isFn K (.ref f_Service_lacks) = true)
    (a_Service_rules_without_middle : PySem.W.findIn K (.ref C_Service) "rules_without_middle" = some (some (.ref f_Service_rules_without_middle)))
    (l_Service_rules_without_middle : K.lookup f_Service_rules_without_middle = some ⟨oc_Service_rules_without_middle, od_Service_rules_without_middle, .func (PySem.W.fnOf "rules_without_middle" "Service.rules_without_middle" (C8.fnArgs s_Service_rules_without_middle) (C8.fnBody s_Service_rules_without_middle) (C8.fnScope s_Service_rules_without_middle) .none kV_Service_rules_without_middle dc_Service_rules_without_middle pm_Service_rules_without_middle an_Service_rules_without_middle cd_Service_rules_without_middle ct_Service_rules_without_middle), sl_Service_rules_without_middle⟩)
    (c_Service_rules_without_middle : PySem.W.codeIn K cd_Service_rules_without_middle "Service.rules_without_middle" = true)
    (k_Service_rules_without_middle : PySem.W.keepIn K (.ref f_Service_rules_without_middle) = true)
    (i_Service_rules_without_middle : PySem.W.isFn K (.ref f_Service_rules_without_middle) = true)
    (a_Service_facts_of_middle : PySem.W.findIn K (.ref C_Service) "facts_of_middle" = some (some (.ref f_Service_facts_of_middle)))
    (l_Service_facts_of_middle : K.lookup f_Service_facts_of_middle = some ⟨oc_Service_facts_of_middle, od_Service_facts_of_middle, .func (PySem.W.fnOf "facts_of_middle" "Service.facts_of_middle" (C8.fnArgs s_Service_facts_of_middle) (C8.fnBody s_Service_facts_of_middle) (C8.fnScope s_Service_facts_of_middle) .none kV_Service_facts_of_middle dc_Service_facts_of_middle pm_Service_facts_of_middle an_Service_facts_of_middle cd_Service_facts_of_middle ct_Service_facts_of_middle), sl_Service_facts_of_middle⟩)
    (c_Service_facts_of_middle : PySem.W.codeIn K cd_Service_facts_of_middle "Service.facts_of_middle" = true)
    (k_Service_facts_of_middle : PySem.W.keepIn K (.ref f_Service_facts_of_middle) = true)
    (i_Service_facts_of_middle : PySem.W.isFn K (.ref f_Service_facts_of_middle) = true)
    : Top K mg C_Reader C_Service where
  b_all := PySem.W.mg_none_of X G z_all
  b_dict := PySem.W.mg_none_of X G z_dict
  b_enumerate := PySem.W.mg_none_of X G z_enumerate
  b_len := PySem.W.mg_none_of X G z_len
  b_list := PySem.W.mg_none_of X G z_list
  b_range := PySem.W.mg_none_of X G z_range
  b_set := PySem.W.mg_none_of X G z_set
  b_sorted := PySem.W.mg_none_of X G z_sorted
  b_tuple := PySem.W.mg_none_of X G z_tuple
  c_SOURCE := ⟨_, PySem.W.mg_of X G n_SOURCE⟩
  c_MIDDLE_rules := ⟨_, PySem.W.mg_of X G n_MIDDLE_rules⟩
  c_END_rules := ⟨_, PySem.W.mg_of X G n_END_rules⟩
  c_TABLES_OF_A_PLACE := ⟨_, PySem.W.mg_of X G n_TABLES_OF_A_PLACE⟩
  c_TRIPLE := ⟨_, PySem.W.mg_of X G n_TRIPLE⟩
  c_MOST_ATOMS := ⟨_, PySem.W.mg_of X G n_MOST_ATOMS⟩
  c_VARIABLES := ⟨_, PySem.W.mg_of X G n_VARIABLES⟩
  c_SECOND_RULE := ⟨_, PySem.W.mg_of X G n_SECOND_RULE⟩
  c_FIRST_COPY := ⟨_, PySem.W.mg_of X G n_FIRST_COPY⟩
  c_GIVEN_KNOWN_VALUES := ⟨_, PySem.W.mg_of X G n_GIVEN_KNOWN_VALUES⟩
  c_FIRST_UNKNOWN := ⟨_, PySem.W.mg_of X G n_FIRST_UNKNOWN⟩
  c_LAST_GIVEN_UNKNOWN := ⟨_, PySem.W.mg_of X G n_LAST_GIVEN_UNKNOWN⟩
  c_MOST_GIVEN_FACTS := ⟨_, PySem.W.mg_of X G n_MOST_GIVEN_FACTS⟩
  c_MOST_RULES := ⟨_, PySem.W.mg_of X G n_MOST_RULES⟩
  c_MOST_FACTS := ⟨_, PySem.W.mg_of X G n_MOST_FACTS⟩
  c_INVALID := ⟨_, PySem.W.mg_of X G n_INVALID⟩
  c_NOT_THERE := ⟨_, PySem.W.mg_of X G n_NOT_THERE⟩
  c_EXISTS := ⟨_, PySem.W.mg_of X G n_EXISTS⟩
  c_EXISTENTIAL := ⟨_, PySem.W.mg_of X G n_EXISTENTIAL⟩
  c_FULL := ⟨_, PySem.W.mg_of X G n_FULL⟩
  c_BEGINS := ⟨_, PySem.W.mg_of X G n_BEGINS⟩
  c_ONE := ⟨_, PySem.W.mg_of X G n_ONE⟩
  c_TWO := ⟨_, PySem.W.mg_of X G n_TWO⟩
  c_FACT := ⟨_, PySem.W.mg_of X G n_FACT⟩
  c_GONE := ⟨_, PySem.W.mg_of X G n_GONE⟩
  c_COMPOSED := ⟨_, PySem.W.mg_of X G n_COMPOSED⟩
  c_MIDDLE_steps := ⟨_, PySem.W.mg_of X G n_MIDDLE_steps⟩
  c_END_steps := ⟨_, PySem.W.mg_of X G n_END_steps⟩
  c_DIRECT := ⟨_, PySem.W.mg_of X G n_DIRECT⟩
  c_GOES := ⟨_, PySem.W.mg_of X G n_GOES⟩
  c_LACKS := ⟨_, PySem.W.mg_of X G n_LACKS⟩
  d_is_table_of := df_mk X G a_is_table_of l_is_table_of c_is_table_of k_is_table_of
  d_triples := df_mk X G a_triples l_triples c_triples k_triples
  d_is_atom := df_mk X G a_is_atom l_is_atom c_is_atom k_is_atom
  d_are_atoms := df_mk X G a_are_atoms l_are_atoms c_are_atoms k_are_atoms
  d_body_of := df_mk X G a_body_of l_body_of c_body_of k_body_of
  d_head_of := df_mk X G a_head_of l_head_of c_head_of k_head_of
  d_variables_of := df_mk X G a_variables_of l_variables_of c_variables_of k_variables_of
  d_existential_variables := df_mk X G a_existential_variables l_existential_variables c_existential_variables k_existential_variables
  d_composed_rules := df_mk X G a_composed_rules l_composed_rules c_composed_rules k_composed_rules
  d_choices := df_mk X G a_choices l_choices c_choices k_choices
  d_options := df_mk X G a_options l_options c_options k_options
  d_composed_rule := df_mk X G a_composed_rule l_composed_rule c_composed_rule k_composed_rule
  d_names_of_variables := df_mk X G a_names_of_variables l_names_of_variables c_names_of_variables k_names_of_variables
  d_made_equal := df_mk X G a_made_equal l_made_equal c_made_equal k_made_equal
  d_copied := df_mk X G a_copied l_copied c_copied k_copied
  d_named_atom := df_mk X G a_named_atom l_named_atom c_named_atom k_named_atom
  d_numbered_atoms := df_mk X G a_numbered_atoms l_numbered_atoms c_numbered_atoms k_numbered_atoms
  d_is_source_fact := df_mk X G a_is_source_fact l_is_source_fact c_is_source_fact k_is_source_fact
  d_is_end_fact := df_mk X G a_is_end_fact l_is_end_fact c_is_end_fact k_is_end_fact
  d_is_given_known := df_mk X G a_is_given_known l_is_given_known c_is_given_known k_is_given_known
  d_is_given_value := df_mk X G a_is_given_value l_is_given_value c_is_given_value k_is_given_value
  d_are_end_facts := df_mk X G a_are_end_facts l_are_end_facts c_are_end_facts k_are_end_facts
  d_set_of_facts := df_mk X G a_set_of_facts l_set_of_facts c_set_of_facts k_set_of_facts
  d_numbers_of := df_mk X G a_numbers_of l_numbers_of c_numbers_of k_numbers_of
  d_facts_by_table := df_mk X G a_facts_by_table l_facts_by_table c_facts_by_table k_facts_by_table
  d_matches := df_mk X G a_matches l_matches c_matches k_matches
  d_with_values_of := df_mk X G a_with_values_of l_with_values_of c_with_values_of k_with_values_of
  d_first_lack := df_mk X G a_first_lack l_first_lack c_first_lack k_first_lack
  d_first_match_without_head := df_mk X G a_first_match_without_head l_first_match_without_head c_first_match_without_head k_first_match_without_head
  d_computed_facts := df_mk X G a_computed_facts l_computed_facts c_computed_facts k_computed_facts
  d_with_unknown_values := df_mk X G a_with_unknown_values l_with_unknown_values c_with_unknown_values k_with_unknown_values
  d_index_when_added := df_mk X G a_index_when_added l_index_when_added c_index_when_added k_index_when_added
  d_answers := df_mk X G a_answers l_answers c_answers k_answers
  d_answer := df_mk X G a_answer l_answer c_answer k_answer
  d_answer_to_rule := df_mk X G a_answer_to_rule l_answer_to_rule c_answer_to_rule k_answer_to_rule
  d_answer_to_fact := df_mk X G a_answer_to_fact l_answer_to_fact c_answer_to_fact k_answer_to_fact
  k_Reader := ⟨pg_Reader, hd_Reader, po_Reader, sa_Reader⟩
  g_Reader := PySem.W.mg_of X G g_Reader
  a_Reader_calls := no_Reader_calls
  a_Reader_position := no_Reader_position
  m_Reader_init := mi_mk mk_Reader a_Reader_init i_Reader_init kc_Reader l_Reader_init c_Reader_init
  m_Reader_is_done := mt_mk a_Reader_is_done i_Reader_is_done k_Reader_is_done l_Reader_is_done c_Reader_is_done
  m_Reader_number := mt_mk a_Reader_number i_Reader_number k_Reader_number l_Reader_number c_Reader_number
  m_Reader_row := mt_mk a_Reader_row i_Reader_row k_Reader_row l_Reader_row c_Reader_row
  k_Service := ⟨pg_Service, hd_Service, po_Service, sa_Service⟩
  g_Service := PySem.W.mg_of X G g_Service
  a_Service_first_rules := no_Service_first_rules
  a_Service_second_rules := no_Service_second_rules
  a_Service_source_facts := no_Service_source_facts
  m_Service_init := mi_mk mk_Service a_Service_init i_Service_init kc_Service l_Service_init c_Service_init
  m_Service_begins := mt_mk a_Service_begins i_Service_begins k_Service_begins l_Service_begins c_Service_begins
  m_Service_one := mt_mk a_Service_one i_Service_one k_Service_one l_Service_one c_Service_one
  m_Service_two := mt_mk a_Service_two i_Service_two k_Service_two l_Service_two c_Service_two
  m_Service_fact := mt_mk a_Service_fact i_Service_fact k_Service_fact l_Service_fact c_Service_fact
  m_Service_gone := mt_mk a_Service_gone i_Service_gone k_Service_gone l_Service_gone c_Service_gone
  m_Service_composed := mt_mk a_Service_composed i_Service_composed k_Service_composed l_Service_composed c_Service_composed
  m_Service_middle := mt_mk a_Service_middle i_Service_middle k_Service_middle l_Service_middle c_Service_middle
  m_Service_end := mt_mk a_Service_end i_Service_end k_Service_end l_Service_end c_Service_end
  m_Service_direct := mt_mk a_Service_direct i_Service_direct k_Service_direct l_Service_direct c_Service_direct
  m_Service_goes := mt_mk a_Service_goes i_Service_goes k_Service_goes l_Service_goes c_Service_goes
  m_Service_lacks := mt_mk a_Service_lacks i_Service_lacks k_Service_lacks l_Service_lacks c_Service_lacks
  m_Service_rules_without_middle := mt_mk a_Service_rules_without_middle i_Service_rules_without_middle k_Service_rules_without_middle l_Service_rules_without_middle c_Service_rules_without_middle
  m_Service_facts_of_middle := mt_mk a_Service_facts_of_middle i_Service_facts_of_middle k_Service_facts_of_middle l_Service_facts_of_middle c_Service_facts_of_middle
/-- the promise of answers, whatever base it is called from -/
theorem all_mk {P : Program} {w : World} {K : PySem.W.Frag} {mg : Str → Option Value} {fa CR CS : Addr} (hfa : mg "answers" = some (.ref fa)) (T : Top K mg CR CS) :
    ∃ fd : FuncData, (∀ (s : Shared) (us : List Value), us.length = (["calls"] : List Str).length → BindsTo s fd ⟨us, []⟩ ((["calls"] : List Str).zip us)) ∧ ∀ base : Heap, K.In base → base.Ns mainGlobals mg → FnOk P w K mg base L2.CX0 12 fa fd ["calls"] (spAnswers K) := by
  obtain ⟨f, fd, D, df⟩ := T.d_answers
  have e := hfa.symm.trans D.mgf
  cases e
  refine ⟨fd, fun s us hu => ?_, fun base _ _ => ?_⟩
  · obtain ⟨oc, od, dV, kV, doc, pm, an, cdv, ct, osl, rfl, lk, hcd⟩ := D.fn.ex
    have e : dV = .none := df
    subst e
    match us, hu with
    | [_], _ => exact .of_eq rfl
  · have c_is_table_of := ok_is_table_of (P := P) (w := w) (base := base) T
    have c_triples := ok_triples (P := P) (w := w) (base := base) T
    have c_is_atom := ok_is_atom T c_is_table_of
    have c_are_atoms := ok_are_atoms T c_triples c_is_atom
    have c_body_of := ok_body_of (P := P) (w := w) (base := base) T
    have c_head_of := ok_head_of (P := P) (w := w) (base := base) T
    have c_variables_of := ok_variables_of (P := P) (w := w) (base := base) T
    have c_exist := ok_existential_variables T c_variables_of c_body_of c_head_of
    have c_composed_rules : C8.Cal P w K mg base 4 "composed_rules" spComposedRules [] := by
      have c_copied := ok_copied (P := P) (w := w) (base := base) T
      have c_made := ok_made_equal (P := P) (w := w) (base := base) T
      have c_named := ok_named_atom T c_copied
      have c_numbered := ok_numbered_atoms (P := P) (w := w) (base := base) T
      have c_options := ok_options T c_head_of
      have c_choices := ok_choices T c_options
      have c_names := ok_names_of_variables T c_made c_copied
      have c_rule := ok_composed_rule T c_names c_body_of c_head_of c_named c_variables_of c_numbered
      exact ok_composed_rules T c_choices c_body_of c_rule
    have c_known := ok_is_given_known (P := P) (w := w) (base := base) T
    have c_value := ok_is_given_value T c_known
    have c_source := ok_is_source_fact T c_is_table_of c_known
    have c_end_fact := ok_is_end_fact T c_is_table_of c_value
    have c_ends := ok_are_end_facts T c_triples c_end_fact
    have c_set := ok_set_of_facts (P := P) (w := w) (base := base) T
    have c_numbers := ok_numbers_of (P := P) (w := w) (base := base) T
    have c_by_table := ok_facts_by_table (P := P) (w := w) (base := base) T
    have c_with := ok_with_values_of (P := P) (w := w) (base := base) T
    have c_matches := ok_matches T c_with
    have c_first := ok_first_match T c_matches c_body_of c_head_of
    have c_lack := ok_first_lack T c_by_table c_first
    have c_unknown := ok_with_unknown_values (P := P) (w := w) (base := base) T
    have c_computed := ok_computed_facts T c_by_table c_exist c_matches c_body_of c_unknown c_head_of c_set
    have c_added := ok_index_when_added (P := P) (w := w) (base := base) T
    have m_one := ok_one T c_are_atoms c_triples c_exist c_added
    have m_two := ok_two T c_are_atoms c_triples c_added
    have m_fact := ok_fact T c_source
    have m_gone := ok_gone (P := P) (w := w) (base := base) T
    have m_without := ok_without T c_composed_rules
    have m_composed := ok_composed T m_without
    have m_midf := ok_facts_of_middle T c_computed c_set
    have m_middle := ok_middle T m_midf c_numbers
    have m_end := ok_end T m_midf c_numbers c_computed
    have m_direct := ok_direct T m_without c_numbers c_computed c_set
    have m_goes := ok_goes T c_ends m_midf c_triples c_lack c_set
    have m_lacks := ok_lacks T c_ends m_without c_triples c_lack c_set
    have m_number := ok_number (P := P) (w := w) (base := base) T
    have m_row := ok_row T m_number
    have c_to_rule := ok_answer_to_rule T m_row m_one m_two
    have c_to_fact := ok_answer_to_fact T m_number m_fact m_gone
    have c_answer : C8.Cal P w K mg base 11 "answer" (spAnswer K CR CS) [] := ok_answer T m_number m_row (ok_begins T) c_to_rule c_to_fact m_composed m_middle m_end m_direct m_goes m_lacks
    exact ok_answers T (ok_Service_init T) (ok_Reader_init T) (ok_is_done T) (by decide) c_answer D.fn
end Mw
open PySem PySem.W PyProof.Rows
set_option maxRecDepth 100000 in
set_option maxHeartbeats 8000000 in
theorem PySem.Challenge.cw_middlerules_s01_answers_holds : PySem.Challenge.rw_middlerules_s01_answers.Holds := by
  w_on; k_headS; (case hw => exact ⟨[.list [.int 5]], by decide +kernel, by decide +kernel⟩)
  k_fillS
  refine L2.walk_specK (r := PySem.Challenge.rw_middlerules_s01_answers) (k := 12) (CX := L2.CX0) (ps := ["calls"]) (sp := Mw.spAnswers) (by decide +kernel) rfl rfl ⟨rfl, by decide, by decide⟩ (fun w h Y => PySem.W.kIn_of Y) ?F ?S (fun _ _ _ _ z => z)
  case F =>
    intro w mg fa h Y KX G hmg
    refine' Mw.all_mk hmg ?T0 
    case T0 =>
        refine' Mw.top_mk KX G ?z_all ?z_dict ?z_enumerate ?z_len ?z_list ?z_range ?z_set ?z_sorted ?z_tuple ?n_SOURCE ?n_MIDDLE_rules ?n_END_rules ?n_TABLES_OF_A_PLACE ?n_TRIPLE ?n_MOST_ATOMS ?n_VARIABLES ?n_SECOND_RULE ?n_FIRST_COPY ?n_GIVEN_KNOWN_VALUES ?n_FIRST_UNKNOWN ?n_LAST_GIVEN_UNKNOWN ?n_MOST_GIVEN_FACTS ?n_MOST_RULES ?n_MOST_FACTS ?n_INVALID ?n_NOT_THERE ?n_EXISTS ?n_EXISTENTIAL ?n_FULL ?n_BEGINS ?n_ONE ?n_TWO ?n_FACT ?n_GONE ?n_COMPOSED ?n_MIDDLE_steps ?n_END_steps ?n_DIRECT ?n_GOES ?n_LACKS ?a_is_table_of ?l_is_table_of ?c_is_table_of ?k_is_table_of ?a_triples ?l_triples ?c_triples ?k_triples ?a_is_atom ?l_is_atom ?c_is_atom ?k_is_atom ?a_are_atoms ?l_are_atoms ?c_are_atoms ?k_are_atoms ?a_body_of ?l_body_of ?c_body_of ?k_body_of ?a_head_of ?l_head_of ?c_head_of ?k_head_of ?a_variables_of ?l_variables_of ?c_variables_of ?k_variables_of ?a_existential_variables ?l_existential_variables ?c_existential_variables ?k_existential_variables ?a_composed_rules ?l_composed_rules ?c_composed_rules ?k_composed_rules ?a_choices ?l_choices ?c_choices ?k_choices ?a_options ?l_options ?c_options ?k_options ?a_composed_rule ?l_composed_rule ?c_composed_rule ?k_composed_rule ?a_names_of_variables ?l_names_of_variables ?c_names_of_variables ?k_names_of_variables ?a_made_equal ?l_made_equal ?c_made_equal ?k_made_equal ?a_copied ?l_copied ?c_copied ?k_copied ?a_named_atom ?l_named_atom ?c_named_atom ?k_named_atom ?a_numbered_atoms ?l_numbered_atoms ?c_numbered_atoms ?k_numbered_atoms ?a_is_source_fact ?l_is_source_fact ?c_is_source_fact ?k_is_source_fact ?a_is_end_fact ?l_is_end_fact ?c_is_end_fact ?k_is_end_fact ?a_is_given_known ?l_is_given_known ?c_is_given_known ?k_is_given_known ?a_is_given_value ?l_is_given_value ?c_is_given_value ?k_is_given_value ?a_are_end_facts ?l_are_end_facts ?c_are_end_facts ?k_are_end_facts ?a_set_of_facts ?l_set_of_facts ?c_set_of_facts ?k_set_of_facts ?a_numbers_of ?l_numbers_of ?c_numbers_of ?k_numbers_of ?a_facts_by_table ?l_facts_by_table ?c_facts_by_table ?k_facts_by_table ?a_matches ?l_matches ?c_matches ?k_matches ?a_with_values_of ?l_with_values_of ?c_with_values_of ?k_with_values_of ?a_first_lack ?l_first_lack ?c_first_lack ?k_first_lack ?a_first_match_without_head ?l_first_match_without_head ?c_first_match_without_head ?k_first_match_without_head ?a_computed_facts ?l_computed_facts ?c_computed_facts ?k_computed_facts ?a_with_unknown_values ?l_with_unknown_values ?c_with_unknown_values ?k_with_unknown_values ?a_index_when_added ?l_index_when_added ?c_index_when_added ?k_index_when_added ?a_answers ?l_answers ?c_answers ?k_answers ?a_answer ?l_answer ?c_answer ?k_answer ?a_answer_to_rule ?l_answer_to_rule ?c_answer_to_rule ?k_answer_to_rule ?a_answer_to_fact ?l_answer_to_fact ?c_answer_to_fact ?k_answer_to_fact ?g_Reader ?pg_Reader ?hd_Reader ?po_Reader ?sa_Reader ?mk_Reader ?kc_Reader ?no_Reader_calls ?no_Reader_position ?a_Reader_init ?l_Reader_init ?c_Reader_init ?k_Reader_init ?i_Reader_init ?a_Reader_is_done ?l_Reader_is_done ?c_Reader_is_done ?k_Reader_is_done ?i_Reader_is_done ?a_Reader_number ?l_Reader_number ?c_Reader_number ?k_Reader_number ?i_Reader_number ?a_Reader_row ?l_Reader_row ?c_Reader_row ?k_Reader_row ?i_Reader_row ?g_Service ?pg_Service ?hd_Service ?po_Service ?sa_Service ?mk_Service ?kc_Service ?no_Service_first_rules ?no_Service_second_rules ?no_Service_source_facts ?a_Service_init ?l_Service_init ?c_Service_init ?k_Service_init ?i_Service_init ?a_Service_begins ?l_Service_begins ?c_Service_begins ?k_Service_begins ?i_Service_begins ?a_Service_one ?l_Service_one ?c_Service_one ?k_Service_one ?i_Service_one ?a_Service_two ?l_Service_two ?c_Service_two ?k_Service_two ?i_Service_two ?a_Service_fact ?l_Service_fact ?c_Service_fact ?k_Service_fact ?i_Service_fact ?a_Service_gone ?l_Service_gone ?c_Service_gone ?k_Service_gone ?i_Service_gone ?a_Service_composed ?l_Service_composed ?c_Service_composed ?k_Service_composed ?i_Service_composed ?a_Service_middle ?l_Service_middle ?c_Service_middle ?k_Service_middle ?i_Service_middle ?a_Service_end ?l_Service_end ?c_Service_end ?k_Service_end ?i_Service_end ?a_Service_direct ?l_Service_direct ?c_Service_direct ?k_Service_direct ?i_Service_direct ?a_Service_goes ?l_Service_goes ?c_Service_goes ?k_Service_goes ?i_Service_goes ?a_Service_lacks ?l_Service_lacks ?c_Service_lacks ?k_Service_lacks ?i_Service_lacks ?a_Service_rules_without_middle ?l_Service_rules_without_middle ?c_Service_rules_without_middle ?k_Service_rules_without_middle ?i_Service_rules_without_middle ?a_Service_facts_of_middle ?l_Service_facts_of_middle ?c_Service_facts_of_middle ?k_Service_facts_of_middle ?i_Service_facts_of_middle
        (case g_Reader => k_is)
        (case g_Service => k_is)
        (case z_all => k_is)
        (case z_dict => k_is)
        (case z_enumerate => k_is)
        (case z_len => k_is)
        (case z_list => k_is)
        (case z_range => k_is)
        (case z_set => k_is)
        (case z_sorted => k_is)
        (case z_tuple => k_is)
        (case n_SOURCE => k_is)
        (case n_MIDDLE_rules => k_is)
        (case n_END_rules => k_is)
        (case n_TABLES_OF_A_PLACE => k_is)
        (case n_TRIPLE => k_is)
        (case n_MOST_ATOMS => k_is)
        (case n_VARIABLES => k_is)
        (case n_SECOND_RULE => k_is)
        (case n_FIRST_COPY => k_is)
        (case n_GIVEN_KNOWN_VALUES => k_is)
        (case n_FIRST_UNKNOWN => k_is)
        (case n_LAST_GIVEN_UNKNOWN => k_is)
        (case n_MOST_GIVEN_FACTS => k_is)
        (case n_MOST_RULES => k_is)
        (case n_MOST_FACTS => k_is)
        (case n_INVALID => k_is)
        (case n_NOT_THERE => k_is)
        (case n_EXISTS => k_is)
        (case n_EXISTENTIAL => k_is)
        (case n_FULL => k_is)
        (case n_BEGINS => k_is)
        (case n_ONE => k_is)
        (case n_TWO => k_is)
        (case n_FACT => k_is)
        (case n_GONE => k_is)
        (case n_COMPOSED => k_is)
        (case n_MIDDLE_steps => k_is)
        (case n_END_steps => k_is)
        (case n_DIRECT => k_is)
        (case n_GOES => k_is)
        (case n_LACKS => k_is)
        (case a_is_table_of => k_is)
        (case l_is_table_of => k_is)
        (case c_is_table_of => k_is)
        (case k_is_table_of => k_is)
        (case a_triples => k_is)
        (case l_triples => k_is)
        (case c_triples => k_is)
        (case k_triples => k_is)
        (case a_is_atom => k_is)
        (case l_is_atom => k_is)
        (case c_is_atom => k_is)
        (case k_is_atom => k_is)
        (case a_are_atoms => k_is)
        (case l_are_atoms => k_is)
        (case c_are_atoms => k_is)
        (case k_are_atoms => k_is)
        (case a_body_of => k_is)
        (case l_body_of => k_is)
        (case c_body_of => k_is)
        (case k_body_of => k_is)
        (case a_head_of => k_is)
        (case l_head_of => k_is)
        (case c_head_of => k_is)
        (case k_head_of => k_is)
        (case a_variables_of => k_is)
        (case l_variables_of => k_is)
        (case c_variables_of => k_is)
        (case k_variables_of => k_is)
        (case a_existential_variables => k_is)
        (case l_existential_variables => k_is)
        (case c_existential_variables => k_is)
        (case k_existential_variables => k_is)
        (case a_composed_rules => k_is)
        (case l_composed_rules => k_is)
        (case c_composed_rules => k_is)
        (case k_composed_rules => k_is)
        (case a_choices => k_is)
        (case l_choices => k_is)
        (case c_choices => k_is)
        (case k_choices => k_is)
        (case a_options => k_is)
        (case l_options => k_is)
        (case c_options => k_is)
        (case k_options => k_is)
        (case a_composed_rule => k_is)
        (case l_composed_rule => k_is)
        (case c_composed_rule => k_is)
        (case k_composed_rule => k_is)
        (case a_names_of_variables => k_is)
        (case l_names_of_variables => k_is)
        (case c_names_of_variables => k_is)
        (case k_names_of_variables => k_is)
        (case a_made_equal => k_is)
        (case l_made_equal => k_is)
        (case c_made_equal => k_is)
        (case k_made_equal => k_is)
        (case a_copied => k_is)
        (case l_copied => k_is)
        (case c_copied => k_is)
        (case k_copied => k_is)
        (case a_named_atom => k_is)
        (case l_named_atom => k_is)
        (case c_named_atom => k_is)
        (case k_named_atom => k_is)
        (case a_numbered_atoms => k_is)
        (case l_numbered_atoms => k_is)
        (case c_numbered_atoms => k_is)
        (case k_numbered_atoms => k_is)
        (case a_is_source_fact => k_is)
        (case l_is_source_fact => k_is)
        (case c_is_source_fact => k_is)
        (case k_is_source_fact => k_is)
        (case a_is_end_fact => k_is)
        (case l_is_end_fact => k_is)
        (case c_is_end_fact => k_is)
        (case k_is_end_fact => k_is)
        (case a_is_given_known => k_is)
        (case l_is_given_known => k_is)
        (case c_is_given_known => k_is)
        (case k_is_given_known => k_is)
        (case a_is_given_value => k_is)
        (case l_is_given_value => k_is)
        (case c_is_given_value => k_is)
        (case k_is_given_value => k_is)
        (case a_are_end_facts => k_is)
        (case l_are_end_facts => k_is)
        (case c_are_end_facts => k_is)
        (case k_are_end_facts => k_is)
        (case a_set_of_facts => k_is)
        (case l_set_of_facts => k_is)
        (case c_set_of_facts => k_is)
        (case k_set_of_facts => k_is)
        (case a_numbers_of => k_is)
        (case l_numbers_of => k_is)
        (case c_numbers_of => k_is)
        (case k_numbers_of => k_is)
        (case a_facts_by_table => k_is)
        (case l_facts_by_table => k_is)
        (case c_facts_by_table => k_is)
        (case k_facts_by_table => k_is)
        (case a_matches => k_is)
        (case l_matches => k_is)
        (case c_matches => k_is)
        (case k_matches => k_is)
        (case a_with_values_of => k_is)
        (case l_with_values_of => k_is)
        (case c_with_values_of => k_is)
        (case k_with_values_of => k_is)
        (case a_first_lack => k_is)
        (case l_first_lack => k_is)
        (case c_first_lack => k_is)
        (case k_first_lack => k_is)
        (case a_first_match_without_head => k_is)
        (case l_first_match_without_head => k_is)
        (case c_first_match_without_head => k_is)
        (case k_first_match_without_head => k_is)
        (case a_computed_facts => k_is)
        (case l_computed_facts => k_is)
        (case c_computed_facts => k_is)
        (case k_computed_facts => k_is)
        (case a_with_unknown_values => k_is)
        (case l_with_unknown_values => k_is)
        (case c_with_unknown_values => k_is)
        (case k_with_unknown_values => k_is)
        (case a_index_when_added => k_is)
        (case l_index_when_added => k_is)
        (case c_index_when_added => k_is)
        (case k_index_when_added => k_is)
        (case a_answers => k_is)
        (case l_answers => k_is)
        (case c_answers => k_is)
        (case k_answers => k_is)
        (case a_answer => k_is)
        (case l_answer => k_is)
        (case c_answer => k_is)
        (case k_answer => k_is)
        (case a_answer_to_rule => k_is)
        (case l_answer_to_rule => k_is)
        (case c_answer_to_rule => k_is)
        (case k_answer_to_rule => k_is)
        (case a_answer_to_fact => k_is)
        (case l_answer_to_fact => k_is)
        (case c_answer_to_fact => k_is)
        (case k_answer_to_fact => k_is)
        (case pg_Reader => k_is)
        (case hd_Reader => k_is)
        (case po_Reader => k_is)
        (case sa_Reader => k_is)
        (case mk_Reader => k_is)
        (case kc_Reader => k_is)
        (case no_Reader_calls => k_is)
        (case no_Reader_position => k_is)
        (case a_Reader_init => k_is)
        (case l_Reader_init => k_is)
        (case c_Reader_init => k_is)
        (case k_Reader_init => k_is)
        (case i_Reader_init => k_is)
        (case a_Reader_is_done => k_is)
        (case l_Reader_is_done => k_is)
        (case c_Reader_is_done => k_is)
        (case k_Reader_is_done => k_is)
        (case i_Reader_is_done => k_is)
        (case a_Reader_number => k_is)
        (case l_Reader_number => k_is)
        (case c_Reader_number => k_is)
        (case k_Reader_number => k_is)
        (case i_Reader_number => k_is)
        (case a_Reader_row => k_is)
        (case l_Reader_row => k_is)
        (case c_Reader_row => k_is)
        (case k_Reader_row => k_is)
        (case i_Reader_row => k_is)
        (case pg_Service => k_is)
        (case hd_Service => k_is)
        (case po_Service => k_is)
        (case sa_Service => k_is)
        (case mk_Service => k_is)
        (case kc_Service => k_is)
        (case no_Service_first_rules => k_is)
        (case no_Service_second_rules => k_is)
        (case no_Service_source_facts => k_is)
        (case a_Service_init => k_is)
        (case l_Service_init => k_is)
        (case c_Service_init => k_is)
        (case k_Service_init => k_is)
        (case i_Service_init => k_is)
        (case a_Service_begins => k_is)
        (case l_Service_begins => k_is)
        (case c_Service_begins => k_is)
        (case k_Service_begins => k_is)
        (case i_Service_begins => k_is)
        (case a_Service_one => k_is)
        (case l_Service_one => k_is)
        (case c_Service_one => k_is)
        (case k_Service_one => k_is)
        (case i_Service_one => k_is)
        (case a_Service_two => k_is)
        (case l_Service_two => k_is)
        (case c_Service_two => k_is)
        (case k_Service_two => k_is)
        (case i_Service_two => k_is)
        (case a_Service_fact => k_is)
        (case l_Service_fact => k_is)
        (case c_Service_fact => k_is)
        (case k_Service_fact => k_is)
        (case i_Service_fact => k_is)
        (case a_Service_gone => k_is)
        (case l_Service_gone => k_is)
        (case c_Service_gone => k_is)
        (case k_Service_gone => k_is)
        (case i_Service_gone => k_is)
        (case a_Service_composed => k_is)
        (case l_Service_composed => k_is)
        (case c_Service_composed => k_is)
        (case k_Service_composed => k_is)
        (case i_Service_composed => k_is)
        (case a_Service_middle => k_is)
        (case l_Service_middle => k_is)
        (case c_Service_middle => k_is)
        (case k_Service_middle => k_is)
        (case i_Service_middle => k_is)
        (case a_Service_end => k_is)
        (case l_Service_end => k_is)
        (case c_Service_end => k_is)
        (case k_Service_end => k_is)
        (case i_Service_end => k_is)
        (case a_Service_direct => k_is)
        (case l_Service_direct => k_is)
        (case c_Service_direct => k_is)
        (case k_Service_direct => k_is)
        (case i_Service_direct => k_is)
        (case a_Service_goes => k_is)
        (case l_Service_goes => k_is)
        (case c_Service_goes => k_is)
        (case k_Service_goes => k_is)
        (case i_Service_goes => k_is)
        (case a_Service_lacks => k_is)
        (case l_Service_lacks => k_is)
        (case c_Service_lacks => k_is)
        (case k_Service_lacks => k_is)
        (case i_Service_lacks => k_is)
        (case a_Service_rules_without_middle => k_is)
        (case l_Service_rules_without_middle => k_is)
        (case c_Service_rules_without_middle => k_is)
        (case k_Service_rules_without_middle => k_is)
        (case i_Service_rules_without_middle => k_is)
        (case a_Service_facts_of_middle => k_is)
        (case l_Service_facts_of_middle => k_is)
        (case c_Service_facts_of_middle => k_is)
        (case k_Service_facts_of_middle => k_is)
        (case i_Service_facts_of_middle => k_is)
  case S =>
    intro K H xs a hO hwi hask hx
    cases hx with
    | cons h1 h2 =>
      cases h2
      cases h1 with
      | lst hs ha =>
        have e := L2.ints_dw a.1 _ ha
        subst e
        exact ⟨_, a.1, rfl, Mw.CallsAt.of hs hO, hask, fun H' p hp => .lst (L2.SqL.of hp) (L2.dw_ints _)⟩
