import PyProof.Rows.All
import Wide.All
import OpenK.AllK
import Wide.FinOn
import Open.SpecLaws
import KE.OsHead
import KE.OsGo
import HandS.ForSpec
import KE.GoesEnum
import KE.GoesDict
import HandS.ForMost
import HandS.Zip
import HandS.Conv
import HandS.Walk
import HandS.TupLen
import HandS.CallLocal
import HandS.Codes
import HandS.TupSets
import PyProof.AutoSeq1
import HandS.More
import PySem.Challenge.RW_surveyline_s01_answers
set_option Elab.async false
set_option linter.all false
set_option maxRecDepth 100000
set_option maxHeartbeats 4000000
namespace Sl
open Vbxlaf

/-! ## lists -/
theorem len_le_of_sub {α : Type} [DecidableEq α] : ∀ {l U : List α}, l.Nodup → (∀ x ∈ l, x ∈ U) → l.length ≤ U.length
  | [], _, _, _ => Nat.zero_le _
  | a :: l, U, hn, hs => by
    obtain ⟨h1, h2⟩ := List.nodup_cons.mp hn
    have ha : a ∈ U := hs a (List.mem_cons_self)
    have ih := len_le_of_sub (l := l) (U := U.erase a) h2 (fun x hx => by
      have hxa : x ≠ a := fun e => h1 (e ▸ hx)
      exact (List.mem_erase_of_ne hxa).mpr (hs x (List.mem_cons_of_mem _ hx)))
    rw [List.length_erase_of_mem ha] at ih
    have : 0 < U.length := List.length_pos_of_mem ha
    rw [List.length_cons]; omega
theorem len_eq_of_same {α : Type} [DecidableEq α] {l U : List α} (h1 : l.Nodup) (h2 : U.Nodup) (h : ∀ x, x ∈ l ↔ x ∈ U) : l.length = U.length :=
  Nat.le_antisymm (len_le_of_sub h1 fun x hx => (h x).mp hx) (len_le_of_sub h2 fun x hx => (h x).mpr hx)

abbrev Inc (l : List Nat) : Prop := l.Pairwise (· < ·)
theorem Inc.nodup {l : List Nat} (h : Inc l) : l.Nodup := List.Pairwise.imp (fun {a b} (q : a < b) => Nat.ne_of_lt q) h
theorem inc_ext : ∀ {l m : List Nat}, Inc l → Inc m → (∀ x, x ∈ l ↔ x ∈ m) → l = m
  | [], [], _, _, _ => rfl
  | [], b :: m, _, _, h => absurd ((h b).mpr (List.mem_cons_self)) (List.not_mem_nil)
  | a :: l, [], _, _, h => absurd ((h a).mp (List.mem_cons_self)) (List.not_mem_nil)
  | a :: l, b :: m, h1, h2, h => by
    obtain ⟨ha, hl⟩ := List.pairwise_cons.mp h1
    obtain ⟨hb, hm⟩ := List.pairwise_cons.mp h2
    have e : a = b := by
      have q1 : a = b ∨ a ∈ m := List.mem_cons.mp ((h a).mp (List.mem_cons_self))
      have q2 : b = a ∨ b ∈ l := List.mem_cons.mp ((h b).mpr (List.mem_cons_self))
      rcases q1 with q1 | q1
      · exact q1
      · rcases q2 with q2 | q2
        · exact q2.symm
        · have := hb a q1; have := ha b q2; omega
    subst e
    congr 1
    refine inc_ext hl hm fun x => ?_
    have hx := h x
    rw [List.mem_cons, List.mem_cons] at hx
    constructor
    · intro q
      rcases hx.mp (.inr q) with r | r
      · have := ha x q; omega
      · exact r
    · intro q
      rcases hx.mpr (.inr q) with r | r
      · have := hb x q; omega
      · exact r

theorem mem_insertNumber {x n : Nat} : ∀ {l : List Nat}, x ∈ insertNumber n l ↔ x = n ∨ x ∈ l
  | [] => by simp [insertNumber]
  | a :: l => by
    unfold insertNumber
    split
    · simp
    · split
      · rename_i e; subst e; simp
      · rw [List.mem_cons, mem_insertNumber (l := l), List.mem_cons]
        constructor
        · rintro (h | h | h)
          · exact .inr (.inl h)
          · exact .inl h
          · exact .inr (.inr h)
        · rintro (h | h | h)
          · exact .inr (.inl h)
          · exact .inl h
          · exact .inr (.inr h)
theorem inc_insertNumber {n : Nat} : ∀ {l : List Nat}, Inc l → Inc (insertNumber n l)
  | [], _ => by simp [insertNumber]
  | a :: l, h => by
    obtain ⟨ha, hl⟩ := List.pairwise_cons.mp h
    unfold insertNumber
    split
    · rename_i c
      refine List.pairwise_cons.mpr ⟨fun x hx => ?_, h⟩
      rcases List.mem_cons.mp hx with e | e
      · omega
      · have := ha x e; omega
    · split
      · exact h
      · refine List.pairwise_cons.mpr ⟨fun x hx => ?_, inc_insertNumber hl⟩
        rcases mem_insertNumber.mp hx with e | e
        · omega
        · exact ha x e
theorem mem_sortNumbers {x : Nat} : ∀ {l : List Nat}, x ∈ sortNumbers l ↔ x ∈ l
  | [] => by simp [sortNumbers]
  | a :: l => by
    show x ∈ insertNumber a (sortNumbers l) ↔ _
    rw [mem_insertNumber, mem_sortNumbers (l := l), List.mem_cons]
theorem inc_sortNumbers : ∀ {l : List Nat}, Inc (sortNumbers l)
  | [] => List.Pairwise.nil
  | a :: l => inc_insertNumber (inc_sortNumbers (l := l))

/-! ## leading -/
inductive Led (F : Nat → List Value) (vs : List Value) : Value → Prop
  | start {v : Value} : v ∈ vs → v ≠ .nothing → Led F vs v
  | step {n : Nat} {v : Value} : Led F vs (.object n) → v ∈ F n → v ≠ .nothing → Led F vs v
theorem Led.ne {F vs v} (h : Led F vs v) : v ≠ .nothing := by cases h <;> assumption

def OkV (st : State) : Value → Prop
  | .object n => exists_ st n = true
  | _ => True
def Closed (st : State) : Prop := ∀ n, ∀ v ∈ fieldsOf st n, OkV st v
theorem led_ok {st : State} (hc : Closed st) {vs : List Value} (hv : ∀ v ∈ vs, OkV st v) {v : Value} (h : Led (fieldsOf st) vs v) : OkV st v := by
  cases h with
  | start m _ => exact hv _ m
  | step _ m _ => exact hc _ _ m

theorem mem_objectsIn {vs : List Value} {n : Nat} : n ∈ objectsIn vs ↔ Value.object n ∈ vs := by
  unfold objectsIn
  rw [List.mem_filterMap]
  constructor
  · rintro ⟨v, hv, e⟩
    cases v with
    | object m => simp at e; subst e; exact hv
    | nothing => simp at e
    | foreign m => simp at e
  · intro h; exact ⟨_, h, rfl⟩
theorem mem_foreignsIn {vs : List Value} {n : Nat} : n ∈ foreignsIn vs ↔ Value.foreign n ∈ vs := by
  unfold foreignsIn
  rw [List.mem_filterMap]
  constructor
  · rintro ⟨v, hv, e⟩
    cases v with
    | foreign m => simp at e; subst e; exact hv
    | nothing => simp at e
    | object m => simp at e
  · intro h; exact ⟨_, h, rfl⟩

theorem mem_numbers {st : State} {n : Nat} : n ∈ st.objects.map (·.number) ↔ exists_ st n = true := by
  unfold exists_
  rw [List.any_eq_true, List.mem_map]
  constructor
  · rintro ⟨o, h, e⟩; exact ⟨o, h, beq_iff_eq.mpr e⟩
  · rintro ⟨o, h, e⟩; exact ⟨o, h, beq_iff_eq.mp e⟩

def nextOf (st : State) (found frontier : List Nat) : List Nat :=
  ((objectsIn (frontier.flatMap (fieldsOf st))).filter fun number => !found.contains number).eraseDups
theorem mem_eraseDups {α : Type} [BEq α] [LawfulBEq α] {x : α} {l : List α} : x ∈ l.eraseDups ↔ x ∈ l := by
  simp
theorem nodup_eraseDups_of {α : Type} [BEq α] [LawfulBEq α] : ∀ (n : Nat) (l : List α), l.length ≤ n → l.eraseDups.Nodup
  | _, [], _ => by simp
  | 0, _ :: _, h => by simp at h
  | n + 1, a :: l, h => by
    rw [List.eraseDups_cons]
    refine List.nodup_cons.mpr ⟨fun m => ?_, nodup_eraseDups_of n _ ?_⟩
    · rw [mem_eraseDups, List.mem_filter] at m
      simp at m
    · have := List.length_filter_le (fun b => !b == a) l
      rw [List.length_cons] at h
      omega
theorem nodup_eraseDups {α : Type} [BEq α] [LawfulBEq α] (l : List α) : l.eraseDups.Nodup := nodup_eraseDups_of l.length l (Nat.le_refl _)
theorem mem_nextOf {st : State} {found frontier : List Nat} {m : Nat} : m ∈ nextOf st found frontier ↔ (∃ n ∈ frontier, Value.object m ∈ fieldsOf st n) ∧ m ∉ found := by
  unfold nextOf
  rw [mem_eraseDups, List.mem_filter, mem_objectsIn, List.mem_flatMap]
  simp
theorem grow_sound {st : State} {vs : List Value} : ∀ (k : Nat) (found frontier : List Nat), (∀ n ∈ found, Led (fieldsOf st) vs (.object n)) → (∀ n ∈ frontier, n ∈ found) → ∀ n ∈ grow st k found frontier, Led (fieldsOf st) vs (.object n)
  | 0, found, _, h, _ => by intro n hn; unfold grow at hn; exact h n hn
  | k + 1, found, [], h, _ => by intro n hn; unfold grow at hn; exact h n hn
  | k + 1, found, a :: r, h, hf => by
    intro n hn
    unfold grow at hn
    refine grow_sound k (found ++ nextOf st found (a :: r)) (nextOf st found (a :: r)) (fun m hm => ?_) (fun m hm => List.mem_append.mpr (.inr hm)) n hn
    rcases List.mem_append.mp hm with q | q
    · exact h m q
    · obtain ⟨⟨x, hx, hm⟩, _⟩ := mem_nextOf.mp q
      exact .step (h x (hf x hx)) hm (by simp)
theorem grow_sub {st : State} : ∀ (k : Nat) (found frontier : List Nat), ∀ n ∈ found, n ∈ grow st k found frontier
  | 0, found, _ => by intro n hn; unfold grow; exact hn
  | k + 1, found, [] => by intro n hn; unfold grow; exact hn
  | k + 1, found, a :: r => by
    intro n hn
    unfold grow
    exact grow_sub k _ _ n (List.mem_append.mpr (.inl hn))
theorem grow_closed {st : State} (hc : Closed st) : ∀ (k : Nat) (found frontier : List Nat), found.Nodup → (∀ n ∈ found, exists_ st n = true) →
    (∀ n ∈ found, n ∉ frontier → ∀ m, Value.object m ∈ fieldsOf st n → m ∈ found) → (frontier = [] ∨ st.objects.length + 1 ≤ found.length + k) →
    ∀ n ∈ grow st k found frontier, ∀ m, Value.object m ∈ fieldsOf st n → m ∈ grow st k found frontier
  | 0, found, fr, hn, hx, hcl, hk => by
    intro n hm m hf
    unfold grow at hm ⊢
    rcases hk with e | e
    · subst e; exact hcl n hm (by simp) m hf
    · have := len_le_of_sub (U := st.objects.map (·.number)) hn (fun x q => mem_numbers.mpr (hx x q))
      rw [List.length_map] at this
      omega
  | k + 1, found, [], hn, hx, hcl, hk => by
    intro n hm m hf
    unfold grow at hm ⊢
    exact hcl n hm (by simp) m hf
  | k + 1, found, a :: r, hn, hx, hcl, hk => by
    intro n hm m hf
    unfold grow at hm ⊢
    have hk : st.objects.length + 1 ≤ found.length + (k + 1) := hk.resolve_left (by simp)
    refine grow_closed hc k (found ++ nextOf st found (a :: r)) (nextOf st found (a :: r)) ?_ ?_ ?_ ?_ n hm m hf
    · refine List.nodup_append.mpr ⟨hn, nodup_eraseDups _, fun x q y q2 => ?_⟩
      intro e; subst e
      exact (mem_nextOf.mp q2).2 q
    · intro x q
      rcases List.mem_append.mp q with q | q
      · exact hx x q
      · obtain ⟨⟨y, hy, q2⟩, _⟩ := mem_nextOf.mp q
        exact hc y _ q2
    · intro x q hx2 z hz
      rcases List.mem_append.mp q with q | q
      · by_cases c : x ∈ a :: r
        · by_cases d : z ∈ found
          · exact List.mem_append.mpr (.inl d)
          · exact List.mem_append.mpr (.inr (mem_nextOf.mpr ⟨⟨x, c, hz⟩, d⟩))
        · exact List.mem_append.mpr (.inl (hcl x q c z hz))
      · exact absurd q hx2
    · cases e : nextOf st found (a :: r) with
      | nil => exact .inl rfl
      | cons y ys => refine .inr ?_; rw [List.length_append, List.length_cons]; omega

section
variable {st : State} {vs : List Value}
theorem reach_objects (hc : Closed st) (hv : ∀ v ∈ vs, OkV st v) {n : Nat} : n ∈ (reachOf st vs).objects ↔ Led (fieldsOf st) vs (.object n) := by
  have hfirst : ∀ m, m ∈ (objectsIn vs).eraseDups ↔ Value.object m ∈ vs := fun m => by rw [mem_eraseDups, mem_objectsIn]
  show n ∈ sortNumbers (grow st (st.objects.length + 1) (objectsIn vs).eraseDups (objectsIn vs).eraseDups) ↔ _
  rw [mem_sortNumbers]
  constructor
  · exact grow_sound _ _ _ (fun m hm => .start ((hfirst m).mp hm) (by simp)) (fun m hm => hm) n
  · have cl := grow_closed hc (st.objects.length + 1) (objectsIn vs).eraseDups (objectsIn vs).eraseDups (nodup_eraseDups _)
      (fun m hm => hv _ ((hfirst m).mp hm)) (fun m hm hm2 => absurd hm hm2) (.inr (by omega))
    intro h
    generalize ev : Value.object n = v at h
    induction h generalizing n with
    | start m _ => subst ev; exact grow_sub _ _ _ _ ((hfirst n).mpr m)
    | step _ m _ ih => subst ev; exact cl _ (ih rfl) _ m
theorem reach_foreigns (hc : Closed st) (hv : ∀ v ∈ vs, OkV st v) {n : Nat} : n ∈ (reachOf st vs).foreigns ↔ Led (fieldsOf st) vs (.foreign n) := by
  show n ∈ sortNumbers (foreignsIn (vs ++ (grow st (st.objects.length + 1) (objectsIn vs).eraseDups (objectsIn vs).eraseDups).flatMap (fieldsOf st))) ↔ _
  have ho : ∀ m, m ∈ grow st (st.objects.length + 1) (objectsIn vs).eraseDups (objectsIn vs).eraseDups ↔ Led (fieldsOf st) vs (.object m) := fun m => by
    have := reach_objects hc hv (n := m)
    rw [← this]
    exact mem_sortNumbers.symm
  rw [mem_sortNumbers, mem_foreignsIn, List.mem_append, List.mem_flatMap]
  constructor
  · rintro (h | ⟨m, hm, h⟩)
    · exact .start h (by simp)
    · exact .step ((ho m).mp hm) h (by simp)
  · intro h
    cases h with
    | start m _ => exact .inl m
    | step h m _ => exact .inr ⟨_, (ho _).mpr h, m⟩
theorem reach_inc : Inc (reachOf st vs).objects ∧ Inc (reachOf st vs).foreigns := ⟨inc_sortNumbers, inc_sortNumbers⟩
theorem reach_leads (hc : Closed st) (hv : ∀ v ∈ vs, OkV st v) {name : Name} : leadsTo (reachOf st vs) name = true ↔ Led (fieldsOf st) vs (valueOf name) := by
  unfold leadsTo valueOf
  split
  · rw [← reach_objects hc hv]; simp
  · rw [← reach_foreigns hc hv]; simp
end
/-- a reach is told by its members -/
theorem reach_ext {r q : Reach} (h1 : Inc r.objects ∧ Inc r.foreigns) (h2 : Inc q.objects ∧ Inc q.foreigns) (ho : ∀ n, n ∈ r.objects ↔ n ∈ q.objects) (hf : ∀ n, n ∈ r.foreigns ↔ n ∈ q.foreigns) : r = q := by
  cases r; cases q
  simp only [Reach.mk.injEq]
  exact ⟨inc_ext h1.1 h2.1 ho, inc_ext h1.2 h2.2 hf⟩
end Sl
namespace Sl
open Vbxlaf

/-! ## names with their stamps, as pairs of whole numbers -/
abbrev NS := List ((Int × Int) × Int)
def enm (l : List Named) : NS := l.map fun e => (((1 : Int), (e.number : Int)), (e.stamp : Int))
def inm (l : List Named) : NS := l.map fun e => (((2 : Int), (e.number : Int)), (e.stamp : Int))
def nmOf (st : State) : NS := enm st.entries ++ inm st.imports
def gets (l : NS) (p : Int × Int) : Option Int := (l.find? fun q => decide (q.1 = p)).map (·.2)
def stI (st : State) (p : Int × Int) : Option Int := gets (nmOf st) p
def code (p : Int × Int) : Int := p.1 * 64 + p.2

theorem gets_mem {l : NS} {p : Int × Int} {s : Int} (h : gets l p = some s) : (p, s) ∈ l := by
  unfold gets at h
  obtain ⟨q, hq, e⟩ := Option.map_eq_some_iff.mp h
  have h1 := List.find?_some hq
  have h2 := List.mem_of_find?_eq_some hq
  have h1 : q.1 = p := of_decide_eq_true h1
  subst h1; subst e; exact h2
theorem gets_none {l : NS} {p : Int × Int} : gets l p = none ↔ p ∉ l.map (·.1) := by
  unfold gets
  rw [Option.map_eq_none_iff, List.find?_eq_none]
  constructor
  · intro h m
    obtain ⟨q, hq, e⟩ := List.mem_map.mp m
    exact h q hq (decide_eq_true e)
  · intro h q hq e
    exact h (List.mem_map.mpr ⟨q, hq, of_decide_eq_true e⟩)
theorem gets_of_mem {l : NS} (hn : (l.map (·.1)).Nodup) {p : Int × Int} {s : Int} (h : (p, s) ∈ l) : gets l p = some s := by
  cases e : gets l p with
  | none => exact absurd (List.mem_map.mpr ⟨_, h, rfl⟩) (gets_none.mp e)
  | some t =>
    have h2 := gets_mem e
    have : ∀ {l : NS}, (l.map (·.1)).Nodup → (p, s) ∈ l → (p, t) ∈ l → s = t := by
      intro l
      induction l with
      | nil => intro _ h _; cases h
      | cons a l ih =>
        intro hn h1 h2
        obtain ⟨n1, n2⟩ := List.nodup_cons.mp (show (a.1 :: l.map (·.1)).Nodup from hn)
        rcases List.mem_cons.mp h1 with e1 | e1
        · rcases List.mem_cons.mp h2 with e2 | e2
          · have := e1.trans e2.symm
            exact (Prod.mk.inj this).2
          · exact absurd (List.mem_map.mpr ⟨_, e2, rfl⟩) (by have : a.1 = p := by rw [← e1]
                                                             rw [← this]; exact n1)
        · rcases List.mem_cons.mp h2 with e2 | e2
          · exact absurd (List.mem_map.mpr ⟨_, e1, rfl⟩) (by have : a.1 = p := by rw [← e2]
                                                             rw [← this]; exact n1)
          · exact ih n2 e1 e2
    rw [this hn h h2]
theorem gets_perm {l m : NS} (hp : l.Perm m) (hn : (m.map (·.1)).Nodup) (p : Int × Int) : gets l p = gets m p := by
  have hl : (l.map (·.1)).Nodup := (hp.map _).nodup_iff.mpr hn
  cases e : gets l p with
  | some s => exact (gets_of_mem hn (hp.mem_iff.mp (gets_mem e))).symm
  | none =>
    refine (gets_none.mpr fun m' => gets_none.mp e ?_).symm
    exact ((hp.map (·.1)).mem_iff).mpr m'

theorem mem_enm {l : List Named} {q : (Int × Int) × Int} : q ∈ enm l ↔ ∃ e ∈ l, q = ((1, (e.number : Int)), (e.stamp : Int)) := by
  unfold enm; rw [List.mem_map]; constructor <;> rintro ⟨e, h, r⟩ <;> exact ⟨e, h, r.symm⟩
theorem mem_inm {l : List Named} {q : (Int × Int) × Int} : q ∈ inm l ↔ ∃ e ∈ l, q = ((2, (e.number : Int)), (e.stamp : Int)) := by
  unfold inm; rw [List.mem_map]; constructor <;> rintro ⟨e, h, r⟩ <;> exact ⟨e, h, r.symm⟩

/-- the names' order -/
structure NOk (st : State) : Prop where
  einc : Inc (st.entries.map (·.number))
  elow : ∀ e ∈ st.entries, 1 ≤ e.number ∧ e.number ≤ 40
  iinc : Inc (st.imports.map (·.number))
  ilow : ∀ e ∈ st.imports, 1 ≤ e.number ∧ e.number ≤ 20

theorem codes_inc {st : State} (h : NOk st) : ((nmOf st).map (·.1)).Pairwise (fun a b => code a < code b) := by
  unfold nmOf enm inm
  rw [List.map_append, List.map_map, List.map_map]
  refine List.pairwise_append.mpr ⟨?_, ?_, ?_⟩
  · have := h.einc
    unfold Inc at this
    rw [List.pairwise_map] at this ⊢
    refine this.imp fun {a b} q => ?_
    show (1 : Int) * 64 + (a.number : Int) < 1 * 64 + (b.number : Int)
    omega
  · have := h.iinc
    unfold Inc at this
    rw [List.pairwise_map] at this ⊢
    refine this.imp fun {a b} q => ?_
    show (2 : Int) * 64 + (a.number : Int) < 2 * 64 + (b.number : Int)
    omega
  · intro p hp q hq
    obtain ⟨e, he, rfl⟩ := List.mem_map.mp hp
    obtain ⟨f, hf, rfl⟩ := List.mem_map.mp hq
    show (1 : Int) * 64 + (e.number : Int) < 2 * 64 + (f.number : Int)
    have := (h.elow e he).2
    omega
theorem nm_nodup {st : State} (h : NOk st) : ((nmOf st).map (·.1)).Nodup :=
  (codes_inc h).imp fun {a b} q e => by rw [e] at q; omega
theorem nm_low {st : State} (h : NOk st) : ∀ p ∈ (nmOf st).map (·.1), (p.1 = 1 ∧ 1 ≤ p.2 ∧ p.2 ≤ 40) ∨ (p.1 = 2 ∧ 1 ≤ p.2 ∧ p.2 ≤ 20) := by
  intro p hp
  unfold nmOf enm inm at hp
  rw [List.map_append, List.map_map, List.map_map] at hp
  rcases List.mem_append.mp hp with hp | hp
  · obtain ⟨e, he, rfl⟩ := List.mem_map.mp hp
    have := h.elow e he
    exact .inl ⟨rfl, by show (1 : Int) ≤ (e.number : Int); omega, by show (e.number : Int) ≤ 40; omega⟩
  · obtain ⟨e, he, rfl⟩ := List.mem_map.mp hp
    have := h.ilow e he
    exact .inr ⟨rfl, by show (1 : Int) ≤ (e.number : Int); omega, by show (e.number : Int) ≤ 20; omega⟩
/-- all names that there can be -/
def allNames : List (Int × Int) := (List.range 41).map (fun (n : Nat) => ((1 : Int), (n : Int))) ++ (List.range 21).map (fun (n : Nat) => ((2 : Int), (n : Int)))
theorem few_names {l : List (Int × Int)} (hn : l.Nodup) (h : ∀ p ∈ l, (p.1 = 1 ∧ 1 ≤ p.2 ∧ p.2 ≤ 40) ∨ (p.1 = 2 ∧ 1 ≤ p.2 ∧ p.2 ≤ 20)) : l.length ≤ 60 := by
  have two : ∀ l : List (Int × Int), l.Nodup → (∀ p ∈ l, (p.1 = 1 ∧ 1 ≤ p.2 ∧ p.2 ≤ 40) ∨ (p.1 = 2 ∧ 1 ≤ p.2 ∧ p.2 ≤ 20)) →
      l.length ≤ ((List.range 40).map (fun (n : Nat) => ((1 : Int), (n : Int) + 1)) ++ (List.range 20).map (fun (n : Nat) => ((2 : Int), (n : Int) + 1))).length := by
    intro l hn h
    refine len_le_of_sub hn fun p hp => ?_
    rw [List.mem_append, List.mem_map, List.mem_map]
    rcases h p hp with ⟨h1, h2, h3⟩ | ⟨h1, h2, h3⟩
    · exact .inl ⟨(p.2 - 1).toNat, List.mem_range.mpr (by omega), Prod.ext h1.symm (by show ((p.2 - 1).toNat : Int) + 1 = p.2; omega)⟩
    · exact .inr ⟨(p.2 - 1).toNat, List.mem_range.mpr (by omega), Prod.ext h1.symm (by show ((p.2 - 1).toNat : Int) + 1 = p.2; omega)⟩
  have := two l hn h
  simpa using this
theorem nm_few {st : State} (h : NOk st) : (nmOf st).length ≤ 60 := by
  have := few_names (nm_nodup h) (nm_low h)
  rwa [List.length_map] at this

/-- in order of codes a list is told by its members -/
theorem sorted_is {l m : List (Int × Int)} (hp : l.Perm m) (hl : l.Pairwise (fun a b => code a ≤ code b)) (hm : m.Pairwise (fun a b => code a < code b)) : l = m := by
  induction m generalizing l with
  | nil => exact hp.eq_nil
  | cons b m ih =>
    cases l with
    | nil => exact absurd hp.symm.eq_nil (by simp)
    | cons a l =>
      obtain ⟨ha, hl'⟩ := List.pairwise_cons.mp hl
      obtain ⟨hb, hm'⟩ := List.pairwise_cons.mp hm
      have e : a = b := by
        have m1 : a ∈ b :: m := hp.mem_iff.mp List.mem_cons_self
        have m2 : b ∈ a :: l := hp.mem_iff.mpr List.mem_cons_self
        rcases List.mem_cons.mp m1 with q | q
        · exact q
        · rcases List.mem_cons.mp m2 with r | r
          · exact r.symm
          · have := hb a q; have := ha b r; omega
      subst e
      rw [ih (List.Perm.cons_inv hp) hl' hm']

/-! ## a name's stamp -/
theorem gets_app (l m : NS) (p : Int × Int) : gets (l ++ m) p = (gets l p).or (gets m p) := by
  unfold gets
  rw [List.find?_append]
  cases List.find? (fun q => decide (q.1 = p)) l <;> rfl
theorem gets_enm (l : List Named) (n : Nat) : gets (enm l) (1, (n : Int)) = ((l.find? fun e => e.number == n).map (·.stamp)).map (fun (s : Nat) => (s : Int)) := by
  induction l with
  | nil => rfl
  | cons e l ih =>
    unfold gets enm at ih ⊢
    rw [List.map_cons, List.find?_cons, List.find?_cons]
    by_cases h : e.number = n
    · have h1 : decide (((1 : Int), (e.number : Int)) = (1, (n : Int))) = true := by rw [h]; simp
      have h2 : (e.number == n) = true := by rw [h]; simp
      simp only [h1, h2, Option.map_some]
    · have h1 : decide (((1 : Int), (e.number : Int)) = (1, (n : Int))) = false := decide_eq_false fun q => h (by have := congrArg Prod.snd q; exact Int.ofNat.inj this)
      have h2 : (e.number == n) = false := by simpa using h
      simp only [h1, h2]
      exact ih
theorem gets_inm (l : List Named) (n : Nat) : gets (inm l) (2, (n : Int)) = ((l.find? fun e => e.number == n).map (·.stamp)).map (fun (s : Nat) => (s : Int)) := by
  induction l with
  | nil => rfl
  | cons e l ih =>
    unfold gets inm at ih ⊢
    rw [List.map_cons, List.find?_cons, List.find?_cons]
    by_cases h : e.number = n
    · have h1 : decide (((2 : Int), (e.number : Int)) = (2, (n : Int))) = true := by rw [h]; simp
      have h2 : (e.number == n) = true := by rw [h]; simp
      simp only [h1, h2, Option.map_some]
    · have h1 : decide (((2 : Int), (e.number : Int)) = (2, (n : Int))) = false := decide_eq_false fun q => h (by have := congrArg Prod.snd q; exact Int.ofNat.inj this)
      have h2 : (e.number == n) = false := by simpa using h
      simp only [h1, h2]
      exact ih
theorem gets_enm_no {l : List Named} {p : Int × Int} (h : p.1 ≠ 1 ∨ p.2 < 0) : gets (enm l) p = none := by
  refine gets_none.mpr fun m => ?_
  obtain ⟨q, hq, rfl⟩ := List.mem_map.mp m
  obtain ⟨e, _, rfl⟩ := mem_enm.mp hq
  rcases h with h | h
  · exact h rfl
  · have : (e.number : Int) < 0 := h
    omega
theorem gets_inm_no {l : List Named} {p : Int × Int} (h : p.1 ≠ 2 ∨ p.2 < 0) : gets (inm l) p = none := by
  refine gets_none.mpr fun m => ?_
  obtain ⟨q, hq, rfl⟩ := List.mem_map.mp m
  obtain ⟨e, _, rfl⟩ := mem_inm.mp hq
  rcases h with h | h
  · exact h rfl
  · have : (e.number : Int) < 0 := h
    omega
theorem stI_entry (st : State) (n : Nat) : stI st (1, (n : Int)) = (stampOf st ⟨1, n⟩).map (fun (s : Nat) => (s : Int)) := by
  unfold stI nmOf
  rw [gets_app, gets_enm, gets_inm_no (.inl (show (1 : Int) ≠ 2 by decide)), Option.or_none]
  rfl
theorem stI_import (st : State) (n : Nat) : stI st (2, (n : Int)) = (stampOf st ⟨2, n⟩).map (fun (s : Nat) => (s : Int)) := by
  unfold stI nmOf
  rw [gets_app, gets_inm, gets_enm_no (.inl (show (2 : Int) ≠ 1 by decide)), Option.none_or]
  rfl
theorem stI_name (st : State) (k : Int) (h : k = 1 ∨ k = 2) (n : Nat) : stI st (k, (n : Int)) = (stampOf st ⟨k.toNat, n⟩).map (fun (s : Nat) => (s : Int)) := by
  rcases h with rfl | rfl
  · exact stI_entry st n
  · exact stI_import st n
theorem stI_neg (st : State) (p : Int × Int) (h : p.2 < 0) : stI st p = none := by
  unfold stI nmOf
  rw [gets_app, gets_enm_no (.inr h), gets_inm_no (.inr h)]; rfl
theorem find_any (l : List Named) (n : Nat) : ((l.find? fun e => e.number == n).map (·.stamp)).isSome = l.any fun e => e.number == n := by
  rw [Option.isSome_map, Bool.eq_iff_iff, List.find?_isSome, List.any_eq_true]
theorem stI_isEntry (st : State) (i : Int) : (stI st (1, i)).isSome = (decide (0 ≤ i) && isEntry st i.toNat) := by
  by_cases h : 0 ≤ i
  · obtain ⟨n, rfl⟩ := Int.eq_ofNat_of_zero_le h
    rw [stI_entry, Option.isSome_map]
    show (((if (1 : Nat) = 1 then st.entries else st.imports).find? fun e => e.number == n).map (·.stamp)).isSome = _
    rw [if_pos rfl, find_any]
    simp [isEntry]
  · rw [stI_neg st _ (by show i < 0; omega)]
    simp [h]
theorem stI_isImport (st : State) (i : Int) : (stI st (2, i)).isSome = (decide (0 ≤ i) && isImport st i.toNat) := by
  by_cases h : 0 ≤ i
  · obtain ⟨n, rfl⟩ := Int.eq_ofNat_of_zero_le h
    rw [stI_import, Option.isSome_map]
    show (((if (2 : Nat) = 1 then st.entries else st.imports).find? fun e => e.number == n).map (·.stamp)).isSome = _
    rw [if_neg (by decide), find_any]
    simp [isImport]
  · rw [stI_neg st _ (by show i < 0; omega)]
    simp [h]

/-! ## a use -/
/-- what a dict's store does to the names -/
def puts (l : NS) (p : Int × Int) (s : Int) : NS := if p ∈ l.map (·.1) then l.map (fun q => if q.1 = p then (p, s) else q) else l ++ [(p, s)]
theorem keys_puts (l : NS) (p : Int × Int) (s : Int) : (puts l p s).map (·.1) = if p ∈ l.map (·.1) then l.map (·.1) else l.map (·.1) ++ [p] := by
  unfold puts
  split
  · rw [List.map_map]
    apply List.map_congr_left
    intro q _
    show (if q.1 = p then (p, s) else q).1 = q.1
    split
    · rename_i e; exact e.symm
    · rfl
  · rw [List.map_append]; rfl
theorem puts_perm {l m : NS} (hp : l.Perm m) (p : Int × Int) (s : Int) : (puts l p s).Perm (puts m p s) := by
  have h : p ∈ l.map (·.1) ↔ p ∈ m.map (·.1) := (hp.map _).mem_iff
  unfold puts
  by_cases c : p ∈ l.map (·.1)
  · rw [if_pos c, if_pos (h.mp c)]
    exact hp.map _
  · rw [if_neg c, if_neg (fun q => c (h.mpr q))]
    exact hp.append_right _
theorem puts_enm (n s : Nat) : ∀ (l : List Named), Inc (l.map (·.number)) → (puts (enm l) (1, (n : Int)) (s : Int)).Perm (enm (putNamed ⟨n, s⟩ l))
  | [], _ => List.Perm.refl _
  | e :: l, h => by
    have h' : Inc (e.number :: l.map (·.number)) := h
    obtain ⟨h1, h2⟩ := List.pairwise_cons.mp h'
    have hmem : ∀ x : Nat, (((1 : Int), (x : Int)) ∈ (enm l).map (·.1)) ↔ x ∈ l.map (·.number) := fun x => by
      constructor
      · intro m
        obtain ⟨q, hq, e'⟩ := List.mem_map.mp m
        obtain ⟨f, hf, rfl⟩ := mem_enm.mp hq
        have := congrArg Prod.snd e'
        have : f.number = x := Int.ofNat.inj this
        exact List.mem_map.mpr ⟨f, hf, this⟩
      · intro m
        obtain ⟨f, hf, rfl⟩ := List.mem_map.mp m
        exact List.mem_map.mpr ⟨_, mem_enm.mpr ⟨f, hf, rfl⟩, rfl⟩
    have hc : enm (e :: l) = ((1, (e.number : Int)), (e.stamp : Int)) :: enm l := rfl
    unfold putNamed
    by_cases c1 : n < e.number
    · rw [if_pos c1]
      have no : ¬ ((1 : Int), (n : Int)) ∈ (enm (e :: l)).map (·.1) := by
        rw [hc, List.map_cons, List.mem_cons]
        rintro (q | q)
        · have := congrArg Prod.snd q
          have : n = e.number := Int.ofNat.inj this
          omega
        · have := h1 n ((hmem n).mp q)
          omega
      unfold puts
      rw [if_neg no]
      exact (List.perm_append_comm (l₁ := enm (e :: l)) (l₂ := [((1, (n : Int)), (s : Int))]))
    · rw [if_neg c1]
      by_cases c2 : n = e.number
      · rw [if_pos c2]
        have yes : ((1 : Int), (n : Int)) ∈ (enm (e :: l)).map (·.1) := by rw [hc, List.map_cons, c2]; exact List.mem_cons_self
        unfold puts
        rw [if_pos yes, hc, List.map_cons]
        have : (enm l).map (fun q => if q.1 = ((1 : Int), (n : Int)) then (((1 : Int), (n : Int)), (s : Int)) else q) = enm l := by
          conv => rhs; rw [← List.map_id (enm l)]
          apply List.map_congr_left
          intro q hq
          rw [if_neg]; rfl
          intro eq
          have : n ∈ l.map (·.number) := (hmem n).mp (List.mem_map.mpr ⟨q, hq, eq⟩)
          have := h1 n this
          omega
        rw [this]
        have e2 : (if ((1 : Int), (e.number : Int)) = (1, (n : Int)) then (((1 : Int), (n : Int)), (s : Int)) else ((1, (e.number : Int)), (e.stamp : Int))) = ((1, (n : Int)), (s : Int)) := by rw [c2]; simp
        rw [e2]
        exact List.Perm.refl _
      · rw [if_neg c2]
        have ih := puts_enm n s l h2
        have ne : ¬ ((1 : Int), (e.number : Int)) = (1, (n : Int)) := fun q => c2 (by have := congrArg Prod.snd q; exact (Int.ofNat.inj this).symm)
        have hm : (((1 : Int), (n : Int)) ∈ (enm (e :: l)).map (·.1)) ↔ (((1 : Int), (n : Int)) ∈ (enm l).map (·.1)) := by
          rw [hc, List.map_cons, List.mem_cons]
          exact ⟨fun q => q.resolve_left fun z => ne z.symm, .inr⟩
        have step : puts (enm (e :: l)) (1, (n : Int)) (s : Int) = ((1, (e.number : Int)), (e.stamp : Int)) :: puts (enm l) (1, (n : Int)) (s : Int) := by
          unfold puts
          by_cases c : ((1 : Int), (n : Int)) ∈ (enm l).map (·.1)
          · rw [if_pos c, if_pos (hm.mpr c), hc, List.map_cons, if_neg ne]
          · rw [if_neg c, if_neg (fun q => c (hm.mp q)), hc]; rfl
        rw [step]
        exact ih.cons _
theorem puts_inm (n s : Nat) : ∀ (l : List Named), Inc (l.map (·.number)) → (puts (inm l) (2, (n : Int)) (s : Int)).Perm (inm (putNamed ⟨n, s⟩ l))
  | [], _ => List.Perm.refl _
  | e :: l, h => by
    have h' : Inc (e.number :: l.map (·.number)) := h
    obtain ⟨h1, h2⟩ := List.pairwise_cons.mp h'
    have hmem : ∀ x : Nat, (((2 : Int), (x : Int)) ∈ (inm l).map (·.1)) ↔ x ∈ l.map (·.number) := fun x => by
      constructor
      · intro m
        obtain ⟨q, hq, e'⟩ := List.mem_map.mp m
        obtain ⟨f, hf, rfl⟩ := mem_inm.mp hq
        have := congrArg Prod.snd e'
        have : f.number = x := Int.ofNat.inj this
        exact List.mem_map.mpr ⟨f, hf, this⟩
      · intro m
        obtain ⟨f, hf, rfl⟩ := List.mem_map.mp m
        exact List.mem_map.mpr ⟨_, mem_inm.mpr ⟨f, hf, rfl⟩, rfl⟩
    have hc : inm (e :: l) = ((2, (e.number : Int)), (e.stamp : Int)) :: inm l := rfl
    unfold putNamed
    by_cases c1 : n < e.number
    · rw [if_pos c1]
      have no : ¬ ((2 : Int), (n : Int)) ∈ (inm (e :: l)).map (·.1) := by
        rw [hc, List.map_cons, List.mem_cons]
        rintro (q | q)
        · have := congrArg Prod.snd q
          have : n = e.number := Int.ofNat.inj this
          omega
        · have := h1 n ((hmem n).mp q)
          omega
      unfold puts
      rw [if_neg no]
      exact (List.perm_append_comm (l₁ := inm (e :: l)) (l₂ := [((2, (n : Int)), (s : Int))]))
    · rw [if_neg c1]
      by_cases c2 : n = e.number
      · rw [if_pos c2]
        have yes : ((2 : Int), (n : Int)) ∈ (inm (e :: l)).map (·.1) := by rw [hc, List.map_cons, c2]; exact List.mem_cons_self
        unfold puts
        rw [if_pos yes, hc, List.map_cons]
        have : (inm l).map (fun q => if q.1 = ((2 : Int), (n : Int)) then (((2 : Int), (n : Int)), (s : Int)) else q) = inm l := by
          conv => rhs; rw [← List.map_id (inm l)]
          apply List.map_congr_left
          intro q hq
          rw [if_neg]; rfl
          intro eq
          have : n ∈ l.map (·.number) := (hmem n).mp (List.mem_map.mpr ⟨q, hq, eq⟩)
          have := h1 n this
          omega
        rw [this]
        have e2 : (if ((2 : Int), (e.number : Int)) = (2, (n : Int)) then (((2 : Int), (n : Int)), (s : Int)) else ((2, (e.number : Int)), (e.stamp : Int))) = ((2, (n : Int)), (s : Int)) := by rw [c2]; simp
        rw [e2]
        exact List.Perm.refl _
      · rw [if_neg c2]
        have ih := puts_inm n s l h2
        have ne : ¬ ((2 : Int), (e.number : Int)) = (2, (n : Int)) := fun q => c2 (by have := congrArg Prod.snd q; exact (Int.ofNat.inj this).symm)
        have hm : (((2 : Int), (n : Int)) ∈ (inm (e :: l)).map (·.1)) ↔ (((2 : Int), (n : Int)) ∈ (inm l).map (·.1)) := by
          rw [hc, List.map_cons, List.mem_cons]
          exact ⟨fun q => q.resolve_left fun z => ne z.symm, .inr⟩
        have step : puts (inm (e :: l)) (2, (n : Int)) (s : Int) = ((2, (e.number : Int)), (e.stamp : Int)) :: puts (inm l) (2, (n : Int)) (s : Int) := by
          unfold puts
          by_cases c : ((2 : Int), (n : Int)) ∈ (inm l).map (·.1)
          · rw [if_pos c, if_pos (hm.mpr c), hc, List.map_cons, if_neg ne]
          · rw [if_neg c, if_neg (fun q => c (hm.mp q)), hc]; rfl
        rw [step]
        exact ih.cons _
theorem puts_left {l m : NS} {p : Int × Int} {s : Int} (h : p ∉ m.map (·.1)) : (puts (l ++ m) p s).Perm (puts l p s ++ m) := by
  unfold puts
  by_cases c : p ∈ l.map (·.1)
  · have c2 : p ∈ (l ++ m).map (·.1) := by rw [List.map_append]; exact List.mem_append.mpr (.inl c)
    rw [if_pos c, if_pos c2, List.map_append]
    have : m.map (fun q => if q.1 = p then (p, s) else q) = m := by
      conv => rhs; rw [← List.map_id m]
      apply List.map_congr_left
      intro q hq
      rw [if_neg (fun e => h (List.mem_map.mpr ⟨q, hq, e⟩))]; rfl
    rw [this]
  · have c2 : ¬ p ∈ (l ++ m).map (·.1) := by
      rw [List.map_append]
      intro q
      rcases List.mem_append.mp q with q | q
      · exact c q
      · exact h q
    rw [if_neg c, if_neg c2, List.append_assoc, List.append_assoc]
    exact List.Perm.append_left _ List.perm_append_comm
theorem puts_right {l m : NS} {p : Int × Int} {s : Int} (h : p ∉ l.map (·.1)) : puts (l ++ m) p s = l ++ puts m p s := by
  unfold puts
  by_cases c : p ∈ m.map (·.1)
  · have c2 : p ∈ (l ++ m).map (·.1) := by rw [List.map_append]; exact List.mem_append.mpr (.inr c)
    rw [if_pos c, if_pos c2, List.map_append]
    have : l.map (fun q => if q.1 = p then (p, s) else q) = l := by
      conv => rhs; rw [← List.map_id l]
      apply List.map_congr_left
      intro q hq
      rw [if_neg (fun e => h (List.mem_map.mpr ⟨q, hq, e⟩))]; rfl
    rw [this]
  · have c2 : ¬ p ∈ (l ++ m).map (·.1) := by
      rw [List.map_append]
      intro q
      rcases List.mem_append.mp q with q | q
      · exact h q
      · exact c q
    rw [if_neg c, if_neg c2, List.append_assoc]
theorem no_enm (l : List Named) (n : Int) : ((2 : Int), n) ∉ (enm l).map (·.1) := gets_none.mp (gets_enm_no (.inl (show (2 : Int) ≠ 1 by decide)))
theorem no_inm (l : List Named) (n : Int) : ((1 : Int), n) ∉ (inm l).map (·.1) := gets_none.mp (gets_inm_no (.inl (show (1 : Int) ≠ 2 by decide)))
theorem puts_entry {st : State} (h : NOk st) (n : Nat) : (puts (nmOf st) (1, (n : Int)) ((st.uses : Int) + 1)).Perm (nmOf (useEntry st n)) := by
  refine (puts_left (no_inm _ _)).trans ?_
  have := puts_enm n (st.uses + 1) st.entries h.einc
  exact this.append_right _
theorem puts_import {st : State} (h : NOk st) (n : Nat) : (puts (nmOf st) (2, (n : Int)) ((st.uses : Int) + 1)).Perm (nmOf (useImport st n)) := by
  show (puts (enm st.entries ++ inm st.imports) _ _).Perm _
  rw [puts_right (no_enm _ _)]
  have := puts_inm n (st.uses + 1) st.imports h.iinc
  exact List.Perm.append_left _ this
end Sl
namespace Sl
open Vbxlaf
/-! ## the walk by a stack -/
structure LInv (F : Nat → List Value) (vs R W : List Value) : Prop where
  nd : R.Nodup
  r : ∀ v ∈ R, Led F vs v
  w : ∀ v ∈ W, v ≠ .nothing → Led F vs v
  s : ∀ v ∈ vs, v ≠ .nothing → v ∈ R ∨ v ∈ W
  c : ∀ n, Value.object n ∈ R → ∀ v ∈ F n, v ≠ .nothing → v ∈ R ∨ v ∈ W
theorem LInv.start (F : Nat → List Value) (vs : List Value) : LInv F vs [] vs where
  nd := List.nodup_nil
  r := fun v h => nomatch h
  w := fun v h n => .start h n
  s := fun v h _ => .inr h
  c := fun n h => nomatch h
theorem LInv.skip {F : Nat → List Value} {vs R W : List Value} {v : Value} (h : LInv F vs R (W ++ [v])) (hv : v = .nothing ∨ v ∈ R) : LInv F vs R W where
  nd := h.nd
  r := h.r
  w := fun u hu => h.w u (List.mem_append.mpr (.inl hu))
  s := fun u hu n => (h.s u hu n).elim .inl fun m => (List.mem_append.mp m).elim .inr fun e => by
    rw [List.mem_singleton] at e; subst e
    exact hv.elim (fun z => absurd z n) .inl
  c := fun m hm u hu n => (h.c m hm u hu n).elim .inl fun q => (List.mem_append.mp q).elim .inr fun e => by
    rw [List.mem_singleton] at e; subst e
    exact hv.elim (fun z => absurd z n) .inl
theorem LInv.leaf {F : Nat → List Value} {vs R W : List Value} {v : Value} (h : LInv F vs R (W ++ [v])) (hv : v ≠ .nothing) (hr : v ∉ R) (ho : ∀ n, v ≠ .object n) : LInv F vs (R ++ [v]) W where
  nd := List.nodup_append.mpr ⟨h.nd, by simp, fun x hx y hy e => by rw [List.mem_singleton] at hy; subst hy; subst e; exact hr hx⟩
  r := fun u hu => (List.mem_append.mp hu).elim (h.r u) fun e => by rw [List.mem_singleton] at e; subst e; exact h.w u (List.mem_append.mpr (.inr (List.mem_singleton.mpr rfl))) hv
  w := fun u hu => h.w u (List.mem_append.mpr (.inl hu))
  s := fun u hu n => (h.s u hu n).elim (fun q => .inl (List.mem_append.mpr (.inl q))) fun m => (List.mem_append.mp m).elim .inr fun e => .inl (List.mem_append.mpr (.inr e))
  c := fun m hm u hu n => by
    rcases List.mem_append.mp hm with q | q
    · exact (h.c m q u hu n).elim (fun q => .inl (List.mem_append.mpr (.inl q))) fun m => (List.mem_append.mp m).elim .inr fun e => .inl (List.mem_append.mpr (.inr e))
    · rw [List.mem_singleton] at q; exact absurd q.symm (ho m)
theorem LInv.node {F : Nat → List Value} {vs R W : List Value} {n : Nat} (h : LInv F vs R (W ++ [.object n])) (hr : Value.object n ∉ R) : LInv F vs (R ++ [.object n]) (W ++ F n) where
  nd := List.nodup_append.mpr ⟨h.nd, by simp, fun x hx y hy e => by rw [List.mem_singleton] at hy; subst hy; subst e; exact hr hx⟩
  r := fun u hu => (List.mem_append.mp hu).elim (h.r u) fun e => by rw [List.mem_singleton] at e; subst e; exact h.w _ (List.mem_append.mpr (.inr (List.mem_singleton.mpr rfl))) (by simp)
  w := fun u hu nn => (List.mem_append.mp hu).elim (fun q => h.w u (List.mem_append.mpr (.inl q)) nn) fun q => .step (h.w _ (List.mem_append.mpr (.inr (List.mem_singleton.mpr rfl))) (by simp)) q nn
  s := fun u hu nn => (h.s u hu nn).elim (fun q => .inl (List.mem_append.mpr (.inl q))) fun m => (List.mem_append.mp m).elim (fun q => .inr (List.mem_append.mpr (.inl q))) fun e => .inl (List.mem_append.mpr (.inr e))
  c := fun m hm u hu nn => by
    rcases List.mem_append.mp hm with q | q
    · exact (h.c m q u hu nn).elim (fun q => .inl (List.mem_append.mpr (.inl q))) fun m => (List.mem_append.mp m).elim (fun q => .inr (List.mem_append.mpr (.inl q))) fun e => .inl (List.mem_append.mpr (.inr e))
    · rw [List.mem_singleton] at q
      have q : m = n := by injection q
      subst q
      exact .inr (List.mem_append.mpr (.inr hu))
theorem LInv.done {F : Nat → List Value} {vs R : List Value} (h : LInv F vs R []) (v : Value) : v ∈ R ↔ Led F vs v := by
  refine ⟨h.r v, fun q => ?_⟩
  induction q with
  | start m n => exact (h.s _ m n).elim id fun z => nomatch z
  | step _ m n ih => exact (h.c _ ih _ m n).elim id fun z => nomatch z
/-- how much is left -/
def left (U : List Nat) (R : List Value) : Nat := (U.filter fun n => decide (Value.object n ∉ R)).length
theorem left_mono (U : List Nat) (R : List Value) (v : Value) : left U (R ++ [v]) ≤ left U R := by
  unfold left
  induction U with
  | nil => exact Nat.le_refl _
  | cons a U ih =>
    rw [List.filter_cons, List.filter_cons]
    by_cases c : Value.object a ∈ R ++ [v]
    · rw [if_neg (by simp only [decide_eq_true_eq]; exact fun z => z c)]
      split
      · rw [List.length_cons]; omega
      · exact ih
    · have c2 : Value.object a ∉ R := fun z => c (List.mem_append.mpr (.inl z))
      rw [if_pos (decide_eq_true c), if_pos (decide_eq_true c2), List.length_cons, List.length_cons]; omega
theorem left_drop {n : Nat} {R : List Value} (hr : Value.object n ∉ R) : ∀ {U : List Nat}, n ∈ U → left U (R ++ [.object n]) + 1 ≤ left U R
  | [], h => nomatch h
  | a :: U, h => by
    unfold left
    rw [List.filter_cons, List.filter_cons]
    by_cases e : a = n
    · subst e
      rw [if_neg (by simp), if_pos (decide_eq_true hr), List.length_cons]
      have := left_mono U R (.object a)
      unfold left at this
      omega
    · have h' : n ∈ U := (List.mem_cons.mp h).resolve_left fun z => e z.symm
      have ih := left_drop hr h'
      unfold left at ih
      by_cases c : Value.object a ∈ R
      · rw [if_neg (by simp [c]), if_neg (by simp [c])]; exact ih
      · have c2 : Value.object a ∉ R ++ [Value.object n] := fun z => (List.mem_append.mp z).elim c fun q => e (by rw [List.mem_singleton] at q; injection q)
        rw [if_pos (decide_eq_true c2), if_pos (decide_eq_true c), List.length_cons, List.length_cons]; omega
theorem left_le (U : List Nat) (R : List Value) : left U R ≤ U.length := List.length_filter_le _ _
end Sl
namespace Sv
open PySem PySem.Spec PyProof.Rows L2

/-- an iterator of tuples, as a turn of the layer: the tuple that it yields is new -/
theorem item_of {X : Cx} {it : Addr} {fp wr : List Addr} {n : Nat} {Pt : Nat → Array Value → Prop} {St : Nat → Heap → Prop} {Mid : Nat → Addr → Heap → Prop}
    {elts : List Expr} {kk : Nat} {tpos : Pos} {i : Nat} {pins : List (Addr × Obj)} {s : Shared} {σ : L2.St} {H : Hp} {E : Value → Shared → Prop} {G : V → V → Prop}
    (W : WalksT X.prog X.w X.A it fp wr n Pt St Mid) (I : Inv X pins σ H s) (hf : ∀ b ∈ wr, FpOk X pins H b) (hi : i < n) (st : St i s.heap)
    (hP : ∀ vals, Pt i vals → ∃ x y u v, vals = #[u, v] ∧ RelV x u ∧ RelV y v ∧ G x y) :
    wpAny (model X.prog X.w) X.A (pyNext (.ref it)) (fun r s1 => ∃ u, r = some u ∧ wpAny (model X.prog X.w) X.A (letOwnedTupleGo (.Tuple elts kk tpos) (.ref it) u)
      (fun _ s2 => ∃ T x y, u = .ref T ∧ H T = none ∧ s.heap.objs.size ≤ T ∧ G x y ∧ Inv X pins σ (upd H T (.tup [x, y])) s2 ∧ St (i + 1) s2.heap) E s1) E s := by
  refine W.item i s _ _ hi st fun T vals h1 tk hv hT tup mid keep => ⟨.ref T, rfl, ?_⟩
  refine W.go elts kk tpos i T { s with heap := h1, toks := tk } _ _ mid fun h2 st2 keep2 => ?_
  obtain ⟨x, y, u, v, rfl, ru, rv, g⟩ := hP vals hv
  have tup2 : h2.IsTuple T #[u, v] := tup.at fun o e => keep2 T o (W.apart i T h1 mid) e
  obtain ⟨o, ho, c1, m, c2⟩ := tup2
  have new : ObjOk X.prog X.w (upd H T (.tup [x, y])) h2 T (.tup [x, y]) :=
    ⟨by show 2 ≤ sizeLine; decide, [u, v], .cons ru (.cons rv .nil), ⟨o, ho, c1, m, c2⟩⟩
  have I2 := I.turnedNew (t' := tk) (h' := h2) (ch := wr) (fun b ob hb e => keep2 b ob hb (keep b ob hb e)) hf hT new
  exact ⟨T, x, y, rfl, I.hok.fresh hT, hT, g, I2, st2⟩

/-! ### zip(a tuple, a list) -/
/-- the tuple at a and the list at b, their items in new pairs -/
def ItzM (K : PySem.W.Frag) (a b : Addr) : It where
  go := fun i H => ∃ (xs ys : List V), SqT K H a xs ∧ SqL K H b ys ∧ i < xs.length ∧ i < ys.length
  yld := fun i H v H' => ∃ T x y, v = .ref T ∧ H T = none ∧ H' = upd H T (.tup [x, y]) ∧ (∀ xs, SqT K H a xs → xs[i]? = some x) ∧ (∀ ys, SqL K H b ys → ys[i]? = some y)
  stop := fun i H => ∃ (xs ys : List V), SqT K H a xs ∧ SqL K H b ys ∧ i ≤ xs.length ∧ i ≤ ys.length ∧ (i = xs.length ∨ i = ys.length)

theorem turn_zipM {P : Program} {w : World} {K : PySem.W.Frag} {elts : List Expr} {kk : Nat} {tpos : Pos} {a b : Addr} {N : Nat} (ha : a < N) (hb : b < N) :
    Turn P w K (.Tuple elts kk tpos) (ItzM K a b) [N + 4, N + 2, N + 3, N, N + 1] (N + 4)
      (fun i h => (IsZip h (N + 4) (N + 2) (N + 3) .none ∧ IsTupOf2 h (N + 2) (.ref (N : Nat)) (.ref (N + 1 : Nat)) ∧ ∃ x y, IsTupOf2 h (N + 3) x y) ∧ h.IsTupleIter (N : Nat) a i ∧ h.IsListIter (N + 1 : Nat) b i) := by
  have sep := zip_sep2 (N := N) (fp1 := [a]) (fp2 := [b]) (by simpa using ha) (by simpa using hb)
  have na : a ≠ (N : Nat) := Nat.ne_of_lt ha
  have nb : b ≠ (N + 1 : Nat) := Nat.ne_of_lt (Nat.lt_succ_of_lt hb)
  have inside : ∀ c, c ∈ [N + 4, N + 3, N, N + 1] → c ∈ [N + 4, N + 2, N + 3, N, N + 1] := fun c hc => by
    simp only [List.mem_cons, List.not_mem_nil, or_false] at hc ⊢
    omega
  refine ⟨by simp, ?_, ?_, ?_, ?_, ?_⟩
  · rintro i h ⟨⟨z1, z2, x, y, z3⟩, ⟨o1, e1, _, d1⟩, ⟨o2, e2, _, d2⟩⟩ c hc
    simp only [List.mem_cons, List.not_mem_nil, or_false] at hc
    rcases hc with q | q | q | q | q <;> subst q
    · exact ⟨_, z1, by intro v q; cases q⟩
    · exact ⟨_, z2, by intro v q; cases q⟩
    · exact ⟨_, z3, by intro v q; cases q⟩
    · exact ⟨o1, e1, by intro v q; rw [d1] at q; cases q⟩
    · exact ⟨o2, e2, by intro v q; rw [d2] at q; cases q⟩
  · rintro i h h' ⟨⟨z1, z2, x, y, z3⟩, t1, t2⟩ k
    exact ⟨⟨k _ (by simp) _ z1, k _ (by simp) _ z2, x, y, k _ (by simp) _ z3⟩, t1.at fun o q => k _ (by simp) o q, t2.at fun o q => k _ (by simp) o q⟩
  · rintro X rfl rfl rfl hc i pins s σ H E I hf ⟨⟨z1, z2, z3⟩, t1, t2⟩ ⟨xs, ys, hx, hy, lx, ly⟩
    obtain ⟨its, rv, p, _⟩ := I.tuple hx
    obtain ⟨its2, rv2, p2, _⟩ := I.list hy
    have hh : X.A.in1.handled = none := I.ok.hd hc
    have W := WalksT.zipD2 sep (Draws.tuple (prog := X.prog) (w := X.w) hh (N : Nat) a na its.toArray) (Draws.list (prog := X.prog) (w := X.w) hh (N + 1 : Nat) b nb its2.toArray)
    have l1 := rv.length
    have l2 := rv2.length
    refine thn (item_of (elts := elts) (kk := kk) (tpos := tpos) (G := fun x y => xs[i]? = some x ∧ ys[i]? = some y) W I (fun c hc => hf c (inside c hc)) (i := i) (by simp; omega) ⟨z1, z2, z3, ⟨t1, p⟩, ⟨t2, p2.isList⟩⟩ ?_) ?_
    rotate_left
    · rintro r s1 ⟨u, rfl, hu⟩
      refine ⟨u, rfl, thn hu ?_⟩
      rintro _ s2 ⟨T, x, y, rfl, hT, hN, ⟨gx, gy⟩, I2, ⟨z1', z2', z3', ⟨t1', _⟩, ⟨t2', _⟩⟩⟩
      refine ⟨.ref T, _, I2, rfl, ⟨T, x, y, rfl, hT, rfl, fun l hl => by rw [I.tuple_inj hl hx]; exact gx, fun l hl => by rw [I.list_inj hl hy]; exact gy⟩, ⟨⟨z1', z2', z3'⟩, t1', t2'⟩, fun c hc => ?_⟩
      have hlt : c < s.heap.objs.size := by
        simp only [List.mem_cons, List.not_mem_nil, or_false] at hc
        rcases hc with q | q | q | q | q <;> subst q
        · exact Heap.lt_size z1
        · exact Heap.lt_size z2
        · obtain ⟨_, _, z3⟩ := z3; exact Heap.lt_size z3
        · obtain ⟨_, e1, _⟩ := t1; exact Heap.lt_size e1
        · obtain ⟨_, e1, _⟩ := t2; exact Heap.lt_size e1
      rw [upd_ne (Nat.ne_of_lt (Nat.lt_of_lt_of_le hlt hN))]
      exact (hf c hc).1
    · rintro vals ⟨u, v, hu, hv, rfl⟩
      obtain ⟨x, hx'⟩ : ∃ x, xs[i]? = some x := ⟨_, List.getElem?_eq_getElem lx⟩
      obtain ⟨y, hy'⟩ : ∃ y, ys[i]? = some y := ⟨_, List.getElem?_eq_getElem ly⟩
      obtain ⟨u', hu', ru⟩ := rv.get hx'
      obtain ⟨v', hv', rw'⟩ := rv2.get hy'
      have eu : u' = u := by simpa [hu'] using hu
      have ev : v' = v := by simpa [hv'] using hv
      subst eu ev
      exact ⟨x, y, _, _, rfl, ru, rw', hx', hy'⟩
  · rintro X rfl rfl rfl hc i pins s σ H E I hf ⟨⟨z1, z2, x0, y0, z3⟩, t1, t2⟩ ⟨xs, ys, hx, hy, lx, ly, he⟩
    obtain ⟨its, rv, p, _⟩ := I.tuple hx
    obtain ⟨its2, rv2, p2, _⟩ := I.list hy
    have hh : X.A.in1.handled = none := I.ok.hd hc
    have l1 := rv.length
    have l2 := rv2.length
    have W := WalksT.zipD2 sep (Draws.tuple (prog := X.prog) (w := X.w) hh (N : Nat) a na its.toArray) (Draws.list (prog := X.prog) (w := X.w) hh (N + 1 : Nat) b nb its2.toArray)
    refine W.done s _ _ ?_ fun h' tk k => ⟨rfl, I.turnedL (t' := tk) (ch := [N + 4, N + 3, N, N + 1]) k fun c hc => hf c (inside c hc)⟩
    have en : min its.toArray.size its2.toArray.size = i := by simp; omega
    rw [en]
    exact ⟨z1, z2, ⟨x0, y0, z3⟩, ⟨t1, p⟩, ⟨t2, p2.isList⟩⟩
  · rintro A i s Q E ⟨⟨z1, _⟩, _⟩ h
    exact wpAny_pyIter_zip z1 h

def iZipM (K : PySem.W.Frag) (ta : TA) : TI := fun σ H R => ta σ H fun vs H1 => ∃ a b xs ys, vs = [.ref a, .ref b] ∧ SqT K H1 a xs ∧ SqL K H1 b ys ∧ R (ItzM K a b) H1
theorem pi_zipM {X : Cx} {e e2 : Expr} {ta : TA} {p pos tpos : Pos} {elts : List Expr} {kk : Nat} (gl : Gl X "zip") (nm : X.mg "zip" = none) (pa : PA X [e, e2] ta)
    (s1 : starEach [e, e2] X.env = (false, eval e X.env) :: starEach [e2] X.env := by rfl) (s2 : (backTo pos (starEach [e2] X.env)).any (·.1) = false := by rfl) :
    PI X (.Tuple elts kk tpos) (.Call (.Name "zip" p) [e, e2] [] pos) (iZipM X.K ta) := by
  constructor
  intro pins s σ H R I h
  refine Call_ (ld_blt I gl nm PyProof.Rows.boot_zip (PyProof.Rows.callWith_type1 (thn (pa.run pos pins s σ H _ I h) ?_) s1 s2))
  rintro us t ⟨vs, H1, I1, r1, a, b, xs, ys, rfl, hx, hy, q⟩
  obtain ⟨ua, _, rfl, ra, r2⟩ : ∃ ua us', us = ua :: us' ∧ RelV (.ref a) ua ∧ Vals [.ref b] us' := by cases r1 with | cons r rr => exact ⟨_, _, rfl, r, rr⟩
  obtain ⟨ub, rfl, rb⟩ := vals1 r2
  obtain rfl : ua = Value.ref a := ra
  obtain rfl : ub = Value.ref b := rb
  obtain ⟨its, rv, p1, _⟩ := I1.tuple hx
  obtain ⟨its2, rv2, p2, _⟩ := I1.list hy
  have la : a < t.heap.objs.size := by obtain ⟨_, e, _⟩ := id p1; exact Heap.lt_size e
  have lb : b < t.heap.objs.size := p2.lt
  refine zip_begins2 (begins_tuple a its.toArray) (begins_list b its2.toArray) p1 p2.isList fun h' z1 z2 z3 z4 z5 _ k => wpAny_pyIter_zip z1 ?_
  refine ⟨t.heap.objs.size + 4, _, _, _, H1, rfl, I1.kept (t' := t.toks) k, turn_zipM la lb, ⟨⟨z1, z2, _, _, z3⟩, ⟨_, z4, rfl, rfl⟩, ⟨_, z5, rfl, rfl⟩⟩, fun c hc => ?_, q⟩
  have hle : t.heap.objs.size ≤ c := by
    simp only [List.mem_cons, List.not_mem_nil, or_false] at hc
    rcases hc with q | q | q | q | q <;> subst q
    · exact Nat.le_add_right _ _
    · exact Nat.le_add_right _ _
    · exact Nat.le_add_right _ _
    · exact Nat.le_refl _
    · exact Nat.le_add_right _ _
  exact I1.fpOk hle (I1.hok.fresh hle)
end Sv
namespace Sv
open PySem PySem.Spec PyProof.Rows L2

/-! ### d.items() of a dict whose keys are tuples, the dict locked -/
/-- each pair a new tuple of the key's own tuple and the value -/
def ItiT (d : Addr) (o : Obj) (kvs : List (List L2.Key × V)) : It where
  go := fun i H => H d = some (.frz o (.dT kvs)) ∧ i < kvs.length
  yld := fun i H x H' => ∃ (T q : Addr) (k : List L2.Key) (v : V), kvs[i]? = some (k, v) ∧ x = .ref T ∧ H T = none ∧ H q = some (.tup (k.map kV)) ∧ H' = upd H T (.tup [.ref q, v])
  stop := fun i H => H d = some (.frz o (.dT kvs)) ∧ i = kvs.length

/-- what a locked dict of tuple keys is, entry by entry -/
theorem frzT_raw {X : Cx} {pins : List (Addr × Obj)} {σ : L2.St} {H : Hp} {s : Shared} {d : Addr} {o : Obj} {kvs : List (List L2.Key × V)} (I : Inv X pins σ H s) (h : H d = some (.frz o (.dT kvs))) :
    (d == sysModules) = false ∧ ∃ es ep, o.data = .dict es ep ∧ s.heap.DictRaw d es ep ∧ es.size = kvs.length ∧
      ∀ (i : Nat) (k : List L2.Key) (v : V), kvs[i]? = some (k, v) → ∃ (q : Addr) (u : Value), (∃ hi : i < es.size, es[i].key = .ref q ∧ es[i].val = u) ∧ H q = some (.tup (k.map kV)) ∧ RelV v u := by
  obtain ⟨hd, z, hs, xs, pr, o', es, ep, ho, hx, hdt, he, _⟩ := I.hok d _ h
  rw [hd] at ho
  cases ho
  have l1 : es.size = xs.length := size_of_entries he
  have l2 : kvs.length = xs.length := Paired.length pr
  refine ⟨hs, es, ep, hdt, ⟨o, hd, hx, hdt⟩, by omega, fun i k v e => ?_⟩
  obtain ⟨b, hb, e1, e2, e3⟩ := paired_get pr e
  have q := entry_at he i
  rw [hb] at q
  obtain ⟨hi, ee⟩ := Array.getElem?_eq_some_iff.mp q
  exact ⟨b.2.1, b.2.2, ⟨hi, by rw [ee]; rfl, by rw [ee]; rfl⟩, e2, e3⟩

theorem turn_itemsT {P : Program} {w : World} {K : PySem.W.Frag} {elts : List Expr} {kk : Nat} {tpos : Pos} {d : Addr} {o : Obj} {es : Array DictEntry} {ep : Nat} {kvs : List (List L2.Key × V)} (it : Addr) (hne : d ≠ it) (hod : o.data = .dict es ep) :
    Turn P w K (.Tuple elts kk tpos) (ItiT d o kvs) [it] it (fun i h => ∃ a b, IsItemIter h it d i es.size ep a b) := by
  refine ⟨by simp, ?_, ?_, ?_, ?_, ?_⟩
  · rintro i h ⟨a, b, e⟩ c hc
    obtain rfl : c = it := by simpa using hc
    exact ⟨_, e, by intro v q; cases q⟩
  · rintro i h h' ⟨a, b, e⟩ k
    exact ⟨a, b, k it (by simp) _ e⟩
  · rintro X rfl rfl rfl hc i pins s σ H E I hf ⟨a, b, e⟩ ⟨hd, hi⟩
    obtain ⟨hs, es', ep', hdt, raw, sz, ent⟩ := frzT_raw I hd
    obtain ⟨rfl, rfl⟩ := dict_ep hod hdt
    have W := WalksT.rawItems (prog := X.prog) (w := X.w) (A := X.A) (I.ok.hd hc) it d hne es' ep'
    obtain ⟨⟨k, v⟩, hkv⟩ : ∃ p, kvs[i]? = some p := ⟨_, List.getElem?_eq_getElem hi⟩
    obtain ⟨q, u, ⟨hi2, ek, ev⟩, hq, rv⟩ := ent i k v hkv
    refine thn (item_of (elts := elts) (kk := kk) (tpos := tpos) (G := fun x y => x = .ref q ∧ y = v) W I hf (i := i) (by omega) ⟨⟨a, b, e⟩, raw⟩ ?_) ?_
    · rintro vals ⟨hi3, rfl⟩
      exact ⟨_, _, _, _, rfl, (show RelV (.ref q) _ by rw [ek]; exact rfl), (by rw [ev]; exact rv), rfl, rfl⟩
    · rintro r s1 ⟨u, rfl, hu⟩
      refine ⟨u, rfl, thn hu ?_⟩
      rintro _ s2 ⟨T, x, y, rfl, hT, hN, ⟨rfl, rfl⟩, I2, ⟨st', _⟩⟩
      refine ⟨.ref T, _, I2, rfl, ⟨T, q, k, y, hkv, rfl, hT, hq, rfl⟩, st', fun c hcm => ?_⟩
      obtain rfl : c = it := by simpa using hcm
      rw [upd_ne (Nat.ne_of_lt (Nat.lt_of_lt_of_le (Heap.lt_size e) hN))]
      exact (hf c hcm).1
  · rintro X rfl rfl rfl hc i pins s σ H E I hf ⟨a, b, e⟩ ⟨hd, rfl⟩
    obtain ⟨hs, es', ep', hdt, raw, sz, ent⟩ := frzT_raw I hd
    obtain ⟨rfl, rfl⟩ := dict_ep hod hdt
    have W := WalksT.rawItems (prog := X.prog) (w := X.w) (A := X.A) (I.ok.hd hc) it d hne es' ep'
    refine W.done s _ _ ?_ fun h' tk k => ⟨rfl, I.turnedL (t' := tk) (ch := [it]) k hf⟩
    rw [show es'.size = kvs.length from sz] at e ⊢
    exact ⟨⟨a, b, e⟩, raw⟩
  · rintro A i s Q E ⟨a, b, e⟩ h
    exact PySem.W.kcp_self e h

def iItemsT (td : TE) : TI := fun σ H R => td σ H fun x H1 => ∃ d o kvs, x = .ref d ∧ H1 d = some (.frz o (.dT kvs)) ∧ R (ItiT d o kvs) H1
theorem pi_itemsT {X : Cx} {e : Expr} {td : TE} {apos cpos : Pos} {elts : List Expr} {kk : Nat} {tpos : Pos} (pe : PE X e td) (b1 : attributeBase e "items" X.env (eval e X.env) = eval e X.env := by rfl) (b2 : (apos.endLine == cpos.line) = true := by rfl) :
    PI X (.Tuple elts kk tpos) (.Call (.Attribute e "items" apos) [] [] cpos) (iItemsT td) := by
  constructor
  intro pins s σ H R I h
  refine wpAny_Call_method (T := "dict") (id := "dict.items") b1 rfl b2 F.plainAttrs_dict F.slot_dict_items F.type_dict_items (thn (pe.run pins s σ H _ I h) ?_)
  rintro u t ⟨x, H1, I1, rx, d, o, kvs, rfl, hd, q⟩
  obtain rfl : u = Value.ref d := rx
  obtain ⟨hs, es, ep, hdt, raw, sz, ent⟩ := frzT_raw I1 hd
  obtain ⟨hs', hgd, hx, _⟩ := I1.frzT hd
  refine ⟨raw.typeIs, fun a ea => ?_, ?_⟩
  · cases ea
    exact ⟨o, hgd, hx.2.1⟩
  have hlt : d < t.heap.objs.size := Heap.lt_size hgd
  have I2 : Inv X pins σ H1 { t with heap := t.heap.push { cls := .type "dict_items", data := .fields #[.ref d] } } := I1.kept (t' := t.toks) fun b ob q => Heap.get?_push_of_some _ q
  have raw2 : (t.heap.push { cls := .type "dict_items", data := .fields #[.ref d] }).DictRaw d es ep := raw.at fun ob q => Heap.get?_push_of_some _ q
  refine method_meetsIn F.slot_dict_items F.entry_dict_items rfl (PySem.evalArgs_none ⟨rfl, raw.typeIs, F.args_dict_items_1 _, _, meets_dict_items_raw d hs, ⟨es, ep, raw⟩, ?_⟩)
  show wpAny (model X.prog X.w) X.A (pyIter (.ref t.heap.objs.size)) (PIE X pins σ (.Tuple elts kk tpos) R) X.xe { t with heap := t.heap.push { cls := .type "dict_items", data := .fields #[.ref d] } }
  refine wpAny_pyIter_items_raw (d := d) ⟨_, Heap.get?_push_size _ rfl, rfl, rfl⟩ raw2 (pi_one (tk := t.toks) I2 _ (turn_itemsT _ ?_ hdt) ⟨.none, .none, ?_⟩ q)
  · exact Nat.ne_of_lt (Nat.lt_of_lt_of_le hlt (by rw [Heap.size_push]; exact Nat.le_succ _))
  · exact Heap.get?_push_size _ rfl
end Sv
namespace Sv
open PySem PySem.Spec PyProof.Rows L2

/-- a key of two whole numbers -/
abbrev pk (p : Int × Int) : List L2.Key := [Sum.inl p.1, Sum.inl p.2]
theorem pk_inj {p q : Int × Int} (h : pk p = pk q) : p = q := by
  injection h with h1 h2
  injection h2 with h2 _
  exact Prod.ext (Sum.inl.inj h1) (Sum.inl.inj h2)
/-- the two whole numbers of the tracked tuple at a -/
def pairAt (H : Hp) (a : Addr) : Int × Int := match H a with
  | some (.tup [.int i, .int j]) => (i, j)
  | _ => (0, 0)
theorem pairAt_of {H : Hp} {a : Addr} {p : Int × Int} (h : H a = some (.tup [.int p.1, .int p.2])) : pairAt H a = p := by
  unfold pairAt
  rw [h]
def refOf : Value → Addr
  | .ref a => a
  | _ => 0

/-- sorted(d), d a dict whose keys are tuples of two small whole numbers -/
def rSortDT : List V → Hp → VK → Prop := fun vs H Q => ∃ (d : Addr) (kvs : List (List L2.Key × V)) (ks : List (Int × Int)), vs = [.ref d] ∧ Rd H d (.dT kvs) ∧ kvs.map (·.1) = ks.map pk ∧ ks.length < 64 ∧
  (∀ p ∈ ks, (0 ≤ p.1 ∧ p.1 < 64) ∧ (0 ≤ p.2 ∧ p.2 < 64)) ∧
  ∀ (qs : List (Addr × Int × Int)) (p : Addr), (∀ q ∈ qs, H q.1 = some (.tup [.int q.2.1, .int q.2.2])) → (qs.map (·.2)).Perm ks → (qs.map (·.2)).Pairwise (fun a b => a.1 * 64 + a.2 ≤ b.1 * 64 + b.2) →
    H p = none → Q (.ref p) (upd H p (.lst (qs.map fun q => V.ref q.1)))
theorem keys_at {H : Hp} : ∀ {kvs : List (List L2.Key × V)} {xs : List (List L2.Key × Addr × Value)} {ks : List (Int × Int)}, KT H kvs xs → kvs.map (·.1) = ks.map pk →
    xs.map (fun x => pairAt H x.2.1) = ks ∧ ∀ x ∈ xs, ∃ p ∈ ks, H x.2.1 = some (.tup [.int p.1, .int p.2])
  | [], _, [], .nil, _ => ⟨rfl, fun x hx => nomatch hx⟩
  | kv :: kvs, _, k :: ks, .cons h t, e => by
    injection e with e1 e2
    obtain ⟨i1, i2⟩ := keys_at t e2
    have hk := h.2.1
    have e1 : kv.1 = pk k := e1
    rw [e1] at hk
    have hk' : H _ = some (.tup [.int k.1, .int k.2]) := hk
    refine ⟨by rw [List.map_cons, i1, pairAt_of hk'], fun x hx => ?_⟩
    rcases List.mem_cons.mp hx with q | q
    · subst q; exact ⟨k, List.mem_cons_self, hk'⟩
    · obtain ⟨p, hp, z⟩ := i2 x q
      exact ⟨p, List.mem_cons_of_mem _ hp, z⟩
theorem cr_sortDT {X : Cx} (calm : X.calm = true) : CallR X (.builtin "sorted") rSortDT := by
  intro pins s σ H xs us Q I r h
  obtain ⟨d, kvs, ks, rfl, hd, hk, h64, hb, q⟩ := h
  obtain ⟨u, rfl, ru⟩ := vals1 r
  obtain rfl : u = Value.ref d := ru
  obtain ⟨z, lo, es0, pr, o, es, ep, ho, hx, hdt, he, _⟩ := (show ObjOk X.prog X.w H s.heap d (.dT kvs) from hd.ok I.hok)
  have l1 : es.size = es0.length := size_of_entries he
  have l2 : kvs.length = es0.length := Paired.length pr
  have l3 : kvs.length = ks.length := by
    have e := congrArg List.length hk
    rwa [List.length_map, List.length_map] at e
  obtain ⟨k1, k2⟩ := keys_at pr hk
  refine Calls.call_function_entry PyProof.Rows.kind_sorted PyProof.Rows.plain_sorted PyProof.Rows.entry_sorted (PyProof.Rows.args_sorted1 _) ?_
  unfold Builtin.«sorted»
  refine wpAny_bind (m := checkCount "sorted" 1 1 _) (wpAny_pure ?_)
  refine wpAny_bind (PySem.W.kdu_collect (A := X.A.in1) (kdl_raw lo hx hdt) (I.ok.hd calm) ho (by rw [sizeLine_eq]; omega) fun h' tk acc keep hacc => ?_)
  have ea : acc.toList = es0.map fun x => Value.ref x.2.1 := by
    apply List.ext_getElem?
    intro j
    have hl : acc.toList.length = es0.length := by rw [Array.length_toList, hacc.1]; exact l1
    rw [List.getElem?_map]
    cases hj : acc.toList[j]? with
    | none =>
      have := List.getElem?_eq_none_iff.mp hj
      rw [List.getElem?_eq_none (by omega)]; rfl
    | some v =>
      obtain ⟨en, hen, hv⟩ := hacc.2 j v (by rw [← Array.getElem?_toList]; exact hj)
      have qe := entry_at he j
      rw [hen] at qe
      cases hb : es0[j]? with
      | none => rw [hb] at qe; cases qe
      | some b =>
        rw [hb] at qe
        have e2 := Option.some.inj qe
        rw [hv, e2]; rfl
  have hal : acc.toList.length = ks.length := by rw [ea, List.length_map]; omega
  refine wpAny_bind (wpAny_newList ?_ (by rw [sizeLine_eq]; omega))
  have hoL : (h'.push (seqObj "list" acc.toList.toArray 0)).get? h'.objs.size = some (seqObj "list" acc.toList.toArray 0) := Heap.get?_push_size _ rfl
  show wpAny _ _ _ _ _ { s with heap := h'.push (seqObj "list" acc.toList.toArray 0), toks := tk }
  have I1 : Inv X pins σ H { s with heap := h', toks := tk } := I.kept keep
  have I2 : Inv X pins σ H { s with heap := h'.push (seqObj "list" acc.toList.toArray 0), toks := tk } := I1.kept (t' := tk) fun b ob e => Heap.get?_push_of_some _ e
  have tups : ∀ v ∈ acc.toList, ∃ b p, v = Value.ref b ∧ p ∈ ks ∧ H b = some (.tup [.int p.1, .int p.2]) ∧ TS.TupInts (h'.push (seqObj "list" acc.toList.toArray 0)) v [p.1, p.2] := fun v hv => by
    rw [ea] at hv
    obtain ⟨x, hx, rfl⟩ := List.mem_map.mp hv
    obtain ⟨p, hp, hH⟩ := k2 x hx
    exact ⟨_, p, rfl, hp, hH, tupI_raw I2 (ns := [p.1, p.2]) (.inl (.inl hH))⟩
  refine wpAny_bind (wpAny_holding (TS.call_sort_tups (s := { s with heap := h'.push (seqObj "list" acc.toList.toArray 0), toks := tk }) (d := 2) (B := 64) hoL (by omega) (by decide) (fun v hv => ?_) fun out a1 a2 => ?_))
  · obtain ⟨b, p, rfl, hp, hH, t⟩ := tups v hv
    refine ⟨_, t, rfl, fun m hm => ?_⟩
    obtain ⟨b1, b2⟩ := hb p hp
    simp only [List.mem_cons, List.not_mem_nil, or_false] at hm
    rcases hm with e | e <;> subst e
    · exact b1
    · exact b2
  · obtain ⟨e', he'⟩ := PyProof.Rows.sortedHeap_at (vs := acc.toList) (out := out) hoL
    have mem : ∀ u ∈ out.toList, u ∈ acc.toList := fun u hu => a1.mem_iff.mp hu
    let qs : List (Addr × Int × Int) := out.toList.map fun u => (refOf u, pairAt H (refOf u))
    have hrel : Vals (qs.map fun q => V.ref q.1) out.toList := by
      have : ∀ l : List Value, (∀ u ∈ l, u ∈ acc.toList) → Vals ((l.map fun u => (refOf u, pairAt H (refOf u))).map fun q => V.ref q.1) l := by
        intro l
        induction l with
        | nil => intro _; exact .nil
        | cons u l ih =>
          intro hl
          obtain ⟨b, p, rfl, _⟩ := tups u (hl u List.mem_cons_self)
          exact .cons rfl (ih fun v hv => hl v (List.mem_cons_of_mem _ hv))
      exact this _ mem
    have hlen : (qs.map fun q => V.ref q.1).length ≤ sizeLine := by
      rw [List.length_map, List.length_map, a1.length_eq, sizeLine_eq]; omega
    refine wpAny_pure ⟨_, rfl, .ref h'.objs.size, upd H h'.objs.size (.lst (qs.map fun q => V.ref q.1)), I1.laid (t' := tk) (fun b u e => ?_) (Nat.le_refl _)
      (show ObjOk X.prog X.w _ _ _ (.lst (qs.map fun q => V.ref q.1)) from ⟨hlen, out.toList, e', hrel, by rw [Array.toArray_toList]; exact he'⟩), rfl, q qs _ ?_ ?_ ?_ (I1.hok.fresh (Nat.le_refl _))⟩
    · have hb : b < h'.objs.size := Heap.lt_size e
      rw [PyProof.Rows.sortedHeap_old (Nat.ne_of_lt hb) (by rw [size_push']; exact Nat.lt_succ_of_lt hb)]
      exact Heap.get?_push_of_some _ e
    · intro q hq
      obtain ⟨u, hu, rfl⟩ := List.mem_map.mp hq
      obtain ⟨b, p, rfl, _, hH, _⟩ := tups u (mem u hu)
      show H b = some (.tup [.int (pairAt H b).1, .int (pairAt H b).2])
      rw [pairAt_of hH]; exact hH
    · rw [List.map_map, ← k1]
      have := a1.map (fun u => pairAt H (refOf u))
      rw [ea, List.map_map] at this
      exact this
    · rw [List.map_map, List.pairwise_map]
      refine List.Pairwise.imp_of_mem (fun {u v} hu hv h => ?_) a2
      obtain ⟨b, p, rfl, _, hH, t⟩ := tups u (mem u hu)
      obtain ⟨b', p', rfl, _, hH', t'⟩ := tups v (mem v hv)
      rw [t.ints, t'.ints, code_pair, code_pair] at h
      show (pairAt H b).1 * 64 + (pairAt H b).2 ≤ (pairAt H b').1 * 64 + (pairAt H b').2
      rw [pairAt_of hH, pairAt_of hH']
      exact h
end Sv
namespace Sv
open PySem PySem.Spec PyProof.Rows L2

/-! ### d.pop(k), the keys of d tuples, k there -/
def rPop1T : V → List V → Hp → VK → Prop := fun x xs H Q => ∃ (a b : Addr) (kvs : List (List L2.Key × V)) (k : List L2.Key) (v : V), x = .ref a ∧ xs = [.ref b] ∧ H a = some (.dT kvs) ∧ H b = some (.tup (k.map kV)) ∧ valV kvs k = some v ∧ Q v (upd H a (.dT (dropK kvs k)))
theorem kt_without {H : Hp} {k : List L2.Key} : ∀ {kvs : List (List L2.Key × V)} {xs : List (List L2.Key × Addr × Value)}, KT H kvs xs → KT H (dropK kvs k) (withoutH xs k)
  | [], _, .nil => .nil
  | p :: kvs, _, .cons (b := q) h t => by
    have ih := kt_without (k := k) t
    have e : decide (p.1 ≠ k) = decide (q.1 ≠ k) := by rw [h.1]
    unfold dropK withoutH at ih ⊢
    rw [List.filter_cons, List.filter_cons, e]
    split
    · exact .cons h ih
    · exact ih
theorem mt_pop1T {X : Cx} (room : X.A.units + 1 < cLine) : MtR X "dict.pop" rPop1T := by
  intro pins s σ H x xs v us Q I rx rxs h
  obtain ⟨a, b, kvs, k, v0, rfl, rfl, ha, hb, hv, q⟩ := h
  obtain rfl : v = Value.ref a := rx
  obtain ⟨u, rfl, ru⟩ := vals1 rxs
  obtain rfl : u = Value.ref b := ru
  obtain ⟨z, hd, es, rel, dd⟩ := dt_of I.hok ha
  obtain ⟨w', hw, rw'⟩ := RelO.some_of (v := v0) (o := (atKey es k).map (·.2)) (by rw [← hv]; exact rel.val k)
  obtain ⟨p, hp, hp2⟩ := Option.map_eq_some_iff.mp hw
  refine call_pop_heap (more := []) (.inl rfl) (PySem.F.args_dict_pop_2 _ _) (tupleKind_room_in1 room) (key_of I.hok hb) hd dd hp (fun h' dd' same => ?_) (by rw [← Paired.length rel]; exact z)
  obtain ⟨o, es', ep, h1, h2, h3, h4, _, h5⟩ := dd'
  refine ⟨v0, _, d_write I (by rw [ha]; exact True.intro) same ⟨o, h1⟩ (ob := .dT (dropK kvs k)) ?_, by rw [hp2]; exact rw', q⟩
  exact ⟨Nat.le_trans (dropK_le kvs k) z, hd, _, (kt_without rel).keeps (fun c ys e => by rw [upd_ne (ne_of e ha (by intro z; cases z))]; exact e), o, es', ep, h1, h2, h3, h4, h5⟩

/-! ### d.get(k) of a written dict, its keys texts -/
/-- at d a dict of the text; what it holds at z: v, None where there is none -/
def KGet (K : PySem.W.Frag) (w : World) (d : Addr) (z : Str) (v : V) : Prop := ∃ es n r, KDict K w d es n ∧ PySem.W.nsIn K d z = some r ∧ RelV v (r.getD .none)
def tKGet (K : PySem.W.Frag) (w : World) (td ty : TE) : TE := fun σ H Q => td σ H fun x H1 => ∃ d, x = .ref d ∧ (∃ es n, KDict K w d es n) ∧ ty σ H1 fun y H2 => ∃ z v, y = .str z ∧ KGet K w d z v ∧ Q v H2
theorem pe_kget {X : Cx} {o e : Expr} {apos cpos : Pos} {td ty : TE} (po : PE X o td) (pe : PE X e ty) (m : M1 X o "get" apos e cpos) : PE X (.Call (.Attribute o "get" apos) [e] [] cpos) (tKGet X.K X.w td ty) := by
  constructor
  intro pins s σ H Q I h
  refine wpAny_Call_method m.base m.few m.line PySem.F.plainAttrs_dict PySem.F.slot_dict_get PySem.F.type_dict_get (thn (po.run pins s σ H _ I h) ?_)
  rintro u s1 ⟨x, H1, I1, rx, d, rfl, ⟨es, n, D⟩, q1⟩
  obtain rfl : u = Value.ref d := rx
  have map1 := PySem.W.mapOf_K (prog := X.prog) (w := X.w) I1.kIn D.at_ D.lit
  refine ⟨map1.typeIs, map1.noDict, ?_⟩
  rw [m.trees]
  refine Calls.callWith_builtin rfl (Calls.evalArgs_plain (Calls.spliced_cons (thn (pe.run pins s1 σ H1 _ I1 q1) fun iv s2 ⟨y, H2, I2, ry, z, v, ey, g, q2⟩ => Calls.spliced_nil ?_)))
  subst ey
  obtain ⟨t, rfl⟩ := ry
  obtain ⟨es2, n2, r, D2, e2, rv⟩ := g
  have map2 := PySem.W.mapOf_K (prog := X.prog) (w := X.w) I2.kIn D2.at_ D2.lit
  refine call_meetsIn PySem.F.slot_dict_get map2.typeIs PySem.F.entry_dict_get (PySem.F.args_dict_get_2 _ _) (meets_dict_get (strKind X.prog X.w) d (PySem.strKind_is X.prog X.w z t) D2.low) ⟨_, map2, ?_⟩
  show EP X pins σ Q _ _
  refine ⟨v, H2, I2.tok _, ?_, q2⟩
  rw [PySem.W.find_K D2.at_ e2]
  exact rv
end Sv
namespace Sv
open PySem PySem.Spec PyProof.Rows L2

/-! ### xs.extend(t), t a tuple -/
section
open PySem.Sem (wp)
theorem meets_extend_tup (l : Addr) (its : Array Value) (n : Nat) (b : Addr) (ts : Array Value) (m : Nat) (od : Option Addr) (sl : Array (Option Value)) (h1 : ¬(!its.isEmpty && Builtin.List.listTooLong (its.size + ts.size)) = true) (h2 : its.size ≤ sizeLine) (h3 : its.size + ts.size ≤ sizeLine + 1) :
    Meets (Builtin.«list.extend» ⟨[.ref l, .ref b], []⟩) (fun _ R s => s.heap.get? l = some { cls := .type "list", dict := none, data := .seq its n, slots := #[] } ∧ s.heap.get? b = some { cls := .type "tuple", dict := od, data := .seq ts m, slots := sl } ∧
      R (.ok (.ret Value.none)) { s with heap := s.heap.update l (Obj.mapSeq fun x => x ++ ts), toks := s.toks }) := by
  refine .of_wp fun prog w A R s h => ?_
  obtain ⟨hp, g, d, tk, os⟩ := s
  obtain ⟨hl, hb, h⟩ := h
  have f1 := PySem.AutoSeq1.idx_int
  have f2 := PySem.AutoSeq1.sub_tuple_tuple
  have f3 := PySem.AutoSeq1.sub_list_list
  have f4 := PySem.AutoSeq1.sub_tuple_list
  have f5 := PySem.AutoSeq1.sub_list_tuple
  have big : (its ++ ts).size ≤ sizeLine + 1 := by rw [Array.size_append]; exact h3
  wp_walk using (wpAny_updateSeq hl rfl (hz := h2) (_hz' := big)), PySem.AutoSeq1.wpAny_loadPart' hl, PySem.AutoSeq1.wpAny_loadPart' hb
  exact ⟨_, rfl, h⟩
end
def rExtendT (K : PySem.W.Frag) : V → List V → Hp → VK → Prop := fun x vs H Q => ∃ l b xs zs, x = .ref l ∧ vs = [.ref b] ∧ H l = some (.lst xs) ∧ SqT K H b zs ∧ xs.length + zs.length ≤ sizeLine ∧ Q .non (upd H l (.lst (xs ++ zs)))
theorem mt_extendT {X : Cx} : MtM X "list.extend" (rExtendT X.K) := by
  intro pins s σ H x vs v us Q I rx rv h
  obtain ⟨l, b, xs, zs, rfl, rfl, hl, hb, hz, q⟩ := h
  obtain rfl : v = Value.ref l := rx
  obtain ⟨u, rfl, ru⟩ := vals1 rv
  obtain rfl : u = Value.ref b := ru
  obtain ⟨z, its, n, r, el, e⟩ := I.lstM hl
  obtain ⟨ts, r2, ⟨⟨oc, od, odt, osl⟩, e2, c2, m, d2⟩, z2⟩ := I.tuple hb
  have c2 : oc = .type "tuple" := c2
  have d2 : odt = .seq ts.toArray m := d2
  subst c2 d2
  have el2 := r2.length
  have few : its.toArray.size + ts.toArray.size ≤ sizeLine := by rw [List.size_toArray, List.size_toArray]; omega
  refine call_meets F.slot_list_extend ⟨_, e, rfl⟩ F.entry_list_extend (F.args_list_extend_2 _ _)
    (meets_extend_tup l its.toArray n b ts.toArray m od osl (by rw [notLongL few, Bool.and_false]; exact Bool.false_ne_true) (by rw [List.size_toArray]; omega) (by omega)) ⟨e, e2, ?_⟩
  exact ⟨.non, _, I.lset (its' := its ++ ts) hl e (by simp) (r.append r2) (by rw [List.length_append]; omega), rfl, q⟩
end Sv
namespace Sv
open PySem PySem.Spec PyProof.Rows L2
abbrev St0 := Vbxlaf.State
abbrev Val := Vbxlaf.Value

/-! ## the text by places -/
def top (i : Nat) : Stmt := PySem.Challenge.pw_surveyline_s01_answers.main.body.getD i (.Pass ⟨0, 0, 0, 0⟩)
abbrev gm (j : Nat) : Stmt := inClass (top 11) j
abbrev sm (j : Nat) : Stmt := inClass (top 33) j

/-! ## attributes by places -/
theorem lk_zip {f : Str} : ∀ (ks : List Str) (vs : List V) (i : Nat), ks.findIdx? (fun k => f == k) = some i → ks.length = vs.length → (ks.zip vs).lookup f = vs[i]?
  | [], _, i, h, _ => by cases h
  | k :: ks, [], _, _, h => by cases h
  | k :: ks, v :: vs, i, h, hl => by
    rw [List.findIdx?_cons] at h
    rw [List.zip_cons_cons]
    by_cases e : (f == k) = true
    · rw [if_pos e] at h
      cases h
      simp only [List.lookup, e]; rfl
    · have e' : (f == k) = false := by simpa using e
      rw [if_neg e] at h
      obtain ⟨j, hj, rfl⟩ := Option.map_eq_some_iff.mp h
      simp only [List.lookup, e']
      rw [lk_zip ks vs j hj (by simpa using hl)]
      rfl
theorem lk_none {f : Str} : ∀ (ks : List Str) (vs : List V), ks.findIdx? (fun k => f == k) = none → (ks.zip vs).lookup f = none
  | [], _, _ => rfl
  | k :: ks, [], _ => rfl
  | k :: ks, v :: vs, h => by
    rw [List.findIdx?_cons] at h
    rw [List.zip_cons_cons]
    by_cases e : (f == k) = true
    · rw [if_pos e] at h; cases h
    · have e' : (f == k) = false := by simpa using e
      rw [if_neg e] at h
      simp only [List.lookup, e']
      exact lk_none ks vs (Option.map_eq_none_iff.mp h)
theorem put_zip {f : Str} {v : V} : ∀ (ks : List Str) (vs : List V) (i : Nat), ks.findIdx? (fun k => f == k) = some i → ks.length = vs.length → putF f v (ks.zip vs) = ks.zip (vs.set i v)
  | [], _, i, h, _ => by cases h
  | k :: ks, [], _, _, h => by cases h
  | k :: ks, w :: vs, i, h, hl => by
    rw [List.findIdx?_cons] at h
    rw [List.zip_cons_cons]
    by_cases e : (f == k) = true
    · rw [if_pos e] at h
      cases h
      have e2 : k = f := (eq_of_beq e).symm
      show (if k = f then (k, v) :: ks.zip vs else _) = _
      rw [if_pos e2]; rfl
    · have e2 : ¬ k = f := fun q => e (by rw [q]; exact beq_self_eq_true f)
      rw [if_neg e] at h
      obtain ⟨j, hj, rfl⟩ := Option.map_eq_some_iff.mp h
      show (if k = f then _ else (k, w) :: putF f v (ks.zip vs)) = _
      rw [if_neg e2, put_zip ks vs j hj (by simpa using hl)]; rfl
theorem put_new {f : Str} {v : V} : ∀ (ks : List Str) (vs : List V), ks.findIdx? (fun k => f == k) = none → ks.length = vs.length → putF f v (ks.zip vs) = (ks ++ [f]).zip (vs ++ [v])
  | [], [], _, _ => rfl
  | [], _ :: _, _, h => by cases h
  | k :: ks, [], _, h => by cases h
  | k :: ks, w :: vs, h, hl => by
    rw [List.findIdx?_cons] at h
    by_cases e : (f == k) = true
    · rw [if_pos e] at h; cases h
    · have e2 : ¬ k = f := fun q => e (by rw [q]; exact beq_self_eq_true f)
      rw [if_neg e] at h
      show (if k = f then _ else (k, w) :: putF f v (ks.zip vs)) = _
      rw [if_neg e2, put_new ks vs (Option.map_eq_none_iff.mp h) (by simpa using hl)]; rfl

def gK : List Str := ["created", "uses", "slots", "fields", "stamps", "slot_changed", "changed_objects", "new_names"]
def sK : List Str := ["graph", "made", "last_reached"]
def lK : List Str := ["stamp", "rooted", "sources"]

/-! ## values -/
/-- the two whole numbers of a value -/
def vp : Val → Int × Int
  | .nothing => (0, 0)
  | .object n => (1, n)
  | .foreign n => (2, n)
theorem vp_inj : ∀ {u v : Val}, vp u = vp v → u = v
  | .nothing, .nothing, _ => rfl
  | .nothing, .object _, h => by cases h
  | .nothing, .foreign _, h => by cases h
  | .object _, .nothing, h => by cases h
  | .object n, .object m, h => by
    have h : ((1 : Int), (n : Int)) = (1, (m : Int)) := h
    have e := congrArg Prod.snd h
    have e : (n : Int) = m := e
    rw [Int.ofNat.inj e]
  | .object _, .foreign _, h => by
    have e := congrArg Prod.fst h
    have e : (1 : Int) = 2 := e
    omega
  | .foreign _, .nothing, h => by cases h
  | .foreign _, .object _, h => by
    have e := congrArg Prod.fst h
    have e : (2 : Int) = 1 := e
    omega
  | .foreign n, .foreign m, h => by
    have h : ((2 : Int), (n : Int)) = (2, (m : Int)) := h
    have e := congrArg Prod.snd h
    have e : (n : Int) = m := e
    rw [Int.ofNat.inj e]
abbrev pt (p : Int × Int) : List V := [.int p.1, .int p.2]
/-- x is a pair that stands in H -/
def PR (H : Hp) (x : V) (p : Int × Int) : Prop := ∃ a, x = .ref a ∧ H a = some (.tup (pt p))
def VR (H : Hp) (x : V) (v : Val) : Prop := PR H x (vp v)
abbrev VRs (H : Hp) : List V → List Val → Prop := Paired (VR H)
/-- tuples stay -/
def Tups (H H' : Hp) : Prop := ∀ b xs, H b = some (.tup xs) → H' b = some (.tup xs)
theorem Tups.of_same {H H' : Hp} (h : Same H H') : Tups H H' := fun b xs e => h b _ e
theorem Tups.trans {H H1 H2 : Hp} (a : Tups H H1) (b : Tups H1 H2) : Tups H H2 := fun c xs e => b c xs (a c xs e)
theorem Tups.put {H : Hp} {p : Addr} {o u : HO} (h : H p = some u) (d : ∀ xs, u ≠ .tup xs) : Tups H (upd H p o) := fun b xs e => by rw [upd_ne (ne_of e h (fun q => d xs q.symm))]; exact e
theorem Tups.fresh {H : Hp} {p : Addr} {o : HO} (h : H p = none) : Tups H (upd H p o) := fun b xs e => by rw [upd_ne (ne_of_none e h)]; exact e
theorem Same.fresh {H : Hp} {p : Addr} {o : HO} (h : H p = none) : Same H (upd H p o) := fun b xs e => by rw [upd_ne (ne_of_none e h)]; exact e
theorem PR.keep {H H' : Hp} {x : V} {p : Int × Int} (h : PR H x p) (t : Tups H H') : PR H' x p := let ⟨a, e, q⟩ := h; ⟨a, e, t _ _ q⟩
theorem VR.keep {H H' : Hp} {x : V} {v : Val} (h : VR H x v) (t : Tups H H') : VR H' x v := PR.keep h t
theorem VRs.keep {H H' : Hp} {xs : List V} {vs : List Val} (h : VRs H xs vs) (t : Tups H H') : VRs H' xs vs := Paired.mapP h fun _ _ q => q.keep t
theorem PR.inj {H : Hp} {x : V} {p q : Int × Int} (h : PR H x p) (h' : PR H x q) : p = q := by
  obtain ⟨a, rfl, e⟩ := h
  obtain ⟨b, e2, e3⟩ := h'
  cases e2
  rw [e] at e3
  have := Option.some.inj e3
  injection this with z
  injection z with z1 z2
  injection z2 with z2 _
  injection z1 with z1
  injection z2 with z2
  exact Prod.ext z1 z2
theorem VRs.length {H : Hp} {xs : List V} {vs : List Val} (h : VRs H xs vs) : xs.length = vs.length := Paired.length h
theorem paired_at {α β : Type} {R : α → β → Prop} : ∀ {l : List α} {m : List β}, Paired R l m → ∀ {i : Nat} {b : β}, m[i]? = some b → ∃ a, l[i]? = some a ∧ R a b
  | _, _, .nil, i, b, h => by simp at h
  | _, _, .cons r t, 0, b, h => by
    have e := Option.some.inj h
    exact ⟨_, rfl, e ▸ r⟩
  | _, _, .cons r t, i + 1, b, h => paired_at t (i := i) (b := b) h
theorem paired_set {α β : Type} {R : α → β → Prop} {a : α} {b : β} (r : R a b) : ∀ {l : List α} {m : List β} (i : Nat), Paired R l m → Paired R (l.set i a) (m.set i b)
  | _, _, _, .nil => .nil
  | _, _, 0, .cons _ t => .cons r t
  | _, _, i + 1, .cons q t => .cons q (paired_set r i t)
theorem paired_app {α β : Type} {R : α → β → Prop} : ∀ {l l' : List α} {m m' : List β}, Paired R l m → Paired R l' m' → Paired R (l ++ l') (m ++ m')
  | _, _, _, _, .nil, s => s
  | _, _, _, _, .cons r t, s => .cons r (paired_app t s)
theorem paired_rep {α β : Type} {R : α → β → Prop} {a : α} {b : β} (r : R a b) : ∀ n, Paired R (List.replicate n a) (List.replicate n b)
  | 0 => .nil
  | n + 1 => .cons r (paired_rep r n)
theorem paired_mem {α β : Type} {R : α → β → Prop} : ∀ {l : List α} {m : List β}, Paired R l m → ∀ a ∈ l, ∃ b ∈ m, R a b
  | _, _, .nil, a, h => nomatch h
  | _, _, .cons r t, a, h => by
    rcases List.mem_cons.mp h with e | e
    · exact ⟨_, List.mem_cons_self, e ▸ r⟩
    · obtain ⟨b, hb, q⟩ := paired_mem t a e
      exact ⟨b, List.mem_cons_of_mem _ hb, q⟩

/-! ## what is handed from def to def -/
section
variable (P : Program) (w : World) (K : PySem.W.Frag) (mg : Str → Option Value) (base : Heap)
/-- the def x of the top keeps the promise sp at level k -/
def Callee (k : Nat) (x : Str) (ps : List Str) (sp : Sp) : Prop := ∃ f fd, FnOk P w K mg base CX0 k f fd ps sp ∧ mg x = some (.ref f) ∧ PySem.W.keepIn K (.ref f) = true ∧ Binds K fd ps []
/-- the method m of the class at C does -/
def Metd (C : Addr) (k : Nat) (m : Str) (ps : List Str) (sp : Sp) : Prop := ∃ f fd, FnOk P w K mg base CX0 k f fd ps sp ∧ Meth K C m f ∧ Binds K fd ps []
end
/-- a name of the top that holds a whole number -/
def Num (mg : Str → Option Value) (x : Str) (i : Int) : Prop := ∃ t, mg x = some (.int i t)
theorem pe_num {X : Cx} {x : Str} {i : Int} {pos : Pos} (h : Num X.mg x i) (g : Gl X x := by rfl) (h1 : (x == ("__debug__" : Str)) = false := by decide) : PE X (.Name x pos) (tC (.int i)) := by
  obtain ⟨t, e⟩ := h
  exact pe_glob (v := .int i) g e ⟨t, rfl⟩ h1

/-- what the top has written -/
structure Txt (K : PySem.W.Frag) (mg : Str → Option Value) (CG CL CS : Addr) : Prop where
  cG : Cls K CG
  cL : Cls K CL
  cS : Cls K CS
  aG : ∀ f ∈ gK, NoAttr K CG f
  aS : ∀ f ∈ sK, NoAttr K CS f
  aL : ∀ f ∈ lK, NoAttr K CL f
  gG : mg "Graph" = some (.ref CG)
  gL : mg "Line" = some (.ref CL)
  gS : mg "Surveys" = some (.ref CS)
  n1 : Num mg "OUT_OF_RANGE" (-1)
  n3 : Num mg "NOT_IN_SLOT" (-3)
  n5 : Num mg "NO_SUCH_FIELD" (-5)
  n6 : Num mg "NO_SUCH_NAME" (-6)
  n7 : Num mg "NO_SUCH_SURVEY" (-7)
  n8 : Num mg "TOO_MANY" (-8)
  nN : Num mg "NOTHING" 0
  nO : Num mg "OBJECT" 1
  nF : Num mg "FOREIGN" 2
  nC : Num mg "SLOT_COUNT" 6
  nM : Num mg "MOST_OBJECTS" 40
  nV : Num mg "MOST_SURVEYS" 30
  nS : Num mg "SLOTS" 0
  nQ : Num mg "FIRST_QUESTION" 10
  bLen : mg "len" = none
  bSorted : mg "sorted" = none
  bList : mg "list" = none
  bAny : mg "any" = none
  bSum : mg "sum" = none
  bEnum : mg "enumerate" = none
  bZip : mg "zip" = none
end Sv
namespace Sv
open PySem PySem.Spec PyProof.Rows L2

/-- what an object of Graph holds, besides what the specification's state tells -/
structure Gr where
  g : Addr
  gx : Addr
  sl : Addr
  fd : Addr
  sd : Addr
  cd : Addr
  nd : Addr
  fa : Nat → Addr
  sc : Bool
  ns : Sl.NS
  cs : List Nat
  ms : List (Int × Int)
def Gr.vals (A : Gr) (made uses : Nat) : List V := [.int made, .int uses, .ref A.sl, .ref A.fd, .ref A.sd, .bl A.sc, .ref A.cd, .ref A.nd]
abbrev fkv (A : Gr) (st : St0) : List (L2.Key × V) := st.objects.map fun o => (Sum.inl (o.number : Int), V.ref (A.fa o.number))
abbrev nkv (l : Sl.NS) : List (List L2.Key × V) := l.map fun p => (pk p.1, V.int p.2)
abbrev tkv (l : List (Int × Int)) : List (List L2.Key × V) := l.map fun p => (pk p, V.bl true)
abbrev one (n : Nat) : Int × Int := (1, (n : Int))
/-- the list of fields of an object that is there -/
def Flds (H : Hp) (a : Addr) (vs : List Val) : Prop := ∃ xs, H a = some (.lst xs) ∧ VRs H xs vs

structure GInv (CG : Addr) (H : Hp) (A : Gr) (st : St0) : Prop where
  ob : H A.g = some (.ins CG A.gx (gK.zip (A.vals st.made st.uses)))
  slots : Flds H A.sl st.slots
  fd : H A.fd = some (.dK (fkv A st))
  fl : ∀ o ∈ st.objects, Flds H (A.fa o.number) o.fields
  inj : ∀ o ∈ st.objects, ∀ o' ∈ st.objects, A.fa o.number = A.fa o'.number → o.number = o'.number
  fs : ∀ o ∈ st.objects, A.fa o.number ≠ A.sl
  sd : H A.sd = some (.dT (nkv A.ns))
  sp : A.ns.Perm (Sl.nmOf st)
  cd : H A.cd = some (.dT (tkv (A.cs.map one)))
  cn : A.cs.Nodup
  cm : ∀ n, n ∈ A.cs ↔ n ∈ st.changed
  nd : H A.nd = some (.dT (tkv A.ms))
  nn : A.ms.Nodup
  nl : ∀ p ∈ A.ms, (p.1 = 1 ∧ 1 ≤ p.2 ∧ p.2 ≤ 40) ∨ (p.1 = 2 ∧ 1 ≤ p.2 ∧ p.2 ≤ 20)
  nm : st.surveys ≠ [] → ∀ e ∈ st.entries, (one e.number ∈ A.ms ↔ Vbxlaf.recordedReach st e.number = none)
  sc : st.surveys ≠ [] → A.sc = st.slotsChanged
  d1 : A.sd ≠ A.cd
  d2 : A.sd ≠ A.nd
  d3 : A.cd ≠ A.nd

def VOk (st : St0) : Val → Prop
  | .object n => Vbxlaf.exists_ st n = true
  | .foreign n => 1 ≤ n ∧ n ≤ 20
  | .nothing => True
theorem VOk.ok {st : St0} {v : Val} (h : VOk st v) : Sl.OkV st v := by cases v <;> first | exact h | exact True.intro
/-- what holds of every state that is come to -/
structure Wf (st : St0) : Prop where
  six : st.slots.length = 6
  inc : Sl.Inc (st.objects.map (·.number))
  low : ∀ o ∈ st.objects, 1 ≤ o.number ∧ o.number ≤ st.made
  few : st.made ≤ 40
  four : ∀ o ∈ st.objects, o.fields.length ≤ 4
  sok : ∀ v ∈ st.slots, VOk st v
  fok : ∀ o ∈ st.objects, ∀ v ∈ o.fields, VOk st v
  einc : Sl.Inc (st.entries.map (·.number))
  eok : ∀ e ∈ st.entries, Vbxlaf.exists_ st e.number = true
  iinc : Sl.Inc (st.imports.map (·.number))
  iok : ∀ e ∈ st.imports, 1 ≤ e.number ∧ e.number ≤ 20
  chg : ∀ n ∈ st.changed, n ≤ 40
  svs : st.surveys.length ≤ 30
  kept : ∀ p ∈ st.recordedEntries, ∃ e ∈ st.entries, e.number = p.1

/-- Flds stays where the list and the tuples stay -/
theorem Flds.keep {H H' : Hp} {a : Addr} {vs : List Val} (h : Flds H a vs) (e : ∀ xs, H a = some (.lst xs) → H' a = some (.lst xs)) (t : Tups H H') : Flds H' a vs :=
  let ⟨xs, h1, h2⟩ := h; ⟨xs, e xs h1, VRs.keep h2 t⟩

section
variable {CG : Addr} {H H' : Hp} {A : Gr} {st : St0}
/-- all that was tracked stays -/
theorem GInv.same (I : GInv CG H A st) (s : Same H H') : GInv CG H' A st :=
  { I with
    ob := s _ _ I.ob
    slots := I.slots.keep (fun xs e => s _ _ e) (.of_same s)
    fd := s _ _ I.fd
    fl := fun o ho => (I.fl o ho).keep (fun xs e => s _ _ e) (.of_same s)
    sd := s _ _ I.sd
    cd := s _ _ I.cd
    nd := s _ _ I.nd }

theorem gk_get (A : Gr) (m u : Nat) {f : Str} {v : V} (i : Nat) (h : gK.findIdx? (fun k => f == k) = some i) (hv : (A.vals m u)[i]? = some v) : (gK.zip (A.vals m u)).lookup f = some v := by
  rw [lk_zip gK (A.vals m u) i h rfl]; exact hv
theorem ixG (i : Nat) {f : Str} (h : gK.findIdx? (fun k => f == k) = some i) : f ∈ gK := by
  obtain ⟨hi, e, _⟩ := List.findIdx?_eq_some_iff_getElem.mp h
  have : f = gK[i] := eq_of_beq e
  rw [this]; exact List.getElem_mem hi
theorem kG_created : gK.findIdx? (fun k => ("created" : Str) == k) = some 0 := by decide +kernel
theorem kG_uses : gK.findIdx? (fun k => ("uses" : Str) == k) = some 1 := by decide +kernel
theorem kG_slots : gK.findIdx? (fun k => ("slots" : Str) == k) = some 2 := by decide +kernel
theorem kG_fields : gK.findIdx? (fun k => ("fields" : Str) == k) = some 3 := by decide +kernel
theorem kG_stamps : gK.findIdx? (fun k => ("stamps" : Str) == k) = some 4 := by decide +kernel
theorem kG_sc : gK.findIdx? (fun k => ("slot_changed" : Str) == k) = some 5 := by decide +kernel
theorem kG_co : gK.findIdx? (fun k => ("changed_objects" : Str) == k) = some 6 := by decide +kernel
theorem kG_nn : gK.findIdx? (fun k => ("new_names" : Str) == k) = some 7 := by decide +kernel
end

theorem Wf.nok {st : St0} (W : Wf st) : Sl.NOk st where
  einc := W.einc
  elow := fun e he => by
    obtain ⟨o, ho, q⟩ := List.any_eq_true.mp (W.eok e he)
    have := W.low o ho
    have q : o.number = e.number := eq_of_beq q
    have := W.few
    omega
  iinc := W.iinc
  ilow := W.iok
theorem valV_nkv (l : Sl.NS) (p : Int × Int) : valV (nkv l) (pk p) = (Sl.gets l p).map V.int := by
  induction l with
  | nil => rfl
  | cons q l ih =>
    by_cases e : q.1 = p
    · have e1 : valV (nkv (q :: l)) (pk p) = some (.int q.2) := valV_pos (p := (pk q.1, V.int q.2)) (by rw [e])
      have e2 : Sl.gets (q :: l) p = some q.2 := by simp [Sl.gets, List.find?_cons, e]
      rw [e1, e2]; rfl
    · have e1 : valV (nkv (q :: l)) (pk p) = valV (nkv l) (pk p) := valV_neg (p := (pk q.1, V.int q.2)) (fun z => e (pk_inj z))
      have e2 : Sl.gets (q :: l) p = Sl.gets l p := by simp [Sl.gets, List.find?_cons, e]
      rw [e1, e2, ih]
theorem valV_tkv (l : List (Int × Int)) (p : Int × Int) : valV (tkv l) (pk p) = if p ∈ l then some (.bl true) else none := by
  induction l with
  | nil => rfl
  | cons q l ih =>
    by_cases e : q = p
    · have e1 : valV (tkv (q :: l)) (pk p) = some (.bl true) := valV_pos (p := (pk q, V.bl true)) (by rw [e])
      rw [e1, if_pos (by rw [e]; exact List.mem_cons_self)]
    · have e1 : valV (tkv (q :: l)) (pk p) = valV (tkv l) (pk p) := valV_neg (p := (pk q, V.bl true)) (fun z => e (pk_inj z))
      rw [e1, ih]
      by_cases c : p ∈ l
      · rw [if_pos c, if_pos (List.mem_cons_of_mem _ c)]
      · rw [if_neg c, if_neg]
        intro m
        rcases List.mem_cons.mp m with z | z
        · exact e z.symm
        · exact c z
theorem any_keys {κ : Type} [DecidableEq κ] (kvs : List (κ × V)) (k : κ) : (kvs.any fun kv => decide (kv.1 = k)) = true ↔ k ∈ kvs.map (·.1) := by
  rw [List.any_eq_true, List.mem_map]
  constructor
  · rintro ⟨x, hx, e⟩; exact ⟨x, hx, of_decide_eq_true e⟩
  · rintro ⟨x, hx, e⟩; exact ⟨x, hx, decide_eq_true e⟩
theorem mem_pk {l : List (Int × Int)} {p : Int × Int} : pk p ∈ l.map pk ↔ p ∈ l := by
  constructor
  · intro m
    obtain ⟨q, hq, e⟩ := List.mem_map.mp m
    rw [← pk_inj e]; exact hq
  · intro m; exact List.mem_map.mpr ⟨p, m, rfl⟩
theorem putK_nkv (l : Sl.NS) (p : Int × Int) (s : Int) : putK (nkv l) (pk p) (.int s) = nkv (Sl.puts l p s) := by
  have hm : (pk p ∈ (nkv l).map (·.1)) ↔ p ∈ l.map (·.1) := by
    have : (nkv l).map (·.1) = (l.map (·.1)).map pk := by rw [List.map_map, List.map_map]; rfl
    rw [this]; exact mem_pk
  unfold putK Sl.puts
  by_cases c : p ∈ l.map (·.1)
  · rw [if_pos ((any_keys _ _).mpr (hm.mpr c)), if_pos c]
    unfold nkv
    rw [List.map_map, List.map_map]
    apply List.map_congr_left
    intro q _
    show (if pk q.1 = pk p then _ else _) = _
    by_cases e : q.1 = p
    · rw [if_pos (by rw [e])]
      show _ = ((fun (z : (Int × Int) × Int) => (pk z.1, V.int z.2)) (if q.1 = p then (p, s) else q))
      rw [if_pos e]
      show (pk q.1, V.int s) = (pk p, V.int s)
      rw [e]
    · rw [if_neg (fun z => e (pk_inj z))]
      show _ = ((fun (z : (Int × Int) × Int) => (pk z.1, V.int z.2)) (if q.1 = p then (p, s) else q))
      rw [if_neg e]
  · rw [if_neg (fun z => c (hm.mp ((any_keys _ _).mp z))), if_neg c]
    first | (unfold nkv; rw [List.map_append]; rfl) | (unfold tkv; rw [List.map_append]; rfl)
/-- a set grows by one, unless it is there -/
def adds {α : Type} [DecidableEq α] (l : List α) (a : α) : List α := if a ∈ l then l else l ++ [a]
theorem mem_adds {α : Type} [DecidableEq α] {l : List α} {a x : α} : x ∈ adds l a ↔ x ∈ l ∨ x = a := by
  unfold adds
  split
  · rename_i c
    exact ⟨.inl, fun h => h.elim id fun e => e ▸ c⟩
  · rw [List.mem_append, List.mem_singleton]
theorem nodup_adds {α : Type} [DecidableEq α] {l : List α} {a : α} (h : l.Nodup) : (adds l a).Nodup := by
  unfold adds
  split
  · exact h
  · rename_i c
    exact List.nodup_append.mpr ⟨h, by simp, fun x hx y hy e => by rw [List.mem_singleton] at hy; subst hy; subst e; exact c hx⟩
theorem putK_tkv (l : List (Int × Int)) (p : Int × Int) : putK (tkv l) (pk p) (.bl true) = tkv (adds l p) := by
  have hm : (pk p ∈ (tkv l).map (·.1)) ↔ p ∈ l := by
    have : (tkv l).map (·.1) = l.map pk := by rw [List.map_map]; rfl
    rw [this]; exact mem_pk
  unfold putK adds
  by_cases c : p ∈ l
  · rw [if_pos ((any_keys _ _).mpr (hm.mpr c)), if_pos c, List.map_map]
    apply List.map_congr_left
    intro q _
    show (if pk q = pk p then _ else _) = _
    split <;> rfl
  · rw [if_neg (fun z => c (hm.mp ((any_keys _ _).mp z))), if_neg c]
    first | (unfold nkv; rw [List.map_append]; rfl) | (unfold tkv; rw [List.map_append]; rfl)
theorem map_adds {l : List Nat} {n : Nat} : adds (l.map one) (one n) = (adds l n).map one := by
  have : one n ∈ l.map one ↔ n ∈ l := by
    constructor
    · intro m
      obtain ⟨q, hq, e⟩ := List.mem_map.mp m
      have := congrArg Prod.snd e
      have : q = n := Int.ofNat.inj this
      rw [← this]; exact hq
    · intro m; exact List.mem_map.mpr ⟨n, m, rfl⟩
  unfold adds
  by_cases c : n ∈ l
  · rw [if_pos c, if_pos (this.mpr c)]
  · rw [if_neg c, if_neg (fun z => c (this.mp z)), List.map_append]; rfl
section
variable {CG : Addr} {H H' : Hp} {A : Gr} {st : St0}
theorem GInv.stamp (I : GInv CG H A st) (W : Sl.NOk st) (p : Int × Int) : valV (nkv A.ns) (pk p) = (Sl.stI st p).map V.int := by
  rw [valV_nkv, Sl.gets_perm I.sp (Sl.nm_nodup W)]; rfl
theorem GInv.nsfew (I : GInv CG H A st) (W : Sl.NOk st) : A.ns.length ≤ 60 := by
  rw [I.sp.length_eq]; exact Sl.nm_few W
theorem GInv.msfew (I : GInv CG H A st) : A.ms.length ≤ 60 := Sl.few_names I.nn I.nl
theorem GInv.csfew (I : GInv CG H A st) (W : Wf st) : A.cs.length ≤ 41 := by
  have := Sl.len_le_of_sub (U := List.range 41) I.cn (fun n hn => List.mem_range.mpr (by have := W.chg n ((I.cm n).mp hn); omega))
  simpa using this
theorem Wf.nums (W : Wf st) : st.objects.length ≤ 40 := by
  have := Sl.len_le_of_sub (l := st.objects.map (·.number)) (U := List.range 41) W.inc.nodup (fun n hn => by
    obtain ⟨o, ho, rfl⟩ := List.mem_map.mp hn
    have := W.low o ho; have := W.few
    exact List.mem_range.mpr (by omega))
  have h2 := Sl.len_le_of_sub (l := 0 :: st.objects.map (·.number)) (U := List.range 41) (List.nodup_cons.mpr ⟨fun m => by
    obtain ⟨o, ho, e⟩ := List.mem_map.mp m
    have := W.low o ho; omega, W.inc.nodup⟩) (fun n hn => by
    rcases List.mem_cons.mp hn with e | hn
    · subst e; exact List.mem_range.mpr (by omega)
    · obtain ⟨o, ho, rfl⟩ := List.mem_map.mp hn
      have := W.low o ho; have := W.few
      exact List.mem_range.mpr (by omega))
  simpa using h2
theorem numberOf (W : Wf st) {o o' : Vbxlaf.Object} (h : o ∈ st.objects) (h' : o' ∈ st.objects) (e : o.number = o'.number) : o = o' := by
  have hn := W.inc.nodup
  obtain ⟨i, hi, rfl⟩ := List.getElem_of_mem h
  obtain ⟨j, hj, rfl⟩ := List.getElem_of_mem h'
  have : i = j := by
    refine (List.getElem_inj (xs := st.objects.map (·.number)) (i := i) (j := j) (h₀ := by simpa using hi) (h₁ := by simpa using hj) hn).mp ?_
    simpa using e
  subst this; rfl
theorem fieldsOf_mem (W : Wf st) {o : Vbxlaf.Object} (h : o ∈ st.objects) : Vbxlaf.fieldsOf st o.number = o.fields := by
  unfold Vbxlaf.fieldsOf
  cases e : st.objects.find? fun p => p.number == o.number with
  | none =>
    rw [List.find?_eq_none] at e
    exact absurd (beq_self_eq_true o.number) (e o h)
  | some p =>
    have h1 := List.find?_some e
    have h2 := List.mem_of_find?_eq_some e
    rw [numberOf W h2 h (eq_of_beq h1)]; rfl
theorem exists_mem {n : Nat} (h : Vbxlaf.exists_ st n = true) : ∃ o ∈ st.objects, o.number = n := by
  obtain ⟨o, ho, e⟩ := List.any_eq_true.mp h
  exact ⟨o, ho, eq_of_beq e⟩
theorem Wf.closed (W : Wf st) : Sl.Closed st := by
  intro n v hv
  unfold Vbxlaf.fieldsOf at hv
  cases e : st.objects.find? fun p => p.number == n with
  | none => rw [e] at hv; cases hv
  | some p =>
    rw [e] at hv
    exact (W.fok p (List.mem_of_find?_eq_some e) v hv).ok
/-- the dict of the objects at a number -/
theorem valV_fkv (W : Wf st) (i : Int) : valV (fkv A st) (Sum.inl i) = if (decide (0 ≤ i) && Vbxlaf.exists_ st i.toNat) = true then some (.ref (A.fa i.toNat)) else none := by
  by_cases c : (decide (0 ≤ i) && Vbxlaf.exists_ st i.toNat) = true
  · rw [if_pos c]
    obtain ⟨c1, c2⟩ := Bool.and_eq_true_iff.mp c
    have c1 : 0 ≤ i := of_decide_eq_true c1
    obtain ⟨o, ho, e⟩ := exists_mem c2
    have : ∀ l : List Vbxlaf.Object, o ∈ l → valV (l.map fun o => ((Sum.inl (o.number : Int) : L2.Key), V.ref (A.fa o.number))) (Sum.inl i) = some (.ref (A.fa i.toNat)) := by
      intro l
      induction l with
      | nil => intro h; cases h
      | cons a l ih =>
        intro h
        by_cases q : a.number = i.toNat
        · have q2 : ((Sum.inl (a.number : Int) : L2.Key)) = Sum.inl i := by rw [q]; congr 1; omega
          rw [List.map_cons, valV_pos (p := (Sum.inl (a.number : Int), V.ref (A.fa a.number))) q2, q]
        · have q2 : ¬ ((Sum.inl (a.number : Int) : L2.Key)) = Sum.inl i := fun z => q (by have := Sum.inl.inj z; omega)
          rw [List.map_cons, valV_neg (p := (Sum.inl (a.number : Int), V.ref (A.fa a.number))) q2]
          rcases List.mem_cons.mp h with z | z
          · exact absurd (by rw [← z]; exact e) q
          · exact ih z
    exact this _ ho
  · rw [if_neg c]
    have : ∀ l : List Vbxlaf.Object, (∀ a ∈ l, a ∈ st.objects) → valV (l.map fun o => ((Sum.inl (o.number : Int) : L2.Key), V.ref (A.fa o.number))) (Sum.inl i) = none := by
      intro l
      induction l with
      | nil => intro _; rfl
      | cons a l ih =>
        intro h
        have q2 : ¬ ((Sum.inl (a.number : Int) : L2.Key)) = Sum.inl i := fun z => c (by
          have z := Sum.inl.inj z
          rw [← z]
          simp only [Int.toNat_natCast, Bool.and_eq_true, decide_eq_true_eq]
          exact ⟨by omega, List.any_eq_true.mpr ⟨a, h a List.mem_cons_self, beq_self_eq_true _⟩⟩)
        rw [List.map_cons, valV_neg (p := (Sum.inl (a.number : Int), V.ref (A.fa a.number))) q2]
        exact ih fun b hb => h b (List.mem_cons_of_mem _ hb)
    exact this _ fun _ h => h
end

/-! ### Graph.put -/
section
variable {P : Program} {w : World} {K : PySem.W.Frag} {mg : Str → Option Value} {base : Heap} {CG CL CS : Addr}
/-- put: the slot holds the value; whether it is another is kept in mind -/
def spPut (CG : Addr) : Sp := fun vs H Q _ => ∃ (A : Gr) (st : St0) (i : Nat) (x : V) (v : Val), vs = [.ref A.g, .int (i : Int), x] ∧ GInv CG H A st ∧ i < st.slots.length ∧ st.slots.length = 6 ∧ VR H x v ∧
  ∀ H' A', A' = { A with sc := A.sc || (st.slots.getD i .nothing != v) } → GInv CG H' A' (Vbxlaf.setSlot st (i : Int) v) → (∀ b o, H b = some o → b ≠ A.g → b ≠ A.sl → H' b = some o) → Q .non H'
def dp (v : Val) : PyData := .tuple [.int (vp v).1, .int (vp v).2]
theorem PR.dp {K : PySem.W.Frag} {H : Hp} {x : V} {p : Int × Int} (h : PR H x p) : Dp K H x (.tuple [.int p.1, .int p.2]) := by
  obtain ⟨a, rfl, e⟩ := h
  exact .tup (.inl (.inl e)) (.cons (.int _) (.cons (.int _) .nil))
theorem eqv_pair (p q : Int × Int) : PyData.eqv (.tuple [.int p.1, .int p.2]) (.tuple [.int q.1, .int q.2]) = decide (p = q) := by
  show ((p.1 == q.1) && ((p.2 == q.2) && true)) = _
  by_cases h : p = q
  · subst h; simp
  · rw [decide_eq_false h]
    by_cases h1 : p.1 = q.1
    · have h2 : p.2 ≠ q.2 := fun e => h (Prod.ext h1 e)
      simp [h1, h2]
    · simp [h1]
theorem shaped_pair (p : Int × Int) : SeqAt.shaped (.tuple [.int p.1, .int p.2]) = true := by
  rfl
theorem scPut : FnScope ["self", "slot", "value"] ["self", "slot", "value"] (defScope (gm 3)) := ⟨rfl, rfl, rfl, by decide +kernel, rfl, by decide +kernel, by decide +kernel⟩
theorem ok_put {f : Addr} {fd : FuncData} (F : Fun K "put" "Graph.put" (gm 3) f fd) (T : Txt K mg CG CL CS) : FnOk P w K mg base CX0 1 f fd ["self", "slot", "value"] (spPut CG) := by
  refine F.ok scPut (fun vs H Q E h => ?_) (fun cdv A0 outer s H vs Q E hr h => ?_)
  · obtain ⟨A, st, i, x, v, rfl, _⟩ := h
    rfl
  · obtain ⟨A, st, i, x, v, rfl, I, hi, h6, hx, k⟩ := h
    refine ⟨_, C8.pss_cut (ps_if (pt_cmpR (op_neD hr.units) (pe_ix ix_list (pe_fld (pv 0) rfl) (pv 1) (fun _ _ => rfl)) (pv 2) (nomark _)) (pss_one (ps_fld (pv 0) pe_bl rfl)) pss_nil)
      (pss_one (ps_asg (pv 2) (pg_sub (pe_fld (pv 0) rfl) (pv 1) set_list))), ?_⟩
    obtain ⟨xs, hxs, rs⟩ := I.slots
    obtain ⟨y, hy, ry⟩ := paired_at rs (List.getElem?_eq_getElem hi)
    have tg : A.g ≠ A.sl := ne_of I.ob hxs (by intro q; cases q)
    have hv0 : st.slots.getD i .nothing = st.slots[i] := by
      rw [List.getD_eq_getElem?_getD, List.getElem?_eq_getElem hi]; rfl
    refine ⟨fun σ H1 => σ = start ["self", "slot", "value"] [.ref A.g, .int i, x] ∧ ∃ sc, H1 A.g = some (.ins CG A.gx (gK.zip ({ A with sc := sc }.vals st.made st.uses))) ∧ (∀ b o, H b = some o → b ≠ A.g → H1 b = some o) ∧ sc = (A.sc || (st.slots.getD i .nothing != v)), ?_, ?_⟩
    · refine ⟨_, rfl, A.g, CG, A.gx, _, _, rfl, I.ob, T.cG, T.aG _ (ixG _ kG_slots), gk_get A _ _ _ kG_slots rfl, _, rfl, A.sl, _, _, _, rfl, rfl, SqL.of hxs, atI_nat hy, _, rfl, _, _, PR.dp ry, PR.dp hx, shaped_pair _, shaped_pair _, _, rfl, ?_⟩
      rw [eqv_pair]
      refine ite2 (fun c => ?_) (fun c => ?_)
      · refine ⟨_, rfl, A.g, CG, A.gx, _, rfl, I.ob, T.cG, T.aG _ (ixG _ kG_sc), (by show 8 < 1000; decide), ?_⟩
        rw [put_zip gK _ 5 kG_sc rfl]
        refine ⟨rfl, true, upd_same, (fun b o e n => by rw [upd_ne n]; exact e), ?_⟩
        have : st.slots[i] ≠ v := fun q => by rw [q] at c; simp at c
        rw [hv0]
        simp [this]
      · refine ⟨rfl, A.sc, I.ob, (fun b o e _ => e), ?_⟩
        have : st.slots[i] = v := by
          by_cases q : vp st.slots[i] = vp v
          · exact vp_inj q
          · rw [decide_eq_false q] at c; simp at c
        rw [hv0]
        simp [this]
    · rintro _ H1 ⟨rfl, sc, h1, k1, hsc⟩
      refine ⟨_, rfl, _, rfl, A.g, CG, A.gx, _, _, rfl, h1, T.cG, T.aG _ (ixG _ kG_slots), gk_get { A with sc := sc } _ _ _ kG_slots rfl, _, rfl, A.sl, _, _, i, rfl, rfl, k1 _ _ hxs tg.symm, ?_, ?_⟩
      · have : (i : Int) < (xs.length : Int) := by rw [rs.length]; omega
        unfold ixN
        rw [if_pos (by omega), if_pos this]; simp
      · have tu : Tups H (upd H1 A.sl (.lst (xs.set i x))) := fun b zs e => by
          rw [upd_ne (ne_of e hxs (by intro q; cases q))]
          exact k1 _ _ e (ne_of e I.ob (by intro q; cases q))
        have st_ : ∀ b o, H b = some o → b ≠ A.g → b ≠ A.sl → upd H1 A.sl (.lst (xs.set i x)) b = some o := fun b o e n1 n2 => by
          rw [upd_ne n2]; exact k1 b o e n1
        refine k _ { A with sc := sc } (by rw [hsc]) ?_ st_
        have ne : ∀ b o, H b = some o → (∀ C dx fs, o ≠ .ins C dx fs) → (∀ l, o ≠ .lst l) → upd H1 A.sl (.lst (xs.set i x)) b = some o := fun b o e n1 n2 =>
          st_ b o e (ne_of e I.ob (n1 _ _ _)) (ne_of e hxs (n2 _))
        exact {
          ob := by rw [upd_ne tg]; exact h1
          slots := ⟨_, upd_same, by
            have := paired_set (R := VR (upd H1 A.sl (.lst (xs.set i x)))) (hx.keep tu) i (VRs.keep rs tu)
            simpa [Vbxlaf.setSlot] using this⟩
          fd := ne _ _ I.fd (by intro _ _ _ q; cases q) (by intro _ q; cases q)
          fl := fun o ho => (I.fl o ho).keep (fun zs e => st_ _ _ e (ne_of e I.ob (by intro q; cases q)) (I.fs o ho)) tu
          inj := I.inj
          fs := I.fs
          sd := ne _ _ I.sd (by intro _ _ _ q; cases q) (by intro _ q; cases q)
          sp := I.sp
          cd := ne _ _ I.cd (by intro _ _ _ q; cases q) (by intro _ q; cases q)
          cn := I.cn
          cm := I.cm
          nd := ne _ _ I.nd (by intro _ _ _ q; cases q) (by intro _ q; cases q)
          nn := I.nn
          nl := I.nl
          nm := I.nm
          sc := fun h => by
            show sc = _
            rw [hsc, I.sc h]
            rfl
          d1 := I.d1
          d2 := I.d2
          d3 := I.d3 }
end
end Sv
namespace Sv
open PySem PySem.Spec PyProof.Rows L2

theorem putF_len (f : Str) (v : V) : ∀ fs : List (Str × V), (putF f v fs).length ≤ fs.length + 1
  | [] => by show 1 ≤ 1; decide
  | (g, x) :: r => by
    have ih := putF_len f v r
    show (if g = f then (g, v) :: r else (g, x) :: putF f v r).length ≤ _
    split
    · simp
    · simp only [List.length_cons]; omega
theorem rep_one {α : Type} (x : α) : ∀ n, (List.replicate n [x]).flatten = List.replicate n x
  | 0 => rfl
  | n + 1 => by
    rw [List.replicate_succ, List.flatten_cons, rep_one x n]; rfl

theorem upd_free {H : Hp} {a b : Addr} {o : HO} (h : upd H a o b = none) : b ≠ a ∧ H b = none := by
  by_cases e : b = a
  · rw [e, upd_same] at h; cases h
  · exact ⟨e, by rwa [upd_ne e] at h⟩

section
variable {P : Program} {w : World} {K : PySem.W.Frag} {mg : Str → Option Value} {base : Heap} {CG CL CS : Addr}
/-! ### Graph.forget_changes -/
def spForget (CG : Addr) : Sp := fun vs H Q _ => ∃ (g gx : Addr) (fs : List (Str × V)), vs = [.ref g] ∧ H g = some (.ins CG gx fs) ∧ fs.length < 900 ∧
  ∀ H' cd nd, H cd = none → H nd = none → cd ≠ nd → H' g = some (.ins CG gx (putF "new_names" (.ref nd) (putF "changed_objects" (.ref cd) (putF "slot_changed" (.bl false) fs)))) → H' cd = some (.dT []) → H' nd = some (.dT []) →
    (∀ b o, H b = some o → b ≠ g → H' b = some o) → Q .non H'
theorem scForget : FnScope ["self"] ["self"] (defScope (gm 1)) := ⟨rfl, rfl, rfl, by decide +kernel, rfl, by decide +kernel, by decide +kernel⟩
theorem ok_forget {f : Addr} {fd : FuncData} (F : Fun K "forget_changes" "Graph.forget_changes" (gm 1) f fd) (T : Txt K mg CG CL CS) : FnOk P w K mg base CX0 1 f fd ["self"] (spForget CG) := by
  refine F.ok scForget (fun vs H Q E h => ?_) (fun cdv A0 outer s H vs Q E hr h => ?_)
  · obtain ⟨g, gx, fs, rfl, _⟩ := h
    rfl
  · obtain ⟨g, gx, fs, rfl, hg, hl, k⟩ := h
    refine ⟨_, pss_cons (ps_fld (pv 0) pe_bl rfl) (pss_cons (ps_fld (pv 0) pe_dnewT rfl) (pss_one (ps_fld (pv 0) pe_dnewT rfl))), ?_⟩
    refine ⟨_, rfl, g, CG, gx, _, rfl, hg, T.cG, T.aG _ (ixG _ kG_sc), (by omega), ?_⟩
    intro cd hcd
    have c1 : H cd = none := by
      by_cases e : cd = g
      · rw [e, upd_same] at hcd; cases hcd
      · rwa [upd_ne e] at hcd
    have gc : g ≠ cd := ne_of_none hg c1
    refine ⟨_, rfl, g, CG, gx, _, rfl, (by rw [upd_ne gc]; exact upd_same), T.cG, T.aG _ (ixG _ kG_co), (by have := putF_len "slot_changed" (.bl false) fs; omega), ?_⟩
    intro nd hnd
    have n0 : nd ≠ g := fun e => by rw [e, upd_same] at hnd; cases hnd
    rw [upd_ne n0] at hnd
    have n1 : nd ≠ cd := fun e => by rw [e, upd_same] at hnd; cases hnd
    rw [upd_ne n1, upd_ne n0] at hnd
    refine ⟨_, rfl, g, CG, gx, _, rfl, (by rw [upd_ne n0.symm]; exact upd_same), T.cG, T.aG _ (ixG _ kG_nn), (by have := putF_len "slot_changed" (.bl false) fs; have := putF_len "changed_objects" (.ref cd) (putF "slot_changed" (.bl false) fs); omega), ?_⟩
    refine k _ cd nd c1 hnd n1.symm upd_same ?_ ?_ ?_
    · rw [upd_ne gc.symm, upd_ne n1.symm, upd_ne gc.symm, upd_same]
    · rw [upd_ne n0, upd_same]
    · intro b o e nb
      rw [upd_ne nb, upd_ne (ne_of_none e hnd), upd_ne nb, upd_ne (ne_of_none e c1), upd_ne nb]
      exact e

/-! ### Graph.create -/
def stCreate (st : St0) (n : Nat) : St0 := { st with objects := st.objects ++ [⟨st.made + 1, List.replicate n .nothing⟩], made := st.made + 1 }
def spCreate (CG : Addr) : Sp := fun vs H Q _ => ∃ (A : Gr) (st : St0) (n : Nat), vs = [.ref A.g, .int (n : Int)] ∧ GInv CG H A st ∧ Wf st ∧ n ≤ 4 ∧
  ∀ H' l p, H l = none → GInv CG H' { A with fa := fun k => if k = st.made + 1 then l else A.fa k } (stCreate st n) → VR H' (.ref p) (.object (st.made + 1)) →
    (∀ b o, H b = some o → b ≠ A.g → b ≠ A.fd → H' b = some o) → Q (.ref p) H'
theorem scCreate : FnScope ["self", "field_count"] ["self", "field_count"] (defScope (gm 2)) := ⟨rfl, rfl, rfl, by decide +kernel, rfl, by decide +kernel, by decide +kernel⟩
theorem ok_create {f : Addr} {fd : FuncData} (F : Fun K "create" "Graph.create" (gm 2) f fd) (T : Txt K mg CG CL CS) : FnOk P w K mg base CX0 1 f fd ["self", "field_count"] (spCreate CG) := by
  refine F.ok scCreate (fun vs H Q E h => ?_) (fun cdv A0 outer s H vs Q E hr h => ?_)
  · obtain ⟨A, st, n, rfl, _⟩ := h
    rfl
  · obtain ⟨A, st, n, rfl, I, W, hn, k⟩ := h
    refine ⟨_, pss_cons (ps_fldaug (pv 0) pe_int in_add) (pss_cons (ps_dput (hu_of hr) (pe_fld (pv 0) rfl) (pe_fld (pv 0) rfl) (pe_op op_rep (pe_lst (pa_cons (pe_tup (pa_cons (pe_num T.nN) (pa_cons pe_int pa_nil))) pa_nil)) (pv 1)) rfl)
      (pss_one (ps_ret (pe_tup (pa_cons (pe_num T.nO) (pa_cons (pe_fld (pv 0) rfl) pa_nil)))))), ?_⟩
    refine ⟨_, rfl, A.g, CG, A.gx, _, _, rfl, I.ob, T.cG, T.aG _ (ixG _ kG_created), gk_get A _ _ _ kG_created rfl, _, _, rfl, rfl, A.gx, _, I.ob, (by show 8 < 1000; decide), ?_⟩
    rw [put_zip gK _ 0 kG_created rfl]
    have h1 : upd H A.g (.ins CG A.gx (gK.zip (A.vals (st.made + 1) st.uses))) A.g = some (.ins CG A.gx (gK.zip (A.vals (st.made + 1) st.uses))) := upd_same
    have s1 : ∀ b o, H b = some o → b ≠ A.g → upd H A.g (.ins CG A.gx (gK.zip (A.vals (st.made + 1) st.uses))) b = some o := fun b o e nb => by rw [upd_ne nb]; exact e
    have f1 : ∀ b, upd H A.g (.ins CG A.gx (gK.zip (A.vals (st.made + 1) st.uses))) b = none → H b = none := fun b e => by
      by_cases q : b = A.g
      · rw [q, upd_same] at e; cases e
      · rwa [upd_ne q] at e
    have ev : (A.vals st.made st.uses).set 0 (.int (st.made + 1)) = A.vals (st.made + 1) st.uses := rfl
    rw [ev]
    generalize upd H A.g (.ins CG A.gx (gK.zip (A.vals (st.made + 1) st.uses))) = H1 at h1 s1 f1 ⊢
    -- [(NOTHING, 0)] * field_count
    refine ⟨(by show 2 ≤ sizeLine; decide), fun t ht => ⟨(by show 1 ≤ sizeLine; decide), fun l hl => ⟨_, rfl, l, _, _, rfl, rfl, upd_same, (by omega), (by omega), (by show 1 * ((n : Int).toNat) ≤ sizeLine; rw [sizeLine_eq]; omega), fun q hq => ?_⟩⟩⟩
    rw [rep_one, Int.toNat_natCast]
    obtain ⟨ql, hq⟩ := upd_free hq
    obtain ⟨qt, hq⟩ := upd_free hq
    obtain ⟨lt, hl⟩ := upd_free hl
    have ft := f1 t ht
    have fl := f1 l hl
    have fq := f1 q hq
    -- self.fields[self.created] = ..
    have gA : ∀ b, H b = none → A.g ≠ b := fun b e => ne_of_none I.ob e
    have h2 : upd (upd (upd H1 t (.tup [.int 0, .int 0])) l (.lst [.ref t])) q (.lst (List.replicate n (.ref t))) A.g = some (.ins CG A.gx (gK.zip (A.vals (st.made + 1) st.uses))) := by
      rw [upd_ne (gA q fq), upd_ne (gA l fl), upd_ne (gA t ft)]; exact h1
    have s2 : ∀ b o, H b = some o → b ≠ A.g → upd (upd (upd H1 t (.tup [.int 0, .int 0])) l (.lst [.ref t])) q (.lst (List.replicate n (.ref t))) b = some o := fun b o e nb => by
      rw [upd_ne (ne_of_none e fq), upd_ne (ne_of_none e fl), upd_ne (ne_of_none e ft)]; exact s1 b o e nb
    have t2 : upd (upd (upd H1 t (.tup [.int 0, .int 0])) l (.lst [.ref t])) q (.lst (List.replicate n (.ref t))) t = some (.tup [.int 0, .int 0]) := by
      rw [upd_ne qt.symm, upd_ne lt.symm, upd_same]
    have q2 : upd (upd (upd H1 t (.tup [.int 0, .int 0])) l (.lst [.ref t])) q (.lst (List.replicate n (.ref t))) q = some (.lst (List.replicate n (.ref t))) := upd_same
    have n2 : ∀ b, upd (upd (upd H1 t (.tup [.int 0, .int 0])) l (.lst [.ref t])) q (.lst (List.replicate n (.ref t))) b = none → H b = none := fun b e => f1 b (upd_free (upd_free (upd_free e).2).2).2
    generalize upd (upd (upd H1 t (.tup [.int 0, .int 0])) l (.lst [.ref t])) q (.lst (List.replicate n (.ref t))) = H2 at h2 s2 t2 q2 n2 ⊢
    have gf : A.g ≠ A.fd := ne_of I.ob I.fd (by intro z; cases z)
    have fd2 := s2 _ _ I.fd gf.symm
    have new : valV (fkv A st) (Sum.inl ((st.made + 1 : Nat) : Int)) = none := by
      rw [valV_fkv W, if_neg]
      intro c
      obtain ⟨c1, c2⟩ := Bool.and_eq_true_iff.mp c
      obtain ⟨o, ho, e⟩ := exists_mem c2
      have := W.low o ho
      omega
    refine ⟨_, rfl, A.g, CG, A.gx, _, _, rfl, h2, T.cG, T.aG _ (ixG _ kG_fields), gk_get A _ _ _ kG_fields rfl, _, rfl, A.g, CG, A.gx, _, _, rfl, h2, T.cG, T.aG _ (ixG _ kG_created), gk_get A _ _ _ kG_created rfl, A.fd, _, rfl, DPut.k (k := Sum.inl ((st.made + 1 : Nat) : Int)) fd2 (by rw [List.length_map]; have := W.nums; exact small1000 (by omega)), ?_⟩
    rw [putK_new _ new]
    have fdq : A.fd ≠ q := ne_of_none I.fd fq
    -- return (OBJECT, self.created)
    refine ⟨_, rfl, A.g, CG, A.gx, _, _, rfl, (by rw [upd_ne gf]; exact h2), T.cG, T.aG _ (ixG _ kG_created), gk_get A _ _ _ kG_created rfl, (by show 2 ≤ sizeLine; decide), fun p hp => ?_⟩
    obtain ⟨pf, hp⟩ := upd_free hp
    have fp := n2 p hp
    have stay : ∀ b o, H b = some o → b ≠ A.g → b ≠ A.fd → upd (upd H2 A.fd (.dK (fkv A st ++ [(Sum.inl ((st.made + 1 : Nat) : Int), .ref q)]))) p (.tup [.int 1, .int ((st.made + 1 : Nat) : Int)]) b = some o := fun b o e n1 n3 => by
      rw [upd_ne (ne_of_none e fp), upd_ne n3]; exact s2 b o e n1
    have tu : Tups H (upd (upd H2 A.fd (.dK (fkv A st ++ [(Sum.inl ((st.made + 1 : Nat) : Int), .ref q)]))) p (.tup [.int 1, .int ((st.made + 1 : Nat) : Int)])) := fun b xs e =>
      stay b _ e (ne_of e I.ob (by intro z; cases z)) (ne_of e I.fd (by intro z; cases z))
    have fa0 : ∀ o ∈ st.objects, (if o.number = st.made + 1 then q else A.fa o.number) = A.fa o.number := fun o ho => if_neg (by have := W.low o ho; omega)
    have alive : ∀ o ∈ st.objects, H (A.fa o.number) ≠ none := fun o ho => by
      obtain ⟨xs, e, _⟩ := I.fl o ho
      rw [e]; exact fun z => nomatch z
    refine k _ q p fq ?_ ⟨p, rfl, upd_same⟩ stay
    have pq : q ≠ p := fun e => by rw [← e, q2] at hp; cases hp
    have kp : t ≠ p := fun e => by rw [← e, t2] at hp; cases hp
    exact {
      ob := by rw [upd_ne (ne_of_none I.ob fp), upd_ne gf]; exact h2
      slots := I.slots.keep (fun xs e => stay _ _ e (ne_of e I.ob (by intro z; cases z)) (ne_of e I.fd (by intro z; cases z))) tu
      fd := by
        rw [upd_ne (ne_of_none I.fd fp), upd_same]
        show some (HO.dK _) = some (HO.dK (List.map _ (st.objects ++ [⟨st.made + 1, List.replicate n .nothing⟩])))
        rw [List.map_append]
        have e1 : List.map (fun o : Vbxlaf.Object => ((Sum.inl (o.number : Int) : L2.Key), V.ref (if o.number = st.made + 1 then q else A.fa o.number))) st.objects = fkv A st := by
          apply List.map_congr_left
          intro o ho
          rw [fa0 o ho]
        have e2 : List.map (fun o : Vbxlaf.Object => ((Sum.inl (o.number : Int) : L2.Key), V.ref (if o.number = st.made + 1 then q else A.fa o.number))) [⟨st.made + 1, List.replicate n .nothing⟩] = [((Sum.inl ((st.made + 1 : Nat) : Int) : L2.Key), V.ref q)] := by
          show [((Sum.inl ((st.made + 1 : Nat) : Int) : L2.Key), V.ref (if st.made + 1 = st.made + 1 then q else _))] = _
          rw [if_pos rfl]
        exact congrArg (fun z => some (HO.dK z)) (by rw [e1, e2])
      fl := fun o ho => by
        rcases List.mem_append.mp ho with ho | ho
        · show Flds _ (if o.number = st.made + 1 then q else A.fa o.number) _
          rw [fa0 o ho]
          exact (I.fl o ho).keep (fun xs e => stay _ _ e (ne_of e I.ob (by intro z; cases z)) (ne_of e I.fd (by intro z; cases z))) tu
        · rw [List.mem_singleton] at ho
          subst ho
          show Flds _ (if st.made + 1 = st.made + 1 then q else _) _
          rw [if_pos rfl]
          exact ⟨_, by rw [upd_ne pq, upd_ne fdq.symm]; exact q2, paired_rep (R := VR _) ⟨t, rfl, by rw [upd_ne kp, upd_ne (fun e => by rw [e] at ft; rw [I.fd] at ft; cases ft)]; exact t2⟩ n⟩
      inj := fun o ho o' ho' e => by
        have e : (if o.number = st.made + 1 then q else A.fa o.number) = (if o'.number = st.made + 1 then q else A.fa o'.number) := e
        rcases List.mem_append.mp ho with ho | ho <;> rcases List.mem_append.mp ho' with ho' | ho'
        · rw [fa0 o ho, fa0 o' ho'] at e
          exact I.inj o ho o' ho' e
        · rw [List.mem_singleton] at ho'
          subst ho'
          rw [fa0 o ho, if_pos rfl] at e
          exact absurd (by rw [e]; exact fq) (alive o ho)
        · rw [List.mem_singleton] at ho
          subst ho
          rw [fa0 o' ho', if_pos rfl] at e
          exact absurd (by rw [← e]; exact fq) (alive o' ho')
        · rw [List.mem_singleton] at ho ho'
          rw [ho, ho']
      fs := fun o ho => by
        show (if o.number = st.made + 1 then q else A.fa o.number) ≠ A.sl
        rcases List.mem_append.mp ho with ho | ho
        · rw [fa0 o ho]; exact I.fs o ho
        · rw [List.mem_singleton] at ho
          subst ho
          rw [if_pos rfl]
          obtain ⟨xs, e, _⟩ := I.slots
          exact (ne_of_none e fq).symm
      sd := stay _ _ I.sd (ne_of I.sd I.ob (by intro z; cases z)) (ne_of I.sd I.fd (by intro z; cases z))
      sp := I.sp
      cd := stay _ _ I.cd (ne_of I.cd I.ob (by intro z; cases z)) (ne_of I.cd I.fd (by intro z; cases z))
      cn := I.cn
      cm := I.cm
      nd := stay _ _ I.nd (ne_of I.nd I.ob (by intro z; cases z)) (ne_of I.nd I.fd (by intro z; cases z))
      nn := I.nn
      nl := I.nl
      nm := I.nm
      sc := I.sc
      d1 := I.d1
      d2 := I.d2
      d3 := I.d3 }
end
end Sv
namespace Sv
open PySem PySem.Spec PyProof.Rows L2
section
variable {P : Program} {w : World} {K : PySem.W.Frag} {mg : Str → Option Value} {base : Heap} {CG CL CS : Addr}
/-! ### Graph.write -/
def setF (n i : Nat) (v : Val) (o : Vbxlaf.Object) : Vbxlaf.Object := if o.number = n then { o with fields := o.fields.set i v } else o
def stWrite (st : St0) (n i : Nat) (v : Val) : St0 := { st with objects := st.objects.map (setF n i v), changed := Vbxlaf.insertNumber n st.changed }
theorem setF_num (n i : Nat) (v : Val) (o : Vbxlaf.Object) : (setF n i v o).number = o.number := by
  unfold setF; split <;> rfl
def spWrite (CG : Addr) : Sp := fun vs H Q _ => ∃ (A : Gr) (st : St0) (o : Vbxlaf.Object) (i : Nat) (x : V) (v old : Val), vs = [.ref A.g, .int (o.number : Int), .int (i : Int), x] ∧ GInv CG H A st ∧ Wf st ∧ o ∈ st.objects ∧ o.fields[i]? = some old ∧ VR H x v ∧
  (v = old → ∀ H', GInv CG H' A st → (∀ b o', H b = some o' → b ≠ A.cd → b ≠ A.fa o.number → H' b = some o') → Q (.bl false) H') ∧
  (v ≠ old → ∀ H', GInv CG H' { A with cs := adds A.cs o.number } (stWrite st o.number i v) → (∀ b o', H b = some o' → b ≠ A.cd → b ≠ A.fa o.number → H' b = some o') → Q (.bl true) H')
theorem scWrite : FnScope ["self", "number", "field", "value", "changed"] ["self", "number", "field", "value"] (defScope (gm 4)) := ⟨rfl, rfl, rfl, by decide +kernel, rfl, by decide +kernel, by decide +kernel⟩
theorem ok_write {f : Addr} {fd : FuncData} (F : Fun K "write" "Graph.write" (gm 4) f fd) (T : Txt K mg CG CL CS) : FnOk P w K mg base CX0 1 f fd ["self", "number", "field", "value"] (spWrite CG) := by
  refine F.ok scWrite (fun vs H Q E h => ?_) (fun cdv A0 outer s H vs Q E hr h => ?_)
  · obtain ⟨A, st, o, i, x, v, old, rfl, _⟩ := h
    rfl
  · obtain ⟨A, st, o, i, x, v, old, rfl, I, W, ho, hold, hx, k1, k2⟩ := h
    have hu := hu_of hr
    refine ⟨_, pss_cons (ps_set (i := 4) scWrite.nd rfl (Or.inl rfl) (pe_cmpR (op_neD hr.units) (pe_ix ix_list (pe_dget hu (pe_fld (pv 0) rfl) (pv 1) (fun _ _ => rfl)) (pv 2) (fun _ _ => rfl)) (pv 3) (nomark _)))
      (C8.pss_cut (ps_if (pt_val (pv 4)) (pss_one (ps_dput hu (pe_fld (pv 0) rfl) (pe_tup (pa_cons (pe_num T.nO) (pa_cons (pv 1) pa_nil))) pe_bl rfl)) pss_nil)
      (pss_cons (ps_asg (pv 3) (pg_sub (pe_dget hu (pe_fld (pv 0) rfl) (pv 1) (fun _ _ => rfl)) (pv 2) set_list)) (pss_one (ps_ret (pv 4))))), ?_⟩
    obtain ⟨xs, hxs, rs⟩ := I.fl o ho
    obtain ⟨y, hy, ry⟩ := paired_at rs hold
    have hi : i < xs.length := (List.getElem?_eq_some_iff.mp hy).1
    have exo : (decide (0 ≤ (o.number : Int)) && Vbxlaf.exists_ st ((o.number : Int).toNat)) = true := by
      simp only [Int.toNat_natCast, Bool.and_eq_true, decide_eq_true_eq]
      exact ⟨by omega, List.any_eq_true.mpr ⟨o, ho, beq_self_eq_true _⟩⟩
    have gv : valV (fkv A st) (Sum.inl (o.number : Int)) = some (.ref (A.fa o.number)) := by
      rw [valV_fkv W, if_pos exo, Int.toNat_natCast]
    refine ⟨_, rfl, A.g, CG, A.gx, _, _, rfl, I.ob, T.cG, T.aG _ (ixG _ kG_fields), gk_get A _ _ _ kG_fields rfl, _, rfl, A.fd, _, rfl, (by rw [← gv]; exact DGet.k (k := Sum.inl (o.number : Int)) I.fd), _, rfl, A.fa o.number, _, _, _, rfl, rfl, SqL.of hxs, atI_nat hy, _, rfl, _, _, PR.dp ry, PR.dp hx, shaped_pair _, shaped_pair _, ?_⟩
    rw [eqv_pair]
    refine ⟨fun σ H1 => σ = (start ["self", "number", "field", "value", "changed"] [.ref A.g, .int (o.number : Int), .int (i : Int), x]).set 4 (some (.bl (!decide (vp old = vp v)))) ∧ Tups H H1 ∧ (∀ b o', H b = some o' → b ≠ A.cd → H1 b = some o') ∧ H1 A.cd = some (.dT (tkv ((if v = old then A.cs else adds A.cs o.number).map one))), ?_, ?_⟩
    · refine ⟨_, rfl, _, rfl, ?_⟩
      by_cases c : v = old
      · rw [c, decide_eq_true rfl]
        refine iteF ⟨rfl, fun _ _ e => e, fun _ _ e _ => e, ?_⟩
        rw [if_pos rfl]; exact I.cd
      · have c2 : ¬ vp old = vp v := fun e => c (vp_inj e.symm)
        rw [decide_eq_false c2]
        refine iteT ⟨_, rfl, A.g, CG, A.gx, _, _, rfl, I.ob, T.cG, T.aG _ (ixG _ kG_co), gk_get A _ _ _ kG_co rfl, _, rfl, (by show 2 ≤ sizeLine; decide), fun p hp => ?_⟩
        have pc : A.cd ≠ p := ne_of_none I.cd hp
        refine ⟨A.cd, _, rfl, DPut.t (k := pk (one o.number)) (by rw [upd_ne pc]; exact I.cd) upd_same (by rw [List.length_map, List.length_map]; exact small1000 (by have := I.csfew W; omega)), rfl, ?_, ?_, ?_⟩
        · intro b zs e
          rw [upd_ne (ne_of e I.cd (by intro z; cases z)), upd_ne (ne_of_none e hp)]; exact e
        · intro b o' e n1
          rw [upd_ne n1, upd_ne (ne_of_none e hp)]; exact e
        · rw [upd_same, if_neg c, putK_tkv, map_adds]
    · rintro _ H1 ⟨rfl, tu1, s1, c1⟩
      have gcd : A.g ≠ A.cd := ne_of I.ob I.cd (by intro z; cases z)
      have fdcd : A.fd ≠ A.cd := ne_of I.fd I.cd (by intro z; cases z)
      have facd : A.fa o.number ≠ A.cd := ne_of hxs I.cd (by intro z; cases z)
      refine ⟨_, rfl, _, rfl, A.g, CG, A.gx, _, _, rfl, s1 _ _ I.ob gcd, T.cG, T.aG _ (ixG _ kG_fields), gk_get A _ _ _ kG_fields rfl, _, rfl, A.fd, _, rfl, (by rw [← gv]; exact DGet.k (k := Sum.inl (o.number : Int)) (s1 _ _ I.fd fdcd)), _, rfl, A.fa o.number, _, _, i, rfl, rfl, s1 _ _ hxs facd, ?_, ?_⟩
      · have : (i : Int) < (xs.length : Int) := by omega
        unfold ixN
        rw [if_pos (by omega), if_pos this]; simp
      · refine ⟨_, rfl, ?_⟩
        have stay : ∀ b o', H b = some o' → b ≠ A.cd → b ≠ A.fa o.number → upd H1 (A.fa o.number) (.lst (xs.set i x)) b = some o' := fun b o' e n1 n2 => by
          rw [upd_ne n2]; exact s1 b o' e n1
        have tu : Tups H (upd H1 (A.fa o.number) (.lst (xs.set i x))) := fun b zs e =>
          stay b _ e (ne_of e I.cd (by intro z; cases z)) (ne_of e hxs (by intro z; cases z))
        have nl : ∀ {b : Addr} {o' : HO}, H b = some o' → (∀ l, o' ≠ .lst l) → b ≠ A.cd → upd H1 (A.fa o.number) (.lst (xs.set i x)) b = some o' := fun e n1 n2 => stay _ _ e n2 (ne_of e hxs (n1 _))
        have slne : A.fa o.number ≠ A.sl := I.fs o ho
        have same : ∀ o' ∈ st.objects, A.fa o'.number = A.fa o.number → o' = o := fun o' ho' e => numberOf W ho' ho (I.inj o' ho' o ho e)
        have mine : Flds (upd H1 (A.fa o.number) (.lst (xs.set i x))) (A.fa o.number) (o.fields.set i v) := ⟨_, upd_same, paired_set (R := VR _) (hx.keep tu) i (VRs.keep rs tu)⟩
        have other : ∀ o' ∈ st.objects, o' ≠ o → Flds (upd H1 (A.fa o.number) (.lst (xs.set i x))) (A.fa o'.number) o'.fields := fun o' ho' n => (I.fl o' ho').keep (fun zs e => stay _ _ e (ne_of e I.cd (by intro z; cases z)) fun q => n (same o' ho' q)) tu
        by_cases c : v = old
        · have e1 : (!decide (vp old = vp v)) = false := by rw [c]; simp
          rw [e1]
          refine k1 c _ ?_ stay
          rw [if_pos c] at c1
          have eqf : o.fields.set i v = o.fields := by
            rw [c]
            apply List.ext_getElem?
            intro j
            by_cases q : i = j
            · subst q
              rw [List.getElem?_set_self (by rw [← rs.length]; exact hi), hold]
            · rw [List.getElem?_set_ne q]
          exact { I with
            ob := nl I.ob (by intro l z; cases z) gcd
            slots := I.slots.keep (fun zs e => stay _ _ e (ne_of e I.cd (by intro z; cases z)) slne.symm) tu
            fd := nl I.fd (by intro l z; cases z) fdcd
            fl := fun o' ho' => by
              by_cases q : o' = o
              · rw [q]; rw [eqf] at mine; exact mine
              · exact other o' ho' q
            sd := nl I.sd (by intro l z; cases z) I.d1
            cd := by rw [upd_ne facd.symm]; exact c1
            nd := nl I.nd (by intro l z; cases z) I.d3.symm }
        · have e1 : (!decide (vp old = vp v)) = true := by
            rw [decide_eq_false fun e => c (vp_inj e.symm)]; rfl
          rw [e1]
          refine k2 c _ ?_ stay
          rw [if_neg c] at c1
          exact {
            ob := nl I.ob (by intro l z; cases z) gcd
            slots := I.slots.keep (fun zs e => stay _ _ e (ne_of e I.cd (by intro z; cases z)) slne.symm) tu
            fd := by
              have : fkv { A with cs := adds A.cs o.number } (stWrite st o.number i v) = fkv A st := by
                show List.map _ (List.map _ _) = _
                rw [List.map_map]
                apply List.map_congr_left
                intro o' _
                show (Sum.inl ((setF o.number i v o').number : Int), V.ref (A.fa (setF o.number i v o').number)) = _
                rw [setF_num]
              rw [this]
              exact nl I.fd (by intro l z; cases z) fdcd
            fl := fun o' ho' => by
              obtain ⟨o1, ho1, rfl⟩ := List.mem_map.mp ho'
              show Flds _ (A.fa (setF o.number i v o1).number) (setF o.number i v o1).fields
              rw [setF_num]
              by_cases q : o1 = o
              · subst q
                have : (setF o1.number i v o1).fields = o1.fields.set i v := by unfold setF; rw [if_pos rfl]
                rw [this]; exact mine
              · have : setF o.number i v o1 = o1 := by unfold setF; rw [if_neg fun e => q (numberOf W ho1 ho e)]
                rw [this]; exact other o1 ho1 q
            inj := fun o1 h1 o2 h2 e => by
              obtain ⟨p1, hp1, rfl⟩ := List.mem_map.mp h1
              obtain ⟨p2, hp2, rfl⟩ := List.mem_map.mp h2
              rw [setF_num, setF_num] at e ⊢
              exact I.inj p1 hp1 p2 hp2 e
            fs := fun o1 h1 => by
              obtain ⟨p1, hp1, rfl⟩ := List.mem_map.mp h1
              rw [setF_num]; exact I.fs p1 hp1
            sd := nl I.sd (by intro l z; cases z) I.d1
            sp := I.sp
            cd := by rw [upd_ne facd.symm]; exact c1
            cn := nodup_adds I.cn
            cm := fun n => by
              show n ∈ adds A.cs o.number ↔ n ∈ Vbxlaf.insertNumber o.number st.changed
              rw [mem_adds, Sl.mem_insertNumber, I.cm n]
              exact Or.comm
            nd := nl I.nd (by intro l z; cases z) I.d3.symm
            nn := I.nn
            nl := I.nl
            nm := I.nm
            sc := I.sc
            d1 := I.d1
            d2 := I.d2
            d3 := I.d3 }
/-! ### Graph.use -/
def useP (st : St0) : Val → St0
  | .object n => Vbxlaf.useEntry st n
  | .foreign n => Vbxlaf.useImport st n
  | .nothing => st
def Gr.used (A : Gr) (st : St0) (v : Val) : Gr := { A with ns := Sl.puts A.ns (vp v) ((st.uses : Int) + 1), ms := if (Sl.stI st (vp v)).isSome = true then A.ms else adds A.ms (vp v) }
def spUse (CG : Addr) : Sp := fun vs H Q _ => ∃ (A : Gr) (st : St0) (x : V) (v : Val), vs = [.ref A.g, x] ∧ GInv CG H A st ∧ Wf st ∧ VR H x v ∧ v ≠ .nothing ∧ VOk st v ∧
  ∀ H', GInv CG H' (A.used st v) (useP st v) → (∀ b o, H b = some o → b ≠ A.g → b ≠ A.sd → b ≠ A.nd → H' b = some o) → Q (.int ((st.uses : Int) + 1)) H'
theorem vok_low {st : St0} (W : Wf st) {v : Val} (h : VOk st v) (n : v ≠ .nothing) : ((vp v).1 = 1 ∧ 1 ≤ (vp v).2 ∧ (vp v).2 ≤ 40) ∨ ((vp v).1 = 2 ∧ 1 ≤ (vp v).2 ∧ (vp v).2 ≤ 20) := by
  cases v with
  | nothing => exact absurd rfl n
  | object m =>
    obtain ⟨o, ho, rfl⟩ := exists_mem h
    have := W.low o ho; have := W.few
    exact .inl ⟨rfl, by show (1 : Int) ≤ (o.number : Int); omega, by show (o.number : Int) ≤ 40; omega⟩
  | foreign m =>
    have h : 1 ≤ m ∧ m ≤ 20 := h
    exact .inr ⟨rfl, by show (1 : Int) ≤ (m : Int); omega, by show (m : Int) ≤ 20; omega⟩
theorem mem_putNamed {n s : Nat} {e : Vbxlaf.Named} : ∀ {l : List Vbxlaf.Named}, e ∈ Vbxlaf.putNamed ⟨n, s⟩ l → e = ⟨n, s⟩ ∨ e ∈ l
  | [], h => .inl (List.mem_singleton.mp h)
  | a :: l, h => by
    unfold Vbxlaf.putNamed at h
    split at h
    · rcases List.mem_cons.mp h with q | q
      · exact .inl q
      · exact .inr q
    · split at h
      · rcases List.mem_cons.mp h with q | q
        · exact .inl q
        · exact .inr (List.mem_cons_of_mem _ q)
      · rcases List.mem_cons.mp h with q | q
        · exact .inr (by rw [q]; exact List.mem_cons_self)
        · rcases mem_putNamed q with r | r
          · exact .inl r
          · exact .inr (List.mem_cons_of_mem _ r)
theorem used_nm {st : St0} {A : Gr} (W : Wf st) (hm : st.surveys ≠ [] → ∀ e ∈ st.entries, (one e.number ∈ A.ms ↔ Vbxlaf.recordedReach st e.number = none)) (v : Val) :
    (useP st v).surveys ≠ [] → ∀ e ∈ (useP st v).entries, (one e.number ∈ (A.used st v).ms ↔ Vbxlaf.recordedReach (useP st v) e.number = none) := by
  cases v with
  | nothing =>
    intro h e he
    show one e.number ∈ (if _ then _ else _) ↔ _
    have : one e.number ∈ (if (Sl.stI st (vp .nothing)).isSome = true then A.ms else adds A.ms (vp .nothing)) ↔ one e.number ∈ A.ms := by
      split
      · exact Iff.rfl
      · rw [mem_adds]
        exact ⟨fun q => q.resolve_right fun z => by have := congrArg Prod.fst z; have : (1 : Int) = 0 := this; omega, .inl⟩
    rw [this]; exact hm h e he
  | foreign m =>
    intro h e he
    have : one e.number ∈ (if (Sl.stI st (vp (.foreign m))).isSome = true then A.ms else adds A.ms (vp (.foreign m))) ↔ one e.number ∈ A.ms := by
      split
      · exact Iff.rfl
      · rw [mem_adds]
        exact ⟨fun q => q.resolve_right fun z => by have := congrArg Prod.fst z; have : (1 : Int) = 2 := this; omega, .inl⟩
    show one e.number ∈ (if (Sl.stI st (vp (.foreign m))).isSome = true then A.ms else adds A.ms (vp (.foreign m))) ↔ _
    rw [this]; exact hm h e he
  | object m =>
    intro h e he
    have h : st.surveys ≠ [] := h
    have he : e ∈ Vbxlaf.putNamed ⟨m, st.uses + 1⟩ st.entries := he
    have isE : (Sl.stI st (one m)).isSome = Vbxlaf.isEntry st m := by
      have := Sl.stI_isEntry st (m : Int)
      rw [Int.toNat_natCast] at this
      rw [show one m = ((1 : Int), (m : Int)) from rfl, this]
      simp
    show one e.number ∈ (if (Sl.stI st (one m)).isSome = true then A.ms else adds A.ms (one m)) ↔ Vbxlaf.recordedReach st e.number = none
    rw [isE]
    by_cases c : Vbxlaf.isEntry st m = true
    · rw [if_pos c]
      rcases mem_putNamed he with q | q
      · obtain ⟨e0, h0, e1⟩ := List.any_eq_true.mp c
        have e1 : e0.number = m := eq_of_beq e1
        have := hm h e0 h0
        rw [q]
        rw [e1] at this
        exact this
      · exact hm h e q
    · rw [if_neg c, mem_adds]
      rcases mem_putNamed he with q | q
      · rw [q]
        refine ⟨fun _ => ?_, fun _ => .inr rfl⟩
        cases r : Vbxlaf.recordedReach st m with
        | none => rfl
        | some R =>
          unfold Vbxlaf.recordedReach at r
          obtain ⟨p, hp, _⟩ := Option.map_eq_some_iff.mp r
          have h1 := List.find?_some hp
          obtain ⟨e0, h0, e1⟩ := W.kept p (List.mem_of_find?_eq_some hp)
          exact absurd (show Vbxlaf.isEntry st m = true from List.any_eq_true.mpr ⟨e0, h0, beq_iff_eq.mpr (e1.trans (eq_of_beq h1))⟩) c
      · have := hm h e q
        rw [← this]
        refine ⟨fun z => z.resolve_right fun y => ?_, .inl⟩
        have y2 : e.number = m := by have := congrArg Prod.snd y; exact Int.ofNat.inj this
        exact c (show Vbxlaf.isEntry st m = true from List.any_eq_true.mpr ⟨e, q, beq_iff_eq.mpr y2⟩)
theorem scUse : FnScope ["self", "name"] ["self", "name"] (defScope (gm 5)) := ⟨rfl, rfl, rfl, by decide +kernel, rfl, by decide +kernel, by decide +kernel⟩
theorem ok_use {f : Addr} {fd : FuncData} (F : Fun K "use" "Graph.use" (gm 5) f fd) (T : Txt K mg CG CL CS) : FnOk P w K mg base CX0 1 f fd ["self", "name"] (spUse CG) := by
  refine F.ok scUse (fun vs H Q E h => ?_) (fun cdv A0 outer s H vs Q E hr h => ?_)
  · obtain ⟨A, st, x, v, rfl, _⟩ := h
    rfl
  · obtain ⟨A, st, x, v, rfl, I, W, ⟨b, rfl, hb⟩, hv, ok, k⟩ := h
    have hu := hu_of hr
    refine ⟨_, C8.pss_cut (ps_if (pt_cmp (pc_dnotin hu (pv 1) (pe_fld (pv 0) rfl))) (pss_one (ps_dput hu (pe_fld (pv 0) rfl) (pv 1) pe_bl rfl)) pss_nil)
      (pss_cons (ps_fldaug (pv 0) pe_int in_add) (pss_cons (ps_dput hu (pe_fld (pv 0) rfl) (pv 1) (pe_fld (pv 0) rfl) rfl) (pss_one (ps_ret (pe_fld (pv 0) rfl))))), ?_⟩
    have gsd : A.g ≠ A.sd := ne_of I.ob I.sd (by intro z; cases z)
    have gnd : A.g ≠ A.nd := ne_of I.ob I.nd (by intro z; cases z)
    have bnd : b ≠ A.nd := ne_of hb I.nd (by intro z; cases z)
    have bg : b ≠ A.g := ne_of hb I.ob (by intro z; cases z)
    have bsd : b ≠ A.sd := ne_of hb I.sd (by intro z; cases z)
    refine ⟨fun σ H1 => σ = start ["self", "name"] [.ref A.g, .ref b] ∧ (∀ c o, H c = some o → c ≠ A.nd → H1 c = some o) ∧ H1 A.nd = some (.dT (tkv (A.used st v).ms)), ?_, ?_⟩
    · refine ⟨_, rfl, _, rfl, A.g, CG, A.gx, _, _, rfl, I.ob, T.cG, T.aG _ (ixG _ kG_stamps), gk_get A _ _ _ kG_stamps rfl, A.sd, _, rfl, DGet.t (k := pk (vp v)) I.sd hb, ?_⟩
      rw [I.stamp W.nok]
      show ∃ k, _ ∧ _
      rw [Option.isSome_map]
      by_cases c : (Sl.stI st (vp v)).isSome = true
      · refine ⟨_, rfl, ?_⟩
        rw [c]
        refine iteF ⟨rfl, fun _ _ e _ => e, ?_⟩
        show _ = some (HO.dT (tkv (if (Sl.stI st (vp v)).isSome = true then A.ms else _)))
        rw [if_pos c]; exact I.nd
      · refine ⟨_, rfl, ?_⟩
        have c' : (Sl.stI st (vp v)).isSome = false := by simpa using c
        rw [c']
        refine iteT ⟨_, rfl, A.g, CG, A.gx, _, _, rfl, I.ob, T.cG, T.aG _ (ixG _ kG_nn), gk_get A _ _ _ kG_nn rfl, _, rfl, A.nd, _, rfl, DPut.t (k := pk (vp v)) I.nd hb (by rw [List.length_map]; exact small1000 (by have := I.msfew; omega)), rfl, ?_, ?_⟩
        · intro c0 o e n1
          rw [upd_ne n1]; exact e
        · rw [upd_same, putK_tkv]
          show _ = some (HO.dT (tkv (if (Sl.stI st (vp v)).isSome = true then A.ms else _)))
          rw [if_neg c]
    · rintro _ H1 ⟨rfl, s1, n1⟩
      have g1 := s1 _ _ I.ob gnd
      refine ⟨_, rfl, A.g, CG, A.gx, _, _, rfl, g1, T.cG, T.aG _ (ixG _ kG_uses), gk_get A _ _ _ kG_uses rfl, _, _, rfl, rfl, A.gx, _, g1, (by show 8 < 1000; decide), ?_⟩
      rw [put_zip gK _ 1 kG_uses rfl]
      have ev : (A.vals st.made st.uses).set 1 (.int (st.uses + 1)) = A.vals st.made (st.uses + 1) := rfl
      rw [ev]
      refine ⟨_, rfl, A.g, CG, A.gx, _, _, rfl, upd_same, T.cG, T.aG _ (ixG _ kG_uses), gk_get A _ _ _ kG_uses rfl, _, rfl, A.g, CG, A.gx, _, _, rfl, upd_same, T.cG, T.aG _ (ixG _ kG_stamps), gk_get A _ _ _ kG_stamps rfl, _, rfl, A.sd, _, rfl,
        DPut.t (k := pk (vp v)) (by rw [upd_ne gsd.symm]; exact s1 _ _ I.sd I.d2) (by rw [upd_ne bg]; exact s1 _ _ hb bnd) (by rw [List.length_map]; exact small1000 (by have := I.nsfew W.nok; omega)), ?_⟩
      refine ⟨_, rfl, A.g, CG, A.gx, _, _, rfl, (by rw [upd_ne gsd]; exact upd_same), T.cG, T.aG _ (ixG _ kG_uses), gk_get A _ _ _ kG_uses rfl, ?_⟩
      have ek : putK (nkv A.ns) (pk (vp v)) (.int ((st.uses + 1 : Nat) : Int)) = nkv (Sl.puts A.ns (vp v) ((st.uses : Int) + 1)) := putK_nkv _ _ _
      rw [ek]
      have stay : ∀ c o, H c = some o → c ≠ A.g → c ≠ A.sd → c ≠ A.nd → upd (upd H1 A.g (.ins CG A.gx (gK.zip (A.vals st.made (st.uses + 1))))) A.sd (.dT (nkv (Sl.puts A.ns (vp v) ((st.uses : Int) + 1)))) c = some o := fun c o e m1 m2 m3 => by
        rw [upd_ne m2, upd_ne m1]; exact s1 c o e m3
      have nT : ∀ {c : Addr} {o : HO}, H c = some o → (∀ k, o ≠ .dT k) → (∀ C dx fs, o ≠ .ins C dx fs) → upd (upd H1 A.g (.ins CG A.gx (gK.zip (A.vals st.made (st.uses + 1))))) A.sd (.dT (nkv (Sl.puts A.ns (vp v) ((st.uses : Int) + 1)))) c = some o := fun e m1 m2 =>
        stay _ _ e (ne_of e I.ob (m2 _ _ _)) (ne_of e I.sd (m1 _)) (ne_of e I.nd (m1 _))
      have tu : Tups H (upd (upd H1 A.g (.ins CG A.gx (gK.zip (A.vals st.made (st.uses + 1))))) A.sd (.dT (nkv (Sl.puts A.ns (vp v) ((st.uses : Int) + 1))))) := fun c xs e => nT e (by intro _ z; cases z) (by intro _ _ _ z; cases z)
      have low := vok_low W ok hv
      refine k _ ?_ stay
      have hob : (useP st v).made = st.made ∧ (useP st v).uses = st.uses + 1 ∧ (useP st v).slots = st.slots ∧ (useP st v).objects = st.objects ∧ (useP st v).changed = st.changed ∧ (useP st v).slotsChanged = st.slotsChanged ∧ (useP st v).surveys = st.surveys := by
        cases v with
        | nothing => exact absurd rfl hv
        | object m => exact ⟨rfl, rfl, rfl, rfl, rfl, rfl, rfl⟩
        | foreign m => exact ⟨rfl, rfl, rfl, rfl, rfl, rfl, rfl⟩
      obtain ⟨q1, q2, q3, q4, q5, q6, q7⟩ := hob
      exact {
        ob := by rw [q1, q2]; exact (upd_ne gsd).trans upd_same
        slots := by rw [q3]; exact I.slots.keep (fun zs e => nT e (by intro _ z; cases z) (by intro _ _ _ z; cases z)) tu
        fd := by
          show _ = some (HO.dK (List.map _ (useP st v).objects))
          rw [q4]; exact nT I.fd (by intro _ z; cases z) (by intro _ _ _ z; cases z)
        fl := by rw [q4]; exact fun o ho => (I.fl o ho).keep (fun zs e => nT e (by intro _ z; cases z) (by intro _ _ _ z; cases z)) tu
        inj := by rw [q4]; exact I.inj
        fs := by rw [q4]; exact I.fs
        sd := upd_same
        sp := by
          show (Sl.puts A.ns (vp v) ((st.uses : Int) + 1)).Perm _
          refine (Sl.puts_perm I.sp _ _).trans ?_
          cases v with
          | nothing => exact absurd rfl hv
          | object m => exact Sl.puts_entry W.nok m
          | foreign m => exact Sl.puts_import W.nok m
        cd := stay _ _ I.cd (ne_of I.cd I.ob (by intro z; cases z)) I.d1.symm I.d3
        cn := I.cn
        cm := by rw [q5]; exact I.cm
        nd := (upd_ne I.d2.symm).trans ((upd_ne gnd.symm).trans n1)
        nn := by
          show (if _ then _ else _ : List (Int × Int)).Nodup
          split
          · exact I.nn
          · exact nodup_adds I.nn
        nl := fun p hp => by
          have hp : p ∈ (if (Sl.stI st (vp v)).isSome = true then A.ms else adds A.ms (vp v)) := hp
          split at hp
          · exact I.nl p hp
          · rcases mem_adds.mp hp with z | z
            · exact I.nl p z
            · rw [z]; exact low
        nm := used_nm W I.nm v
        sc := by rw [q6, q7]; exact I.sc
        d1 := I.d1
        d2 := I.d2
        d3 := I.d3 }
end
end Sv
namespace Sv
open PySem PySem.Spec PyProof.Rows L2
theorem take_snoc {α : Type} {l : List α} {i : Nat} {x : α} (h : l[i]? = some x) : l.take (i + 1) = l.take i ++ [x] := by
  rw [List.take_add_one, h]; rfl
theorem get_map {α β : Type} {f : α → β} {l : List α} {i : Nat} {y : β} (h : (l.map f)[i]? = some y) : ∃ x, l[i]? = some x ∧ y = f x := by
  rw [List.getElem?_map] at h
  obtain ⟨x, hx, e⟩ := Option.map_eq_some_iff.mp h
  exact ⟨x, hx, e.symm⟩
theorem dec_int (a b : Int) : decide (V.int a = V.int b) = decide (a = b) := by
  by_cases h : a = b
  · rw [h]; simp
  · rw [decide_eq_false h]; exact decide_eq_false fun e => h (by injection e)
section
variable {P : Program} {w : World} {K : PySem.W.Frag} {mg : Str → Option Value} {base : Heap} {CG CL CS : Addr}
theorem keys_ns (l : Sl.NS) : (nkv l).map (·.1) = (l.map (·.1)).map pk := by
  unfold nkv; rw [List.map_map, List.map_map]; rfl
/-- what sorted(self.stamps) gives -/
theorem GInv.sorted {H : Hp} {A : Gr} {st : St0} (I : GInv CG H A st) (W : Sl.NOk st) {Q : VK} (h : ∀ (qs : List (Addr × Int × Int)) (p : Addr), (∀ q ∈ qs, H q.1 = some (.tup [.int q.2.1, .int q.2.2])) → qs.map (·.2) = (Sl.nmOf st).map (·.1) → H p = none → Q (.ref p) (upd H p (.lst (qs.map fun q => V.ref q.1)))) :
    rSortDT [.ref A.sd] H Q := by
  have low : ∀ p ∈ A.ns.map (·.1), (p.1 = 1 ∧ 1 ≤ p.2 ∧ p.2 ≤ 40) ∨ (p.1 = 2 ∧ 1 ≤ p.2 ∧ p.2 ≤ 20) := fun p hp => Sl.nm_low W p (((I.sp.map (·.1)).mem_iff).mp hp)
  refine ⟨A.sd, _, A.ns.map (·.1), rfl, .inl I.sd, keys_ns _, by rw [List.length_map]; have := I.nsfew W; omega, fun p hp => ?_, fun qs p h1 h2 h3 h4 => h qs p h1 ?_ h4⟩
  · rcases low p hp with ⟨h1, h2, h3⟩ | ⟨h1, h2, h3⟩
    · exact ⟨by omega, by omega⟩
    · exact ⟨by omega, by omega⟩
  · exact Sl.sorted_is (h2.trans (I.sp.map (·.1))) h3 (Sl.codes_inc W)

/-! ### Graph.entries, Graph.imports -/
def spNames (CG : Addr) (k : Int) (pick : St0 → List Val) : Sp := fun vs H Q _ => ∃ (A : Gr) (st : St0), vs = [.ref A.g] ∧ GInv CG H A st ∧ Sl.NOk st ∧
  ∀ H' p xs, Same H H' → H p = none → H' p = some (.lst xs) → VRs H' xs (pick st) → Q (.ref p) H'
def entV (st : St0) : List Val := st.entries.map fun e => .object e.number
def impV (st : St0) : List Val := st.imports.map fun e => .foreign e.number
theorem nm_ent (st : St0) : ((Sl.nmOf st).map (·.1)).filter (fun p => decide (p.1 = 1)) = (entV st).map vp := by
  unfold Sl.nmOf Sl.enm Sl.inm entV
  rw [List.map_append, List.filter_append, List.map_map, List.map_map, List.map_map]
  rw [List.filter_eq_self.mpr, List.filter_eq_nil_iff.mpr, List.append_nil]
  · rfl
  · intro p hp
    obtain ⟨e, _, rfl⟩ := List.mem_map.mp hp
    simp
  · intro p hp
    obtain ⟨e, _, rfl⟩ := List.mem_map.mp hp
    simp
theorem nm_imp (st : St0) : ((Sl.nmOf st).map (·.1)).filter (fun p => decide (p.1 = 2)) = (impV st).map vp := by
  unfold Sl.nmOf Sl.enm Sl.inm impV
  rw [List.map_append, List.filter_append, List.map_map, List.map_map, List.map_map]
  rw [List.filter_eq_nil_iff.mpr, List.filter_eq_self.mpr, List.nil_append]
  · rfl
  · intro p hp
    obtain ⟨e, _, rfl⟩ := List.mem_map.mp hp
    simp
  · intro p hp
    obtain ⟨e, _, rfl⟩ := List.mem_map.mp hp
    simp
theorem vrs_of {H : Hp} : ∀ {qs : List (Addr × Int × Int)} {vs : List Val}, (∀ q ∈ qs, H q.1 = some (.tup [.int q.2.1, .int q.2.2])) → qs.map (·.2) = vs.map vp → VRs H (qs.map fun q => V.ref q.1) vs
  | [], [], _, _ => .nil
  | [], _ :: _, _, e => by cases e
  | _ :: _, [], _, e => by cases e
  | q :: qs, v :: vs, h, e => by
    injection e with e1 e2
    refine .cons ⟨q.1, rfl, ?_⟩ (vrs_of (fun r hr => h r (List.mem_cons_of_mem _ hr)) e2)
    rw [← e1]
    exact h q List.mem_cons_self
theorem nm_body {k : Int} {pick : St0 → List Val} (hpick : ∀ s0, ((Sl.nmOf s0).map (·.1)).filter (fun p => decide (p.1 = k)) = (pick s0).map vp)
    {vs : List V} {H : Hp} {Q : VK} {E : XK} (T : Txt K mg CG CL CS) (h : spNames CG k pick vs H Q E) :
    tRet (tLc (iList K (tCB rSortDT (tCons (tFld K (tVar 0) "stamps") tNil))) (gName 1) (tTest (tOp rEq (tOp (rIxT K) (tVar 1) (tC (.int 0))) (tC (.int k)))) (tVar 1) [1]) { nx := fun _ H' => Q .non H', rt := Q } (start ["self", "name"] vs) H := by
  obtain ⟨A, s0, rfl, I, W, k0⟩ := h
  refine ⟨_, rfl, A.g, CG, A.gx, _, _, rfl, I.ob, T.cG, T.aG _ (ixG _ kG_stamps), gk_get A _ _ _ kG_stamps rfl, ?_⟩
  dsimp only [tNil]
  refine I.sorted W fun qs p hq he hp => ?_
  refine ⟨p, rfl, ⟨_, SqL.of upd_same⟩, fun D hD => ?_⟩
  have nD := upd_free hD
  refine lc_list (K := K) (a := p) (xs := qs.map fun q => V.ref q.1) (fun i H' => Same (upd H p (.lst (qs.map fun q => V.ref q.1))) H' ∧ H' D = some (.lst (((qs.take i).filter fun q => decide (q.2.1 = k)).map fun q => V.ref q.1)))
    ⟨Same.fresh hD, upd_same⟩ (fun i H' _ q => q.1.seq (SqL.of upd_same)) ?_ ?_
  · rintro i x H' hx ⟨s1, d1⟩
    obtain ⟨q, hqi, rfl⟩ := get_map hx
    have hq' := hq q (List.mem_of_getElem? hqi)
    have hq2 : H' q.1 = some (.tup [.int q.2.1, .int q.2.2]) := s1 _ _ (by rw [upd_ne (ne_of_none hq' hp)]; exact hq')
    refine ⟨rfl, _, rfl, q.1, _, _, _, rfl, rfl, SqT.of hq2, atI_nat (j := 0) rfl, rfl, _, rfl, ?_⟩
    rw [dec_int]
    have few : ((qs.take i).filter fun q => decide (q.2.1 = k)).length < sizeLine := by
      have h1 := List.length_filter_le (fun q : Addr × Int × Int => decide (q.2.1 = k)) (qs.take i)
      have h2 : (qs.take i).length ≤ qs.length := by rw [List.length_take]; omega
      have h3 : qs.length = (Sl.nmOf s0).length := by have := congrArg List.length he; rwa [List.length_map, List.length_map] at this
      have := Sl.nm_few W
      exact small1000 (by omega)
    have tk := take_snoc hqi
    by_cases c : q.2.1 = k
    · rw [decide_eq_true c]
      refine iteT ⟨_, rfl, _, d1, by rw [List.length_map]; exact few, ?_, ?_⟩
      · intro b o e
        rw [upd_ne (ne_of_none e hD)]; exact s1 b o e
      · rw [upd_same, tk, List.filter_append, List.map_append]
        have : [q].filter (fun q => decide (q.2.1 = k)) = [q] := List.filter_eq_self.mpr fun z hz => by rw [List.mem_singleton] at hz; subst hz; exact decide_eq_true c
        rw [this]; rfl
    · rw [decide_eq_false c]
      refine iteF ⟨s1, ?_⟩
      rw [d1, tk, List.filter_append]
      have : [q].filter (fun q => decide (q.2.1 = k)) = [] := List.filter_eq_nil_iff.mpr fun z hz => by rw [List.mem_singleton] at hz; subst hz; simpa using c
      rw [this, List.append_nil]
  · rintro H' ⟨s1, d1⟩
    rw [List.length_map, List.take_length] at d1
    refine k0 H' D _ ((Same.fresh hp).trans s1) nD.2 d1 ?_
    refine vrs_of (fun q hq' => ?_) ?_
    · have := hq q (List.mem_filter.mp hq').1
      exact s1 _ _ (by rw [upd_ne (ne_of_none this hp)]; exact this)
    · rw [← hpick s0, ← he, List.filter_map]; rfl
theorem scEnt : FnScope ["self", "name"] ["self"] (defScope (gm 6)) := ⟨rfl, rfl, rfl, by decide +kernel, rfl, by decide +kernel, by decide +kernel⟩
theorem scImp : FnScope ["self", "name"] ["self"] (defScope (gm 7)) := ⟨rfl, rfl, rfl, by decide +kernel, rfl, by decide +kernel, by decide +kernel⟩
theorem ok_entries {f : Addr} {fd : FuncData} (F : Fun K "entries" "Graph.entries" (gm 6) f fd) (T : Txt K mg CG CL CS) : FnOk P w K mg base CX0 1 f fd ["self"] (spNames CG 1 entV) := by
  refine F.ok scEnt (fun vs H Q E h => ?_) (fun cdv A0 outer s H vs Q E hr h => ⟨_, ?_, nm_body (k := 1) nm_ent T h⟩)
  · obtain ⟨A, st, rfl, _⟩ := h
    rfl
  · exact pss_one (ps_ret (pe_lc (own := [("name", 1)]) rfl scEnt.nd (pi_list (pe_callB (cr_sortDT rfl) (by rfl) T.bSorted (by decide +kernel) (pa_cons (pe_fld (pv 0) rfl) pa_nil))) (blkOk_by (N := ["self", "name"]) (sc := defScope (gm 6)) (by decide +kernel))
      (fun _ _ _ _ _ => pg_name (i := 1) scEnt.nd rfl (Or.inl rfl)) (fun _ _ _ _ _ => pts_one (pt_cmpR op_eq (pe_ix ix_tup (pv 1) pe_int (fun _ _ => rfl)) (pe_num T.nO) (nomark _))) (fun _ _ _ _ _ => pv 1)))
theorem ok_imports {f : Addr} {fd : FuncData} (F : Fun K "imports" "Graph.imports" (gm 7) f fd) (T : Txt K mg CG CL CS) : FnOk P w K mg base CX0 1 f fd ["self"] (spNames CG 2 impV) := by
  refine F.ok scImp (fun vs H Q E h => ?_) (fun cdv A0 outer s H vs Q E hr h => ⟨_, ?_, nm_body (k := 2) nm_imp T h⟩)
  · obtain ⟨A, st, rfl, _⟩ := h
    rfl
  · exact pss_one (ps_ret (pe_lc (own := [("name", 1)]) rfl scImp.nd (pi_list (pe_callB (cr_sortDT rfl) (by rfl) T.bSorted (by decide +kernel) (pa_cons (pe_fld (pv 0) rfl) pa_nil))) (blkOk_by (N := ["self", "name"]) (sc := defScope (gm 7)) (by decide +kernel))
      (fun _ _ _ _ _ => pg_name (i := 1) scImp.nd rfl (Or.inl rfl)) (fun _ _ _ _ _ => pts_one (pt_cmpR op_eq (pe_ix ix_tup (pv 1) pe_int (fun _ _ => rfl)) (pe_num T.nF) (nomark _))) (fun _ _ _ _ _ => pv 1)))
end
end Sv
namespace Sv
open PySem PySem.Spec PyProof.Rows L2
theorem paired_last {α β : Type} {R : α → β → Prop} : ∀ {l : List α} {m : List β} {b : β}, Paired R l (m ++ [b]) → ∃ l0 a, l = l0 ++ [a] ∧ Paired R l0 m ∧ R a b
  | _, [], b, .cons r .nil => ⟨[], _, rfl, .nil, r⟩
  | _, c :: m, b, .cons r t => by
    obtain ⟨l0, a, rfl, h1, h2⟩ := paired_last t
    exact ⟨_ :: l0, a, rfl, .cons r h1, h2⟩
theorem list_last {α : Type} : ∀ {l : List α}, l ≠ [] → ∃ l0 a, l = l0 ++ [a]
  | [], h => absurd rfl h
  | [a], _ => ⟨[], a, rfl⟩
  | a :: b :: r, _ => by
    obtain ⟨l0, c, e⟩ := list_last (l := b :: r) (by simp)
    exact ⟨a :: l0, c, by rw [e]; rfl⟩
theorem vp_mem {R : List Val} {v : Val} : vp v ∈ R.map vp ↔ v ∈ R := by
  constructor
  · intro m
    obtain ⟨u, hu, e⟩ := List.mem_map.mp m
    rw [← vp_inj e]; exact hu
  · intro m; exact List.mem_map.mpr ⟨v, m, rfl⟩
theorem adds_vp {R : List Val} {v : Val} (h : v ∉ R) : adds (R.map vp) (vp v) = (R ++ [v]).map vp := by
  unfold adds
  rw [if_neg fun z => h (vp_mem.mp z), List.map_append]; rfl
theorem led_vok {st : St0} (W : Wf st) {vals : List Val} (hv : ∀ v ∈ vals, VOk st v) {v : Val} (h : Sl.Led (Vbxlaf.fieldsOf st) vals v) : VOk st v := by
  cases h with
  | start m _ => exact hv _ m
  | @step n _ h m _ =>
    unfold Vbxlaf.fieldsOf at m
    cases e : st.objects.find? fun p => p.number == n with
    | none => rw [e] at m; cases m
    | some p =>
      rw [e] at m
      exact W.fok p (List.mem_of_find?_eq_some e) v m
theorem led_few {st : St0} (W : Wf st) {vals : List Val} (hv : ∀ v ∈ vals, VOk st v) {R : List Val} (hn : R.Nodup) (hr : ∀ v ∈ R, Sl.Led (Vbxlaf.fieldsOf st) vals v) : R.length ≤ 60 := by
  have := Sl.few_names (l := R.map vp) ?_ fun p hp => ?_
  · rwa [List.length_map] at this
  · exact List.pairwise_map.mpr (hn.imp fun {a b} q e => q (vp_inj e))
  · obtain ⟨v, hvR, rfl⟩ := List.mem_map.mp hp
    exact vok_low W (led_vok W hv (hr v hvR)) (hr v hvR).ne

section
variable {P : Program} {w : World} {K : PySem.W.Frag} {mg : Str → Option Value} {base : Heap} {CG CL CS : Addr}
/-! ### Graph.contains -/
def hasP (st : St0) (p : Int × Int) : Bool := if p.1 = 1 then (decide (0 ≤ p.2) && Vbxlaf.exists_ st p.2.toNat) else (Sl.stI st p).isSome
def spContains (CG : Addr) : Sp := fun vs H Q _ => ∃ (A : Gr) (st : St0) (x : V) (p : Int × Int), vs = [.ref A.g, x] ∧ GInv CG H A st ∧ Wf st ∧ PR H x p ∧ Q (.bl (hasP st p)) H
theorem scContains : FnScope ["self", "value"] ["self", "value"] (defScope (gm 8)) := ⟨rfl, rfl, rfl, by decide +kernel, rfl, by decide +kernel, by decide +kernel⟩
theorem ok_contains {f : Addr} {fd : FuncData} (F : Fun K "contains" "Graph.contains" (gm 8) f fd) (T : Txt K mg CG CL CS) : FnOk P w K mg base CX0 1 f fd ["self", "value"] (spContains CG) := by
  refine F.ok scContains (fun vs H Q E h => ?_) (fun cdv A0 outer s H vs Q E hr h => ?_)
  · obtain ⟨A, st, x, p, rfl, _⟩ := h
    rfl
  · obtain ⟨A, st, x, p, rfl, I, W, ⟨b, rfl, hb⟩, k⟩ := h
    have hu := hu_of hr
    refine ⟨_, pss_one (ps_ret (pe_ifExp (pt_cmpR op_eq (pe_ix ix_tup (pv 1) pe_int (fun _ _ => rfl)) (pe_num T.nO) (nomark _))
      (pe_cmp (pc_din hu (pe_ix ix_tup (pv 1) pe_int (fun _ _ => rfl)) (pe_fld (pv 0) rfl)) rfl) (pe_cmp (pc_din hu (pv 1) (pe_fld (pv 0) rfl)) rfl))), ?_⟩
    refine ⟨_, rfl, b, _, _, _, rfl, rfl, SqT.of hb, atI_nat (j := 0) rfl, rfl, _, rfl, ?_⟩
    rw [dec_int]
    unfold hasP at k
    by_cases c : p.1 = 1
    · rw [decide_eq_true c]
      rw [if_pos c] at k
      refine iteT ⟨_, rfl, b, _, _, _, rfl, rfl, SqT.of hb, atI_nat (j := 1) rfl, _, rfl, A.g, CG, A.gx, _, _, rfl, I.ob, T.cG, T.aG _ (ixG _ kG_fields), gk_get A _ _ _ kG_fields rfl, A.fd, _, rfl, DGet.k (k := Sum.inl p.2) I.fd, ?_⟩
      rw [valV_fkv W]
      cases e : (decide (0 ≤ p.2) && Vbxlaf.exists_ st p.2.toNat)
      · rw [e] at k; rw [if_neg (by simp)]; exact k
      · rw [e] at k; rw [if_pos rfl]; exact k
    · rw [decide_eq_false c]
      rw [if_neg c] at k
      refine iteF ⟨_, rfl, _, rfl, A.g, CG, A.gx, _, _, rfl, I.ob, T.cG, T.aG _ (ixG _ kG_stamps), gk_get A _ _ _ kG_stamps rfl, A.sd, _, rfl, DGet.t (k := pk p) I.sd hb, ?_⟩
      rw [I.stamp W.nok, Option.isSome_map]
      exact k
/-! ### Graph.led_to -/
/-- at d the dict of what is led to -/
def IsR (H : Hp) (d : Addr) (R : List Val) : Prop := H d = some (.dT (tkv (R.map vp)))
def spLed (CG : Addr) (K : PySem.W.Frag) : Sp := fun vs H Q _ => ∃ (A : Gr) (st : St0) (l : Addr) (xs : List V) (vals : List Val), vs = [.ref A.g, .ref l] ∧ GInv CG H A st ∧ Wf st ∧ SqL K H l xs ∧ VRs H xs vals ∧ (∀ v ∈ vals, VOk st v) ∧ vals.length ≤ 700 ∧
  ∀ H' d R, Same H H' → H d = none → IsR H' d R → R.Nodup → (∀ v, v ∈ R ↔ Sl.Led (Vbxlaf.fieldsOf st) vals v) → Q (.ref d) H'
theorem scLed : FnScope ["self", "values", "reached", "waiting", "value"] ["self", "values"] (defScope (gm 9)) := ⟨rfl, rfl, rfl, by decide +kernel, rfl, by decide +kernel, by decide +kernel⟩
theorem ok_led {f : Addr} {fd : FuncData} (F : Fun K "led_to" "Graph.led_to" (gm 9) f fd) (T : Txt K mg CG CL CS) : FnOk P w K mg base CX0 1 f fd ["self", "values"] (spLed CG K) := by
  refine F.ok scLed (fun vs H Q E h => ?_) (fun cdv A0 outer s H vs Q E hr h => ?_)
  · obtain ⟨A, st, l, xs, vals, rfl, _⟩ := h
    rfl
  · obtain ⟨A, st, l, xs, vals, rfl, I, W, hl, hxs, ok, hlen, k⟩ := h
    have hu := hu_of hr
    refine ⟨_, pss_cons (ps_set (i := 2) scLed.nd rfl (.inl rfl) pe_dnewT) (pss_cons (ps_set (i := 3) scLed.nd rfl (.inl rfl) (pe_callTy call_list_of (by rfl) T.bList (by decide +kernel) (pa_cons (pv 1) pa_nil)))
      (pss_cons (ps_while PassesOwn.never (pt_cmpR op_gt (pe_callB call_len_seq (by rfl) T.bLen PySem.boot_len (pa_cons (pv 3) pa_nil)) pe_int (nomark _))
        (pss_cons (ps_set (i := 4) scLed.nd rfl (.inl rfl) (pe_bm0 PySem.F.plainAttrs_list PySem.F.slot_list_pop PySem.F.type_list_pop mt_pop (pv 3)))
        (pss_cons (ps_if (PW.pt (pw_or (pt_cmpR op_eq (pe_ix ix_tup (pv 4) pe_int (fun _ _ => rfl)) (pe_num T.nN) (nomark _)) (pw_or1 (pt_cmp (pc_din hu (pv 4) (pv 2)))))) (pss_one ps_continue) pss_nil)
        (pss_cons (ps_dput hu (pv 2) (pv 4) pe_bl rfl)
        (pss_one (ps_if (pt_cmpR op_eq (pe_ix ix_tup (pv 4) pe_int (fun _ _ => rfl)) (pe_num T.nO) (nomark _))
          (pss_one (ps_expr (pe_bm PySem.F.plainAttrs_list PySem.F.slot_list_extend PySem.F.type_list_extend mt_extend (pv 3) (pa_cons (pe_dget hu (pe_fld (pv 0) rfl) (pe_ix ix_tup (pv 4) pe_int (fun _ _ => rfl)) (fun _ _ => rfl)) pa_nil)))) pss_nil))))))
      (pss_one (ps_ret (pv 2))))), ?_⟩
    intro d hd
    refine ⟨_, rfl, l, xs, rfl, .inl ((Same.fresh hd).seq hl), fun wl hwl => ?_⟩
    obtain ⟨wd, hwl0⟩ := upd_free hwl
    let U := st.objects.map (·.number)
    refine ⟨fun m σ H' => ∃ (R Wl : List Val) (ys : List V) (v : Option V), σ = [some (.ref A.g), some (.ref l), some (.ref d), some (.ref wl), v] ∧ Same H H' ∧ IsR H' d R ∧ H' wl = some (.lst ys) ∧ VRs H' ys Wl ∧
      Sl.LInv (Vbxlaf.fieldsOf st) vals R Wl ∧ m = 5 * Sl.left U R + Wl.length ∧ m ≤ 1000, ⟨_, [], vals, xs, none, rfl, (Same.fresh hd).trans (Same.fresh hwl), ?_, upd_same, ?_, .start _ _, rfl, ?_⟩, ?_⟩
    · show upd _ _ _ _ = _
      rw [upd_ne wd.symm]; exact upd_same
    · exact VRs.keep hxs (.of_same ((Same.fresh hd).trans (Same.fresh hwl)))
    · have h1 := Sl.left_le U []
      have h2 : U.length = st.objects.length := List.length_map _
      have h3 := W.nums
      omega
    rintro m σ H' ⟨R, Wl, ys, v, rfl, sm, hR, hw, hys, L, hm, hm2⟩
    refine ⟨_, rfl, wl, _, rfl, .inl (SqL.of hw), _, _, rfl, rfl, _, rfl, ?_⟩
    by_cases c : Wl = []
    · subst c
      have : ys = [] := List.length_eq_zero_iff.mp (VRs.length hys)
      subst this
      refine iteF ⟨_, rfl, ?_⟩
      exact k H' d R sm hd hR L.nd L.done
    · obtain ⟨W0, u, rfl⟩ := list_last c
      obtain ⟨y0, y, rfl, hy0, hy⟩ := paired_last hys
      have lt : decide ((0 : Int) < (((y0 ++ [y]).length : Nat) : Int)) = true := decide_eq_true (by rw [List.length_append, List.length_singleton]; omega)
      rw [lt]
      obtain ⟨b, rfl, hb⟩ := hy
      have hlw : W0.length + 1 ≤ 1000 := by rw [List.length_append, List.length_singleton] at hm; omega
      have dwl : d ≠ wl := wd.symm
      have bwl : b ≠ wl := ne_of hb hw (by intro z; cases z)
      refine iteT ⟨fun σ1 H1 => ∃ m', m' < m ∧ ∃ (R Wl : List Val) (ys : List V) (v : Option V), σ1 = [some (.ref A.g), some (.ref l), some (.ref d), some (.ref wl), v] ∧ Same H H1 ∧ IsR H1 d R ∧ H1 wl = some (.lst ys) ∧ VRs H1 ys Wl ∧
        Sl.LInv (Vbxlaf.fieldsOf st) vals R Wl ∧ m' = 5 * Sl.left U R + Wl.length ∧ m' ≤ 1000, fun _ _ z => z, ?_⟩
      -- value = waiting.pop()
      refine ⟨_, rfl, .inl ⟨rfl, _, SqL.of hw⟩, wl, _, _, rfl, rfl, hw, (by rw [List.length_append, List.length_singleton, Nat.add_sub_cancel, List.getElem?_append_right (Nat.le_refl _), Nat.sub_self]; rfl), ?_⟩
      rw [List.dropLast_concat]
      have hb1 : upd H' wl (.lst y0) b = some (.tup (pt (vp u))) := by rw [upd_ne bwl]; exact hb
      have hR1 : IsR (upd H' wl (.lst y0)) d R := by show upd _ _ _ _ = _; rw [upd_ne dwl]; exact hR
      have sm1 : Same H (upd H' wl (.lst y0)) := fun c o e => by rw [upd_ne (ne_of_none e hwl0)]; exact sm c o e
      have tu1 : Tups H' (upd H' wl (.lst y0)) := Tups.put hw (by intro _ z; cases z)
      refine ⟨_, rfl, b, _, _, _, rfl, rfl, SqT.of hb1, atI_nat (j := 0) rfl, rfl, _, rfl, ?_⟩
      rw [dec_int]
      have next : ∀ (b : Bool) (X Y : Prop), (b = true → X) → (b = false → Y) → if b = true then X else Y := fun b X Y h1 h2 => by cases b; exact iteF (h2 rfl); exact iteT (h1 rfl)
      have skip : (u = .nothing ∨ u ∈ R) → ∃ m', m' < m ∧ ∃ (R' Wl : List Val) (ys : List V) (v : Option V), ([some (.ref A.g), some (.ref l), some (.ref d), some (.ref wl), some (.ref b)] : L2.St) = [some (.ref A.g), some (.ref l), some (.ref d), some (.ref wl), v] ∧ Same H (upd H' wl (.lst y0)) ∧ IsR (upd H' wl (.lst y0)) d R' ∧ upd H' wl (.lst y0) wl = some (.lst ys) ∧ VRs (upd H' wl (.lst y0)) ys Wl ∧
          Sl.LInv (Vbxlaf.fieldsOf st) vals R' Wl ∧ m' = 5 * Sl.left U R' + Wl.length ∧ m' ≤ 1000 := fun hu0 =>
        ⟨_, by rw [hm, List.length_append, List.length_singleton]; exact Nat.lt_succ_self _, R, W0, y0, _, rfl, sm1, hR1, upd_same, VRs.keep hy0 tu1, L.skip hu0, rfl, by rw [hm, List.length_append, List.length_singleton] at hm2; omega⟩
      refine next _ _ _ (fun c1 => ?_) (fun c1 => ?_)
      · have c1 : (vp u).1 = 0 := of_decide_eq_true c1
        have : u = .nothing := by cases u with
          | nothing => rfl
          | object n => exact absurd c1 (by show ¬ (1 : Int) = 0; decide)
          | foreign n => exact absurd c1 (by show ¬ (2 : Int) = 0; decide)
        exact iteT (skip (.inl this))
      · have c1 : ¬ (vp u).1 = 0 := of_decide_eq_false c1
        have un : u ≠ .nothing := fun e => c1 (by rw [e]; rfl)
        refine ⟨_, rfl, _, rfl, d, _, rfl, DGet.t (k := pk (vp u)) hR1 hb1, ?_⟩
        rw [valV_tkv]
        by_cases c2 : u ∈ R
        · rw [if_pos (vp_mem.mpr c2)]
          exact ⟨_, rfl, iteT (skip (.inr c2))⟩
        · rw [if_neg (fun z => c2 (vp_mem.mp z))]
          refine ⟨_, rfl, iteF ?_⟩
          -- reached[value] = True
          have fewR : (tkv (R.map vp)).length < sizeLine := by
            rw [List.length_map, List.length_map]; exact small1000 (by have := led_few W ok L.nd L.r; omega)
          refine ⟨_, rfl, _, rfl, d, _, rfl, DPut.t (k := pk (vp u)) hR1 hb1 fewR, ?_⟩
          rw [putK_tkv, adds_vp c2]
          have hd1 : upd H' wl (.lst y0) d ≠ none := by rw [hR1]; exact fun z => nomatch z
          have sm2 : Same H (upd (upd H' wl (.lst y0)) d (.dT (tkv ((R ++ [u]).map vp)))) := fun c o e => by rw [upd_ne (ne_of_none e hd)]; exact sm1 c o e
          have bd : b ≠ d := ne_of hb1 hR1 (by intro z; cases z)
          have hb2 : upd (upd H' wl (.lst y0)) d (.dT (tkv ((R ++ [u]).map vp))) b = some (.tup (pt (vp u))) := by rw [upd_ne bd]; exact hb1
          have tu2 : Tups H' (upd (upd H' wl (.lst y0)) d (.dT (tkv ((R ++ [u]).map vp)))) := tu1.trans (Tups.put hR1 (by intro _ z; cases z))
          have w2 : upd (upd H' wl (.lst y0)) d (.dT (tkv ((R ++ [u]).map vp))) wl = some (.lst y0) := by rw [upd_ne dwl.symm]; exact upd_same
          refine ⟨_, rfl, b, _, _, _, rfl, rfl, SqT.of hb2, atI_nat (j := 0) rfl, rfl, _, rfl, ?_⟩
          rw [dec_int]
          have lm := Sl.left_mono U R u
          cases u with
          | nothing => exact absurd rfl un
          | foreign n =>
            refine iteF ?_
            refine ⟨5 * Sl.left U (R ++ [Vbxlaf.Value.foreign n]) + W0.length, by rw [hm, List.length_append, List.length_singleton]; omega, R ++ [Vbxlaf.Value.foreign n], W0, y0, _, rfl, sm2, upd_same, w2, VRs.keep hy0 tu2, L.leaf un c2 (by intro n z; cases z), rfl, by rw [hm, List.length_append, List.length_singleton] at hm2; omega⟩
          | object n =>
            have lead := L.w _ (List.mem_append.mpr (.inr (List.mem_singleton.mpr rfl))) un
            obtain ⟨o, ho, rfl⟩ := exists_mem (led_vok W ok lead)
            have ld := Sl.left_drop (U := U) c2 (List.mem_map.mpr ⟨o, ho, rfl⟩)
            have four := W.four o ho
            have ff := fieldsOf_mem W ho
            have exo : (decide (0 ≤ (o.number : Int)) && Vbxlaf.exists_ st ((o.number : Int).toNat)) = true := by
              simp only [Int.toNat_natCast, Bool.and_eq_true, decide_eq_true_eq]
              exact ⟨by omega, List.any_eq_true.mpr ⟨o, ho, beq_self_eq_true _⟩⟩
            have gv : valV (fkv A st) (Sum.inl (o.number : Int)) = some (.ref (A.fa o.number)) := by
              rw [valV_fkv W, if_pos exo, Int.toNat_natCast]
            obtain ⟨zs, hzs, rz⟩ := I.fl o ho
            have ez := sm2 _ _ hzs
            refine iteT ⟨_, rfl, .inl ⟨rfl, _, SqL.of w2⟩, _, rfl, A.g, CG, A.gx, _, _, rfl, sm2 _ _ I.ob, T.cG, T.aG _ (ixG _ kG_fields), gk_get A _ _ _ kG_fields rfl, _, rfl, b, _, _, _, rfl, rfl, SqT.of hb2, atI_nat (j := 1) rfl, A.fd, _, rfl,
              (by rw [← gv]; exact DGet.k (k := Sum.inl (o.number : Int)) (sm2 _ _ I.fd)), wl, A.fa o.number, _, _, rfl, rfl, w2, ez, ?_, ?_⟩
            · rw [VRs.length hy0, VRs.length rz, sizeLine_eq]; omega
            · have sm3 : Same H (upd (upd (upd H' wl (.lst y0)) d (.dT (tkv ((R ++ [Vbxlaf.Value.object o.number]).map vp)))) wl (.lst (y0 ++ zs))) := fun c o' e => by rw [upd_ne (ne_of_none e hwl0)]; exact sm2 c o' e
              have tu3 : Tups H' (upd (upd (upd H' wl (.lst y0)) d (.dT (tkv ((R ++ [Vbxlaf.Value.object o.number]).map vp)))) wl (.lst (y0 ++ zs))) := tu2.trans (Tups.put w2 (by intro _ z; cases z))
              have L2 := L.node c2
              rw [ff] at L2
              refine ⟨5 * Sl.left U (R ++ [Vbxlaf.Value.object o.number]) + (W0 ++ o.fields).length, by rw [hm, List.length_append, List.length_append, List.length_singleton]; omega, R ++ [Vbxlaf.Value.object o.number], W0 ++ o.fields, y0 ++ zs, _, rfl, sm3, ?_, upd_same, paired_app (VRs.keep hy0 tu3) (VRs.keep rz (.of_same sm3)), L2, rfl, ?_⟩
              · show upd _ _ _ _ = _
                rw [upd_ne dwl]; exact upd_same
              · rw [hm, List.length_append, List.length_singleton] at hm2
                rw [List.length_append]; omega
end
end Sv
namespace Sv
open PySem PySem.Spec PyProof.Rows L2
theorem sorted_by {α : Type} (f : α → Int) : ∀ {m l : List α}, l.Perm m → l.Pairwise (fun a b => f a ≤ f b) → m.Pairwise (fun a b => f a < f b) → l = m
  | [], l, hp, _, _ => hp.eq_nil
  | b :: m, [], hp, _, _ => absurd hp.symm.eq_nil (by simp)
  | b :: m, a :: l, hp, hl, hm => by
    obtain ⟨ha, hl'⟩ := List.pairwise_cons.mp hl
    obtain ⟨hb, hm'⟩ := List.pairwise_cons.mp hm
    have e : a = b := by
      have m1 : a ∈ b :: m := hp.mem_iff.mp List.mem_cons_self
      have m2 : b ∈ a :: l := hp.mem_iff.mpr List.mem_cons_self
      rcases List.mem_cons.mp m1 with q | q
      · exact q
      · rcases List.mem_cons.mp m2 with r | r
        · exact r.symm
        · have := hb a q; have := ha b r; omega
    subst e
    rw [sorted_by f (List.Perm.cons_inv hp) hl' hm']
/-- the keys of ks taken out -/
def outOf {κ : Type} [DecidableEq κ] (ks : List κ) (k : κ) : Bool := decide (k ∉ ks)
theorem outOf_no {κ : Type} [DecidableEq κ] {ks : List κ} {k : κ} (h : k ∈ ks) : outOf ks k = false := decide_eq_false fun z => z h
theorem outOf_yes {κ : Type} [DecidableEq κ] {ks : List κ} {k : κ} (h : k ∉ ks) : outOf ks k = true := decide_eq_true h
def without_ {κ : Type} [DecidableEq κ] (kvs : List (κ × V)) (ks : List κ) : List (κ × V) := kvs.filter fun kv => outOf ks kv.1
theorem without_nil {κ : Type} [DecidableEq κ] (kvs : List (κ × V)) : without_ kvs [] = kvs := List.filter_eq_self.mpr fun _ _ => outOf_yes (by simp)
theorem dropK_without {κ : Type} [DecidableEq κ] (kvs : List (κ × V)) (ks : List κ) (k : κ) : dropK (without_ kvs ks) k = without_ kvs (ks ++ [k]) := by
  unfold dropK without_
  rw [List.filter_filter]
  apply List.filter_congr
  intro kv _
  by_cases h1 : kv.1 = k
  · rw [outOf_no (List.mem_append.mpr (.inr (List.mem_singleton.mpr h1)))]
    simp [h1]
  · by_cases h2 : kv.1 ∈ ks
    · rw [outOf_no h2, outOf_no (List.mem_append.mpr (.inl h2)), Bool.and_false]
    · rw [outOf_yes h2, outOf_yes (fun m => (List.mem_append.mp m).elim h2 fun q => h1 (List.mem_singleton.mp q))]
      simp [h1]
theorem valV_without {κ : Type} [DecidableEq κ] {kvs : List (κ × V)} {ks : List κ} {k : κ} (h : k ∉ ks) : valV (without_ kvs ks) k = valV kvs k := by
  unfold without_
  induction kvs with
  | nil => rfl
  | cons p r ih =>
    rw [List.filter_cons]
    by_cases e : p.1 = k
    · rw [if_pos (by rw [e]; exact outOf_yes h), valV_pos e, valV_pos e]
    · rw [valV_neg e]
      split
      · rw [valV_neg e]; exact ih
      · exact ih
theorem take_nodup {α : Type} {l : List α} (h : l.Nodup) {i : Nat} {x : α} (hi : l[i]? = some x) : x ∉ l.take i := by
  intro m
  obtain ⟨j, hj, e⟩ := List.getElem_of_mem m
  rw [List.length_take] at hj
  have h1 : l[j]? = some x := by
    rw [List.getElem_take] at e
    rw [List.getElem?_eq_getElem (by omega), e]
  have := nd_ix h h1 hi
  omega
section
variable {P : Program} {w : World} {K : PySem.W.Frag} {mg : Str → Option Value} {base : Heap} {CG CL CS : Addr}
/-! ### Graph.collect -/
def rootsV (st : St0) : List Val := st.slots ++ entV st
def stCollect (st : St0) : St0 := { st with objects := st.objects.filter fun object => (Vbxlaf.keptBy st).objects.contains object.number, imports := st.imports.filter fun entry => (Vbxlaf.keptBy st).foreigns.contains entry.number }
def freedOf (st : St0) : List Nat := (st.objects.map fun object => object.number).filter fun number => !(Vbxlaf.keptBy st).objects.contains number
def givenOf (st : St0) : List Nat := (st.imports.map fun entry => entry.number).filter fun number => !(Vbxlaf.keptBy st).foreigns.contains number
abbrev nkey (n : Nat) : L2.Key := Sum.inl (n : Int)
abbrev fkey (n : Nat) : List L2.Key := pk (2, (n : Int))
def Gr.gone (A : Gr) (st : St0) : Gr := { A with ns := A.ns.filter fun p => decide (p.1 ∉ (givenOf st).map fun (n : Nat) => ((2 : Int), (n : Int))) }
def spCollect (CG : Addr) : Sp := fun vs H Q _ => ∃ (A : Gr) (st : St0), vs = [.ref A.g] ∧ GInv CG H A st ∧ Wf st ∧
  ∀ H' p a b, H p = none → H a = none → H b = none → GInv CG H' (A.gone st) (stCollect st) → H' p = some (.tup [.ref a, .ref b]) → H' a = some (.lst ((freedOf st).map fun (n : Nat) => V.int (n : Int))) → H' b = some (.lst ((givenOf st).map fun (n : Nat) => V.int (n : Int))) →
    (∀ b o, H b = some o → b ≠ A.fd → b ≠ A.sd → H' b = some o) → Q (.ref p) H'
theorem kept_obj {st : St0} (W : Wf st) {R : List Val} (hR : ∀ v, v ∈ R ↔ Sl.Led (Vbxlaf.fieldsOf st) (rootsV st) v) (n : Nat) : decide (vp (.object n) ∈ R.map vp) = (Vbxlaf.keptBy st).objects.contains n := by
  have ok : ∀ v ∈ rootsV st, Sl.OkV st v := fun v hv => (List.mem_append.mp hv).elim (fun q => (W.sok v q).ok) fun q => by
    obtain ⟨e, he, rfl⟩ := List.mem_map.mp q
    exact W.eok e he
  have := Sl.reach_objects W.closed ok (n := n)
  rw [Bool.eq_iff_iff, decide_eq_true_eq, vp_mem, hR, ← this]
  simp [Vbxlaf.keptBy, rootsV, entV]
theorem kept_for {st : St0} (W : Wf st) {R : List Val} (hR : ∀ v, v ∈ R ↔ Sl.Led (Vbxlaf.fieldsOf st) (rootsV st) v) (n : Nat) : decide (vp (.foreign n) ∈ R.map vp) = (Vbxlaf.keptBy st).foreigns.contains n := by
  have ok : ∀ v ∈ rootsV st, Sl.OkV st v := fun v hv => (List.mem_append.mp hv).elim (fun q => (W.sok v q).ok) fun q => by
    obtain ⟨e, he, rfl⟩ := List.mem_map.mp q
    exact W.eok e he
  have := Sl.reach_foreigns W.closed ok (n := n)
  rw [Bool.eq_iff_iff, decide_eq_true_eq, vp_mem, hR, ← this]
  simp [Vbxlaf.keptBy, rootsV, entV]
theorem scCollect : FnScope ["self", "reached", "number", "freed", "given_up", "name"] ["self"] (defScope (gm 10)) := ⟨rfl, rfl, rfl, by decide +kernel, rfl, by decide +kernel, by decide +kernel⟩
theorem ok_collect {f : Addr} {fd : FuncData} (F : Fun K "collect" "Graph.collect" (gm 10) f fd) (T : Txt K mg CG CL CS) (mL : Metd P w K mg base CG 1 "led_to" ["self", "values"] (spLed CG K)) (mE : Metd P w K mg base CG 1 "entries" ["self"] (spNames CG 1 entV)) (mI : Metd P w K mg base CG 1 "imports" ["self"] (spNames CG 2 impV)) :
    FnOk P w K mg base CX0 2 f fd ["self"] (spCollect CG) := by
  obtain ⟨fL, fdL, gL, meL, bL⟩ := mL
  obtain ⟨fE, fdE, gE, meE, bE⟩ := mE
  obtain ⟨fI, fdI, gI, meI, bI⟩ := mI
  refine F.ok scCollect (fun vs H Q E h => ?_) (fun cdv A0 outer s H vs Q E hr h => ?_)
  · obtain ⟨A, st, rfl, _⟩ := h
    rfl
  · obtain ⟨A, st, rfl, I, W, k⟩ := h
    have hu := hu_of hr
    refine ⟨_, pss_cons (ps_set (i := 1) scCollect.nd rfl (.inr rfl) (pe_meth (pv 0) T.cG meL gL hr bL .nil pass0 (pa_cons (pe_op op_cat (pe_fld (pv 0) rfl) (pe_meth0 (pv 0) T.cG meE gE hr bE .nil pass0)) pa_nil)))
      (pss_cons (ps_setLc (i := 3) (own := [("number", 2)]) rfl scCollect.nd rfl rfl (sw_true rfl rfl rfl (by decide +kernel)) (pi_list (pe_callB (call_sortedDI rfl) (by rfl) T.bSorted (by decide +kernel) (pa_cons (pe_fld (pv 0) rfl) pa_nil)))
        (blkOk_by (N := ["self", "reached", "number", "freed", "given_up", "name"]) (sc := defScope (gm 10)) (by decide +kernel)) (fun _ _ _ _ _ => pg_name (i := 2) scCollect.nd rfl (Or.inl rfl)) (fun _ _ _ _ _ => pts_one (pt_cmp (pc_dnotin hu (pe_tup (pa_cons (pe_num T.nO) (pa_cons (pv 2) pa_nil))) (pv 1)))) (fun _ _ _ _ _ => pv 2))
      (pss_cons (ps_setLc (i := 4) (own := [("name", 5)]) (te := tOp (rIxT K) (tVar 5) (tC (.int 1))) rfl scCollect.nd rfl rfl (sw_true rfl rfl rfl (by decide +kernel)) (pi_list (pe_meth0 (pv 0) T.cG meI gI hr bI .nil pass0))
        (blkOk_by (N := ["self", "reached", "number", "freed", "given_up", "name"]) (sc := defScope (gm 10)) (by decide +kernel)) (fun _ _ _ _ _ => pg_name (i := 5) scCollect.nd rfl (Or.inl rfl)) (fun _ _ _ _ _ => pts_one (pt_cmp (pc_dnotin hu (pv 5) (pv 1)))) (fun _ _ _ _ _ => pe_ix ix_tup (pv 5) pe_int (fun _ _ => rfl)))
      (pss_cons (ps_for PassesOwn.never rfl (pi_list (pv 3)) (pg_name (i := 2) scCollect.nd rfl (Or.inl rfl)) (pss_one (ps_expr (pe_dpop1 (pe_fld (pv 0) rfl) (pv 2) ⟨rfl, rfl, rfl, rfl⟩))))
      (pss_cons (ps_for PassesOwn.never rfl (pi_list (pv 4)) (pg_name (i := 2) scCollect.nd rfl (Or.inl rfl)) (pss_one (ps_expr (pe_bm PySem.F.plainAttrs_dict PySem.F.slot_dict_pop PySem.F.type_dict_pop (mt_pop1T hu) (pe_fld (pv 0) rfl) (pa_cons (pe_tup (pa_cons (pe_num T.nF) (pa_cons (pv 2) pa_nil))) pa_nil)))))
      (pss_one (ps_ret (pe_tup (pa_cons (pv 3) (pa_cons (pv 4) pa_nil)))))))))
      , ?_⟩
    -- reached = self.led_to(self.slots + self.entries())
    obtain ⟨xs, hxs, rs⟩ := I.slots
    refine ⟨_, rfl, A.g, A.gx, _, rfl, I.ob, lk_none gK _ (by decide +kernel), _, rfl, A.g, CG, A.gx, _, _, rfl, I.ob, T.cG, T.aG _ (ixG _ kG_slots), gk_get A _ _ _ kG_slots rfl, _, rfl, A.g, A.gx, _, rfl, I.ob, lk_none gK _ (by decide +kernel), ?_⟩
    refine ⟨A, st, rfl, I, W.nok, fun H1 q ys s1 hq hq1 ry => ?_⟩
    have lenE : (entV st).length ≤ 60 := by
      have h1 : (entV st).length = st.entries.length := List.length_map _
      have h2 := Sl.nm_few W.nok
      unfold Sl.nmOf Sl.enm at h2
      rw [List.length_append, List.length_map] at h2
      omega
    have slen : xs.length = 6 := by rw [VRs.length rs, W.six]
    have ylen : ys.length ≤ 60 := by rw [VRs.length ry]; exact lenE
    refine ⟨A.sl, q, xs, ys, rfl, rfl, s1 _ _ hxs, hq1, (by rw [sizeLine_eq]; omega), fun r hr1 => ?_⟩
    have s2 : Same H (upd H1 r (.lst (xs ++ ys))) := s1.trans (Same.fresh hr1)
    have I2 := I.same s2
    refine ⟨A, st, r, xs ++ ys, rootsV st, rfl, I2, W, SqL.of upd_same, paired_app (VRs.keep rs (.of_same s2)) (VRs.keep ry (.of_same (Same.fresh hr1))), fun v hv => ?_, ?_, fun H3 d R s3 hd hR hn hm => ?_⟩
    · rcases List.mem_append.mp hv with z | z
      · exact W.sok v z
      · obtain ⟨e, he, rfl⟩ := List.mem_map.mp z
        exact W.eok e he
    · show (st.slots ++ entV st).length ≤ 700
      rw [List.length_append, W.six]; omega
    have d0 : H d = none := s2.free hd
    have s4 : Same H H3 := s2.trans s3
    -- freed = [..]
    refine ⟨_, rfl, A.g, CG, A.gx, _, _, rfl, s4 _ _ I.ob, T.cG, T.aG _ (ixG _ kG_fields), gk_get A _ _ _ kG_fields rfl, ?_⟩
    refine ⟨A.fd, fkv A st, st.objects.map (fun o => (o.number : Int)), rfl, .inl (s4 _ _ I.fd), ?_, ?_, ?_⟩
    · show List.map _ (List.map _ _) = List.map _ (List.map _ _)
      rw [List.map_map, List.map_map]; rfl
    · rw [List.length_map]; have := W.nums; omega
    intro zs p pm srt hp
    have ez : zs = st.objects.map (fun o => (o.number : Int)) := by
      refine sorted_by id pm srt ?_
      have := W.inc
      unfold Sl.Inc at this
      rw [List.pairwise_map] at this ⊢
      exact this.imp fun {a b} q => by show (a.number : Int) < (b.number : Int); omega
    subst ez
    refine ⟨p, rfl, ⟨_, SqL.of upd_same⟩, fun D hD => ?_⟩
    have s5 : Same H (upd H3 p (.lst ((st.objects.map fun o => (o.number : Int)).map V.int))) := s4.trans (Same.fresh hp)
    have s5d : Same H3 (upd H3 p (.lst ((st.objects.map fun o => (o.number : Int)).map V.int))) := Same.fresh hp
    have D0 : H D = none := s5.free hD
    refine lc_list (K := K) (a := p) (xs := (st.objects.map fun o => (o.number : Int)).map V.int) (fun i H' => Same (upd H3 p (.lst ((st.objects.map fun o => (o.number : Int)).map V.int))) H' ∧ H' D = some (.lst ((((st.objects.take i).map fun o => o.number).filter fun n => !(Vbxlaf.keptBy st).objects.contains n).map fun (n : Nat) => V.int (n : Int))))
      ⟨Same.fresh hD, upd_same⟩ (fun i H' _ q => q.1.seq (SqL.of upd_same)) ?_ ?_
    · rintro i x H' hx ⟨s6, d6⟩
      rw [List.map_map] at hx
      obtain ⟨o, ho, rfl⟩ := get_map hx
      have hR' : IsR H' d R := s6 _ _ (s5d _ _ hR)
      refine ⟨rfl, _, rfl, (by show 2 ≤ sizeLine; decide), fun t ht => ⟨_, rfl, d, _, rfl, DGet.t (k := pk (1, (o.number : Int))) (kvs := tkv (R.map vp)) (by rw [upd_ne (ne_of_none hR' ht)]; exact hR') upd_same, ?_⟩⟩
      rw [valV_tkv]
      have ek : (if ((1 : Int), (o.number : Int)) ∈ R.map vp then some (V.bl true) else none).isSome = (Vbxlaf.keptBy st).objects.contains o.number := by
        rw [← kept_obj W hm]
        show _ = decide (((1 : Int), (o.number : Int)) ∈ R.map vp)
        by_cases c : ((1 : Int), (o.number : Int)) ∈ R.map vp
        · rw [if_pos c, decide_eq_true c]; rfl
        · rw [if_neg c, decide_eq_false c]; rfl
      rw [ek]
      have tk : (st.objects.take (i + 1)).map (fun o => o.number) = (st.objects.take i).map (fun o => o.number) ++ [o.number] := by rw [take_snoc ho, List.map_append]; rfl
      have few : (((st.objects.take i).map fun o => o.number).filter fun n => !(Vbxlaf.keptBy st).objects.contains n).length ≤ 40 := by
        refine Nat.le_trans (List.length_filter_le _ _) ?_
        rw [List.length_map, List.length_take]
        have := W.nums; omega
      have s7 : Same H' (upd H' t (.tup [.int 1, .int (o.number : Int)])) := Same.fresh ht
      refine ⟨_, rfl, ?_⟩
      cases e : (Vbxlaf.keptBy st).objects.contains o.number
      · refine iteT ⟨_, rfl, _, s7 _ _ d6, by rw [List.length_map]; exact small1000 (by omega), ?_, ?_⟩
        · intro b ob eb
          rw [upd_ne (ne_of_none eb hD)]; exact s7 _ _ (s6 _ _ eb)
        · rw [upd_same, tk, List.filter_append, List.map_append]
          have : [o.number].filter (fun n => !(Vbxlaf.keptBy st).objects.contains n) = [o.number] := List.filter_eq_self.mpr fun z hz => by rw [List.mem_singleton] at hz; subst hz; rw [e]; rfl
          rw [this]; rfl
      · refine iteF ⟨s6.trans s7, ?_⟩
        refine (s7 _ _ d6).trans ?_
        rw [tk, List.filter_append]
        have : [o.number].filter (fun n => !(Vbxlaf.keptBy st).objects.contains n) = [] := List.filter_eq_nil_iff.mpr fun z hz => by rw [List.mem_singleton] at hz; subst hz; rw [e]; simp
        rw [this, List.append_nil]
    rintro H4 ⟨s6, d6⟩
    rw [List.length_map, List.length_map, List.take_length] at d6
    have d6 : H4 D = some (.lst ((freedOf st).map fun (n : Nat) => V.int (n : Int))) := d6
    have s8 : Same H H4 := s5.trans s6
    have hR4 : IsR H4 d R := s6 _ _ (s5d _ _ hR)
    -- given_up = [..]
    refine ⟨_, rfl, A.g, A.gx, _, rfl, s8 _ _ I.ob, lk_none gK _ (by decide +kernel), ?_⟩
    refine ⟨A, st, rfl, I.same s8, W.nok, fun H5 q2 ys2 s9 hq2 hq21 ry2 => ?_⟩
    refine ⟨q2, rfl, ⟨_, SqL.of hq21⟩, fun G hG => ?_⟩
    have s10 : Same H H5 := s8.trans s9
    have G0 : H G = none := s10.free hG
    have lenI : st.imports.length ≤ 60 := by
      have h2 := Sl.nm_few W.nok
      have h3 : (Sl.nmOf st).length = st.entries.length + st.imports.length := by
        show (List.map _ _ ++ List.map _ _).length = _
        rw [List.length_append, List.length_map, List.length_map]
      omega
    refine lc_list (K := K) (a := q2) (xs := ys2) (fun i H' => Same H5 H' ∧ H' G = some (.lst ((((st.imports.take i).map fun e => e.number).filter fun n => !(Vbxlaf.keptBy st).foreigns.contains n).map fun (n : Nat) => V.int (n : Int))))
      ⟨Same.fresh hG, upd_same⟩ (fun i H' _ q => q.1.seq (SqL.of hq21)) ?_ ?_
    · rintro i x H' hx ⟨s11, d11⟩
      obtain ⟨v, hv, b, rfl, hb⟩ := paired_get ry2 hx
      obtain ⟨e, he, rfl⟩ := get_map hv
      have hb' := s11 _ _ hb
      have hR' : IsR H' d R := s11 _ _ (s9 _ _ hR4)
      refine ⟨rfl, _, rfl, _, rfl, d, _, rfl, DGet.t (k := pk (2, (e.number : Int))) (kvs := tkv (R.map vp)) hR' hb', ?_⟩
      rw [valV_tkv]
      have ek : (if ((2 : Int), (e.number : Int)) ∈ R.map vp then some (V.bl true) else none).isSome = (Vbxlaf.keptBy st).foreigns.contains e.number := by
        rw [← kept_for W hm]
        show _ = decide (((2 : Int), (e.number : Int)) ∈ R.map vp)
        by_cases c : ((2 : Int), (e.number : Int)) ∈ R.map vp
        · rw [if_pos c, decide_eq_true c]; rfl
        · rw [if_neg c, decide_eq_false c]; rfl
      rw [ek]
      have tk : (st.imports.take (i + 1)).map (fun e => e.number) = (st.imports.take i).map (fun e => e.number) ++ [e.number] := by rw [take_snoc he, List.map_append]; rfl
      have few : (((st.imports.take i).map fun e => e.number).filter fun n => !(Vbxlaf.keptBy st).foreigns.contains n).length ≤ 60 := by
        refine Nat.le_trans (List.length_filter_le _ _) ?_
        rw [List.length_map, List.length_take]; omega
      refine ⟨_, rfl, ?_⟩
      cases ec : (Vbxlaf.keptBy st).foreigns.contains e.number
      · refine iteT ⟨_, rfl, b, _, _, _, rfl, rfl, SqT.of hb', atI_nat (j := 1) rfl, _, d11, by rw [List.length_map]; exact small1000 (by omega), ?_, ?_⟩
        · intro b ob eb
          rw [upd_ne (ne_of_none eb hG)]; exact s11 _ _ eb
        · rw [upd_same, tk, List.filter_append, List.map_append]
          have : [e.number].filter (fun n => !(Vbxlaf.keptBy st).foreigns.contains n) = [e.number] := List.filter_eq_self.mpr fun z hz => by rw [List.mem_singleton] at hz; subst hz; rw [ec]; rfl
          rw [this]; rfl
      · refine iteF ⟨s11, d11.trans ?_⟩
        rw [tk, List.filter_append]
        have : [e.number].filter (fun n => !(Vbxlaf.keptBy st).foreigns.contains n) = [] := List.filter_eq_nil_iff.mpr fun z hz => by rw [List.mem_singleton] at hz; subst hz; rw [ec]; simp
        rw [this, List.append_nil]
    rintro H6 ⟨s11, d11⟩
    have ly2 : ys2.length = st.imports.length := by rw [VRs.length ry2]; exact List.length_map _
    rw [ly2, List.take_length] at d11
    have d11 : H6 G = some (.lst ((givenOf st).map fun (n : Nat) => V.int (n : Int))) := d11
    have s12 : Same H H6 := s10.trans s11
    have dD : H6 D = some (.lst ((freedOf st).map fun (n : Nat) => V.int (n : Int))) := s11 _ _ (s9 _ _ d6)
    have nfd : ∀ {b : Addr} {o : HO}, H6 b = some o → (∀ kvs, o ≠ .dK kvs) → b ≠ A.fd := fun e n => ne_of e (s12 _ _ I.fd) (n _)
    have nsd : ∀ {b : Addr} {o : HO}, H6 b = some o → (∀ kvs, o ≠ .dT kvs) → b ≠ A.sd := fun e n => ne_of e (s12 _ _ I.sd) (n _)
    have fnd : (freedOf st).Nodup := (W.inc.nodup).filter _
    have gnd : (givenOf st).Nodup := (W.iinc.nodup).filter _
    -- for number in freed: self.fields.pop(number)
    refine ⟨_, rfl, D, rfl, ⟨_, SqL.of dD⟩, for_list (K := K) (a := D) (xs := (freedOf st).map fun (n : Nat) => V.int (n : Int))
      (fun i σ H' => ∃ v : Option V, σ = [some (.ref A.g), some (.ref d), v, some (.ref D), some (.ref G), none] ∧ (∀ b o, H6 b = some o → b ≠ A.fd → H' b = some o) ∧ H' A.fd = some (.dK (without_ (fkv A st) (((freedOf st).take i).map nkey))))
      ⟨none, rfl, fun _ _ e _ => e, by rw [List.take_zero, List.map_nil, without_nil]; exact s12 _ _ I.fd⟩ (fun i σ H' _ ⟨_, _, q, _⟩ => SqL.of (q _ _ dD (nfd dD (by intro _ z; cases z)))) ?_ ?_⟩
    · rintro i x σ H' hx ⟨v, rfl, st1, hf⟩
      obtain ⟨n, hn1, rfl⟩ := get_map hx
      have gA : H' A.g = some (.ins CG A.gx (gK.zip (A.vals st.made st.uses))) := st1 _ _ (s12 _ _ I.ob) (nfd (s12 _ _ I.ob) (by intro _ z; cases z))
      have hno : nkey n ∉ ((freedOf st).take i).map nkey := fun m => by
        obtain ⟨n', hn', e⟩ := List.mem_map.mp m
        have : n' = n := by have := Sum.inl.inj e; exact Int.ofNat.inj this
        subst this
        exact take_nodup fnd hn1 hn'
      have hin : Vbxlaf.exists_ st n = true := Sl.mem_numbers.mp ((List.mem_filter.mp (List.mem_of_getElem? hn1)).1)
      have hval : valV (without_ (fkv A st) (((freedOf st).take i).map nkey)) (nkey n) = some (.ref (A.fa n)) := by
        rw [valV_without hno, valV_fkv W, if_pos (by simp only [Int.toNat_natCast, Bool.and_eq_true, decide_eq_true_eq]; exact ⟨by omega, hin⟩), Int.toNat_natCast]
      refine ⟨_, rfl, A.g, CG, A.gx, _, _, rfl, gA, T.cG, T.aG _ (ixG _ kG_fields), gk_get A _ _ _ kG_fields rfl, A.fd, rfl, .inl ⟨_, .inl hf⟩, _, rfl, _, nkey n, _, hf, rfl, hval, ?_⟩
      refine ⟨some (.int (n : Int)), rfl, fun b o e n1 => ?_, ?_⟩
      · rw [upd_ne n1]; exact st1 b o e n1
      · rw [upd_same, dropK_without, take_snoc hn1, List.map_append]; rfl
    rintro σ H7 ⟨v7, rfl, st7, hf7⟩
    rw [List.length_map, List.take_length] at hf7
    -- for number in given_up: self.stamps.pop((FOREIGN, number))
    have dG7 : H7 G = some (.lst ((givenOf st).map fun (n : Nat) => V.int (n : Int))) := st7 _ _ d11 (nfd d11 (by intro _ z; cases z))
    have fdsd : A.fd ≠ A.sd := ne_of I.fd I.sd (by intro z; cases z)
    refine ⟨_, rfl, G, rfl, ⟨_, SqL.of dG7⟩, for_list (K := K) (a := G) (xs := (givenOf st).map fun (n : Nat) => V.int (n : Int))
      (fun i σ H' => ∃ v : Option V, σ = [some (.ref A.g), some (.ref d), v, some (.ref D), some (.ref G), none] ∧ (∀ b o, H7 b = some o → b ≠ A.sd → H' b = some o) ∧ H' A.sd = some (.dT (without_ (nkv A.ns) (((givenOf st).take i).map fkey))))
      ⟨v7, rfl, fun _ _ e _ => e, by rw [List.take_zero, List.map_nil, without_nil]; exact st7 _ _ (s12 _ _ I.sd) fdsd.symm⟩ (fun i σ H' _ ⟨_, _, q, _⟩ => SqL.of (q _ _ dG7 (fun z => by rw [z] at dG7; rw [st7 _ _ (s12 _ _ I.sd) fdsd.symm] at dG7; cases dG7))) ?_ ?_⟩
    · rintro i x σ H' hx ⟨v, rfl, st1, hf⟩
      obtain ⟨n, hn1, rfl⟩ := get_map hx
      have g7 : H7 A.g = some (.ins CG A.gx (gK.zip (A.vals st.made st.uses))) := st7 _ _ (s12 _ _ I.ob) (nfd (s12 _ _ I.ob) (by intro _ z; cases z))
      have gA : H' A.g = some (.ins CG A.gx (gK.zip (A.vals st.made st.uses))) := st1 _ _ g7 (ne_of I.ob I.sd (by intro z; cases z))
      have hno : fkey n ∉ ((givenOf st).take i).map fkey := fun m => by
        obtain ⟨n', hn', e⟩ := List.mem_map.mp m
        have : n' = n := by have := congrArg Prod.snd (pk_inj e); exact Int.ofNat.inj this
        subst this
        exact take_nodup gnd hn1 hn'
      have hin : n ∈ st.imports.map (·.number) := (List.mem_filter.mp (List.mem_of_getElem? hn1)).1
      obtain ⟨s0, hs0⟩ : ∃ s0, Sl.stI st (2, (n : Int)) = some s0 := by
        have := Sl.stI_isImport st (n : Int)
        rw [Int.toNat_natCast] at this
        have h2 : Vbxlaf.isImport st n = true := by
          obtain ⟨e, he, q⟩ := List.mem_map.mp hin
          exact List.any_eq_true.mpr ⟨e, he, beq_iff_eq.mpr q⟩
        rw [h2] at this
        exact Option.isSome_iff_exists.mp (by rw [this]; simp)
      have hval : valV (without_ (nkv A.ns) (((givenOf st).take i).map fkey)) (fkey n) = some (.int s0) := by
        rw [valV_without hno, I.stamp W.nok, hs0]; rfl
      refine ⟨_, rfl, A.g, CG, A.gx, _, _, rfl, gA, T.cG, T.aG _ (ixG _ kG_stamps), gk_get A _ _ _ kG_stamps rfl, .inr (.inr (.inl ⟨rfl, .inr ⟨_, hf⟩⟩)), _, rfl, (by show 2 ≤ sizeLine; decide), fun t ht => ?_⟩
      have tsd : A.sd ≠ t := ne_of_none hf ht
      refine ⟨A.sd, t, _, fkey n, _, rfl, rfl, (by rw [upd_ne tsd]; exact hf), upd_same, hval, ?_⟩
      refine ⟨some (.int (n : Int)), rfl, fun b o e n1 => ?_, ?_⟩
      · rw [upd_ne n1, upd_ne (ne_of_none (st1 b o e n1) ht)]; exact st1 b o e n1
      · rw [upd_same, dropK_without, take_snoc hn1, List.map_append]; rfl
    rintro σ H8 ⟨v8, rfl, st8, hf8⟩
    rw [List.length_map, List.take_length] at hf8
    -- return (freed, given_up)
    refine ⟨_, rfl, _, rfl, (by show 2 ≤ sizeLine; decide), fun p2 hp2 => ?_⟩
    have stay8 : ∀ b o, H6 b = some o → b ≠ A.fd → b ≠ A.sd → H8 b = some o := fun b o e n1 n2 => st8 b o (st7 b o e n1) n2
    have p20 : H6 p2 = none := by
      cases e : H6 p2 with
      | none => rfl
      | some o =>
        by_cases c1 : p2 = A.fd
        · rw [c1, st8 _ _ hf7 fdsd] at hp2; cases hp2
        · by_cases c2 : p2 = A.sd
          · rw [c2, hf8] at hp2; cases hp2
          · rw [stay8 _ _ e c1 c2] at hp2; cases hp2
    have stay : ∀ b o, H6 b = some o → b ≠ A.fd → b ≠ A.sd → upd H8 p2 (.tup [.ref D, .ref G]) b = some o := fun b o e n1 n2 => by
      rw [upd_ne (ne_of_none e p20)]; exact stay8 b o e n1 n2
    have stayH : ∀ b o, H b = some o → b ≠ A.fd → b ≠ A.sd → upd H8 p2 (.tup [.ref D, .ref G]) b = some o := fun b o e n1 n2 => stay b o (s12 _ _ e) n1 n2
    have nn : ∀ {b : Addr} {o : HO}, H b = some o → (∀ k, o ≠ .dK k) → (∀ k, o ≠ .dT k) → upd H8 p2 (.tup [.ref D, .ref G]) b = some o := fun e n1 n2 => stayH _ _ e (ne_of e I.fd (n1 _)) (ne_of e I.sd (n2 _))
    have tu : Tups H (upd H8 p2 (.tup [.ref D, .ref G])) := fun b zs e => nn e (by intro _ z; cases z) (by intro _ z; cases z)
    refine k _ p2 D G (s12.free p20) D0 G0 ?_ upd_same (stay _ _ dD (nfd dD (by intro _ z; cases z)) (nsd dD (by intro _ z; cases z))) (stay _ _ d11 (nfd d11 (by intro _ z; cases z)) (nsd d11 (by intro _ z; cases z))) stayH
    have sub : ∀ o ∈ (stCollect st).objects, o ∈ st.objects := fun o ho => (List.mem_filter.mp ho).1
    exact {
      ob := nn I.ob (by intro _ z; cases z) (by intro _ z; cases z)
      slots := I.slots.keep (fun zs e => nn e (by intro _ z; cases z) (by intro _ z; cases z)) tu
      fd := by
        show upd H8 p2 _ A.fd = _
        rw [upd_ne (fun e => by rw [← e, st8 _ _ hf7 fdsd] at hp2; cases hp2), st8 _ _ hf7 fdsd]
        show some (HO.dK ((List.map _ _).filter _)) = some (HO.dK (List.map _ (st.objects.filter _)))
        rw [List.filter_map]
        have : st.objects.filter ((fun kv : L2.Key × V => outOf ((freedOf st).map nkey) kv.1) ∘ fun o => ((Sum.inl (o.number : Int) : L2.Key), V.ref (A.fa o.number))) = st.objects.filter fun object => (Vbxlaf.keptBy st).objects.contains object.number := by
          apply List.filter_congr
          intro o ho
          show outOf ((freedOf st).map nkey) (nkey o.number) = _
          have h1 : nkey o.number ∈ (freedOf st).map nkey ↔ o.number ∈ freedOf st := by
            constructor
            · intro m
              obtain ⟨n', hn', e⟩ := List.mem_map.mp m
              have : n' = o.number := by have := Sum.inl.inj e; exact Int.ofNat.inj this
              rw [← this]; exact hn'
            · intro m; exact List.mem_map.mpr ⟨_, m, rfl⟩
          have h2 : o.number ∈ freedOf st ↔ (Vbxlaf.keptBy st).objects.contains o.number = false := by
            unfold freedOf
            rw [List.mem_filter]
            constructor
            · rintro ⟨_, q⟩; simpa using q
            · intro q; exact ⟨List.mem_map.mpr ⟨o, ho, rfl⟩, by rw [q]; rfl⟩
          cases e : (Vbxlaf.keptBy st).objects.contains o.number
          · exact outOf_no (h1.mpr (h2.mpr e))
          · exact outOf_yes fun z => by rw [h2.mp (h1.mp z)] at e; cases e
        rw [this]; rfl
      fl := fun o ho => (I.fl o (sub o ho)).keep (fun zs e => nn e (by intro _ z; cases z) (by intro _ z; cases z)) tu
      inj := fun o ho o' ho' e => I.inj o (sub o ho) o' (sub o' ho') e
      fs := fun o ho => I.fs o (sub o ho)
      sd := by
        show upd H8 p2 _ A.sd = some (HO.dT (nkv (A.gone st).ns))
        rw [upd_ne (fun e => by rw [← e, hf8] at hp2; cases hp2), hf8]
        show some (HO.dT ((List.map _ _).filter _)) = some (HO.dT (List.map _ (A.ns.filter _)))
        rw [List.filter_map]
        have : A.ns.filter ((fun kv : List L2.Key × V => outOf ((givenOf st).map fkey) kv.1) ∘ fun p => (pk p.1, V.int p.2)) = A.ns.filter fun p => decide (p.1 ∉ (givenOf st).map fun (n : Nat) => ((2 : Int), (n : Int))) := by
          apply List.filter_congr
          intro p hp
          show outOf ((givenOf st).map fkey) (pk p.1) = decide (p.1 ∉ (givenOf st).map fun (n : Nat) => ((2 : Int), (n : Int)))
          have : pk p.1 ∈ (givenOf st).map fkey ↔ p.1 ∈ (givenOf st).map fun (n : Nat) => ((2 : Int), (n : Int)) := by
            rw [show (givenOf st).map fkey = ((givenOf st).map fun (n : Nat) => ((2 : Int), (n : Int))).map pk by rw [List.map_map]; rfl]
            exact mem_pk
          by_cases c : p.1 ∈ (givenOf st).map fun (n : Nat) => ((2 : Int), (n : Int))
          · rw [decide_eq_false (fun z => z c)]; exact outOf_no (this.mpr c)
          · rw [decide_eq_true c]; exact outOf_yes fun z => c (this.mp z)
        rw [this]
      sp := by
        show (A.ns.filter _).Perm _
        refine (I.sp.filter _).trans ?_
        unfold Sl.nmOf
        rw [List.filter_append]
        have e1 : (Sl.enm st.entries).filter (fun p => decide (p.1 ∉ (givenOf st).map fun (n : Nat) => ((2 : Int), (n : Int)))) = Sl.enm st.entries := by
          apply List.filter_eq_self.mpr
          intro p hp
          obtain ⟨e, _, rfl⟩ := Sl.mem_enm.mp hp
          refine decide_eq_true fun m => ?_
          obtain ⟨n, _, q⟩ := List.mem_map.mp m
          have := congrArg Prod.fst q
          have : (2 : Int) = 1 := this
          omega
        have e2 : (Sl.inm st.imports).filter (fun p => decide (p.1 ∉ (givenOf st).map fun (n : Nat) => ((2 : Int), (n : Int)))) = Sl.inm (stCollect st).imports := by
          show (List.map _ _).filter _ = List.map _ (st.imports.filter _)
          rw [List.filter_map]
          congr 1
          apply List.filter_congr
          intro e he
          show decide (((2 : Int), (e.number : Int)) ∉ (givenOf st).map fun (n : Nat) => ((2 : Int), (n : Int))) = _
          have h1 : ((2 : Int), (e.number : Int)) ∈ ((givenOf st).map fun (n : Nat) => ((2 : Int), (n : Int))) ↔ e.number ∈ givenOf st := by
            constructor
            · intro m
              obtain ⟨n', hn', q⟩ := List.mem_map.mp m
              have : n' = e.number := by have := congrArg Prod.snd q; exact Int.ofNat.inj this
              rw [← this]; exact hn'
            · intro m; exact List.mem_map.mpr ⟨_, m, rfl⟩
          have h2 : e.number ∈ givenOf st ↔ (Vbxlaf.keptBy st).foreigns.contains e.number = false := by
            unfold givenOf
            rw [List.mem_filter]
            constructor
            · rintro ⟨_, q⟩; simpa using q
            · intro q; exact ⟨List.mem_map.mpr ⟨e, he, rfl⟩, by rw [q]; rfl⟩
          cases ec : (Vbxlaf.keptBy st).foreigns.contains e.number
          · exact decide_eq_false fun z => z (h1.mpr (h2.mpr ec))
          · exact decide_eq_true fun z => by rw [h2.mp (h1.mp z)] at ec; cases ec
        rw [e1, e2]
        exact List.Perm.refl _
      cd := stayH _ _ I.cd (ne_of I.cd I.fd (by intro z; cases z)) I.d1.symm
      cn := I.cn
      cm := I.cm
      nd := stayH _ _ I.nd (ne_of I.nd I.fd (by intro z; cases z)) I.d2.symm
      nn := I.nn
      nl := I.nl
      nm := I.nm
      sc := I.sc
      d1 := I.d1
      d2 := I.d2
      d3 := I.d3 }
end
end Sv
namespace Sv
open PySem PySem.Spec PyProof.Rows L2
section
variable {P : Program} {w : World} {K : PySem.W.Frag} {mg : Str → Option Value} {base : Heap} {CG CL CS : Addr}
/-! ### Graph.__init__ -/
def spGInit (CG : Addr) : Sp := fun vs H Q _ => ∃ (p dx : Addr), vs = [.ref p] ∧ H p = some (.ins CG dx []) ∧
  ∀ H' A, A.g = p → GInv CG H' A Vbxlaf.initialState → (∀ b o, H b = some o → b ≠ p → H' b = some o) → (H A.sl = none ∧ H A.fd = none ∧ H A.sd = none ∧ H A.cd = none ∧ H A.nd = none) → Q .non H'
theorem scGInit : FnScope ["self"] ["self"] (defScope (gm 0)) := ⟨rfl, rfl, rfl, by decide +kernel, rfl, by decide +kernel, by decide +kernel⟩
theorem ok_ginit {f : Addr} {fd : FuncData} (F : Fun K "__init__" "Graph.__init__" (gm 0) f fd) (T : Txt K mg CG CL CS) (mF : Metd P w K mg base CG 1 "forget_changes" ["self"] (spForget CG)) : FnOk P w K mg base CX0 2 f fd ["self"] (spGInit CG) := by
  obtain ⟨fF, fdF, gF, meF, bF⟩ := mF
  refine F.ok scGInit (fun vs H Q E h => ?_) (fun cdv A0 outer s H vs Q E hr h => ?_)
  · obtain ⟨p, dx, rfl, _⟩ := h
    rfl
  · obtain ⟨p, dx, rfl, hp, k⟩ := h
    refine ⟨_, pss_cons (ps_fld (pv 0) pe_int rfl) (pss_cons (ps_fld (pv 0) pe_int rfl) (pss_cons (ps_fld (pv 0) (pe_op op_rep (pe_lst (pa_cons (pe_tup (pa_cons (pe_num T.nN) (pa_cons pe_int pa_nil))) pa_nil)) (pe_num T.nC)) rfl)
      (pss_cons (ps_fld (pv 0) pe_dnewK rfl) (pss_cons (ps_fld (pv 0) pe_dnewT rfl) (pss_one (ps_expr (pe_meth0 (pv 0) T.cG meF gF hr bF .nil pass0))))))), ?_⟩
    refine ⟨_, rfl, p, CG, dx, _, rfl, hp, T.cG, T.aG _ (ixG _ kG_created), (by show 0 < 1000; decide), ?_⟩
    refine ⟨_, rfl, p, CG, dx, _, rfl, upd_same, T.cG, T.aG _ (ixG _ kG_uses), (by show 1 < 1000; decide), ?_⟩
    rw [upd_upd]
    have e0 : putF "uses" (.int 0) (putF "created" (.int 0) []) = (["created", "uses"] : List Str).zip [V.int 0, V.int 0] := by
      have := put_new (f := "uses") (v := .int 0) ["created"] [V.int 0] (by decide +kernel) rfl
      exact this
    rw [e0]
    have s1 : ∀ b o, H b = some o → b ≠ p → upd H p (.ins CG dx ((["created", "uses"] : List Str).zip [V.int 0, V.int 0])) b = some o := fun b o e n => by rw [upd_ne n]; exact e
    have f1 : ∀ b, upd H p (.ins CG dx ((["created", "uses"] : List Str).zip [V.int 0, V.int 0])) b = none → H b = none := fun b e => (upd_free e).2
    have h1 : upd H p (.ins CG dx ((["created", "uses"] : List Str).zip [V.int 0, V.int 0])) p = some (.ins CG dx ((["created", "uses"] : List Str).zip [V.int 0, V.int 0])) := upd_same
    generalize upd H p (.ins CG dx ((["created", "uses"] : List Str).zip [V.int 0, V.int 0])) = H1 at s1 f1 h1 ⊢
    refine ⟨(by show 2 ≤ sizeLine; decide), fun t ht => ⟨(by show 1 ≤ sizeLine; decide), fun l hl => ⟨l, _, _, rfl, rfl, upd_same, (by decide), (by decide), (by show 1 * 6 ≤ sizeLine; decide), fun sl hsl => ?_⟩⟩⟩
    rw [rep_one]
    obtain ⟨sl_l, hsl⟩ := upd_free hsl
    obtain ⟨sl_t, hsl⟩ := upd_free hsl
    obtain ⟨l_t, hl⟩ := upd_free hl
    have s2 : Same H1 (upd (upd (upd H1 t (.tup [.int 0, .int 0])) l (.lst [.ref t])) sl (.lst (List.replicate (Int.toNat 6) (.ref t)))) := fun b o e => by
      rw [upd_ne (ne_of_none e hsl), upd_ne (ne_of_none e hl), upd_ne (ne_of_none e ht)]; exact e
    have t2 : upd (upd (upd H1 t (.tup [.int 0, .int 0])) l (.lst [.ref t])) sl (.lst (List.replicate (Int.toNat 6) (.ref t))) t = some (.tup [.int 0, .int 0]) := by rw [upd_ne sl_t.symm, upd_ne l_t.symm, upd_same]
    have sl2 : upd (upd (upd H1 t (.tup [.int 0, .int 0])) l (.lst [.ref t])) sl (.lst (List.replicate (Int.toNat 6) (.ref t))) sl = some (.lst (List.replicate 6 (.ref t))) := upd_same
    generalize upd (upd (upd H1 t (.tup [.int 0, .int 0])) l (.lst [.ref t])) sl (.lst (List.replicate (Int.toNat 6) (.ref t))) = H2 at s2 t2 sl2 ⊢
    refine ⟨_, rfl, p, CG, dx, _, rfl, s2 _ _ h1, T.cG, T.aG _ (ixG _ kG_slots), (by show 2 < 1000; decide), ?_⟩
    rw [put_new ["created", "uses"] [V.int 0, V.int 0] (by decide +kernel) rfl]
    have h2 := s2 _ _ h1
    have tp : t ≠ p := ne_of t2 h2 (by intro z; cases z)
    have slp : sl ≠ p := ne_of sl2 h2 (by intro z; cases z)
    have e1 : ((["created", "uses"] : List Str) ++ [("slots" : Str)]).zip ([V.int 0, V.int 0] ++ [V.ref sl]) = (["created", "uses", "slots"] : List Str).zip [V.int 0, V.int 0, V.ref sl] := rfl
    rw [e1]
    have h3 : upd H2 p (.ins CG dx ((["created", "uses", "slots"] : List Str).zip [V.int 0, V.int 0, V.ref sl])) p = some (.ins CG dx ((["created", "uses", "slots"] : List Str).zip [V.int 0, V.int 0, V.ref sl])) := upd_same
    have s3 : ∀ b o, H2 b = some o → b ≠ p → upd H2 p (.ins CG dx ((["created", "uses", "slots"] : List Str).zip [V.int 0, V.int 0, V.ref sl])) b = some o := fun b o e n => by rw [upd_ne n]; exact e
    have f3 : ∀ b, upd H2 p (.ins CG dx ((["created", "uses", "slots"] : List Str).zip [V.int 0, V.int 0, V.ref sl])) b = none → H2 b = none := fun b e => (upd_free e).2
    generalize upd H2 p (.ins CG dx ((["created", "uses", "slots"] : List Str).zip [V.int 0, V.int 0, V.ref sl])) = H3 at h3 s3 f3 ⊢
    -- self.fields = {}
    intro fd_ hfd
    have fdp : fd_ ≠ p := fun e => by rw [e, h3] at hfd; cases hfd
    refine ⟨_, rfl, p, CG, dx, _, rfl, (by rw [upd_ne fdp.symm]; exact h3), T.cG, T.aG _ (ixG _ kG_fields), (by show 3 < 1000; decide), ?_⟩
    rw [put_new ["created", "uses", "slots"] [V.int 0, V.int 0, V.ref sl] (by decide +kernel) rfl]
    have e2 : ((["created", "uses", "slots"] : List Str) ++ [("fields" : Str)]).zip ([V.int 0, V.int 0, V.ref sl] ++ [V.ref fd_]) = (["created", "uses", "slots", "fields"] : List Str).zip [V.int 0, V.int 0, V.ref sl, V.ref fd_] := rfl
    rw [e2]
    have s4 : ∀ b o, H3 b = some o → b ≠ p → upd (upd H3 fd_ (.dK [])) p (.ins CG dx ((["created", "uses", "slots", "fields"] : List Str).zip [V.int 0, V.int 0, V.ref sl, V.ref fd_])) b = some o := fun b o e n => by
      rw [upd_ne n, upd_ne (ne_of_none e hfd)]; exact e
    have h4 : upd (upd H3 fd_ (.dK [])) p (.ins CG dx ((["created", "uses", "slots", "fields"] : List Str).zip [V.int 0, V.int 0, V.ref sl, V.ref fd_])) p = some (.ins CG dx ((["created", "uses", "slots", "fields"] : List Str).zip [V.int 0, V.int 0, V.ref sl, V.ref fd_])) := upd_same
    have d4 : upd (upd H3 fd_ (.dK [])) p (.ins CG dx ((["created", "uses", "slots", "fields"] : List Str).zip [V.int 0, V.int 0, V.ref sl, V.ref fd_])) fd_ = some (.dK []) := by rw [upd_ne fdp]; exact upd_same
    generalize upd (upd H3 fd_ (.dK [])) p (.ins CG dx ((["created", "uses", "slots", "fields"] : List Str).zip [V.int 0, V.int 0, V.ref sl, V.ref fd_])) = H4 at s4 h4 d4 ⊢
    -- self.stamps = {}
    intro sd_ hsd
    have sdp : sd_ ≠ p := fun e => by rw [e, h4] at hsd; cases hsd
    refine ⟨_, rfl, p, CG, dx, _, rfl, (by rw [upd_ne sdp.symm]; exact h4), T.cG, T.aG _ (ixG _ kG_stamps), (by show 4 < 1000; decide), ?_⟩
    rw [put_new ["created", "uses", "slots", "fields"] [V.int 0, V.int 0, V.ref sl, V.ref fd_] (by decide +kernel) rfl]
    have e3 : ((["created", "uses", "slots", "fields"] : List Str) ++ [("stamps" : Str)]).zip ([V.int 0, V.int 0, V.ref sl, V.ref fd_] ++ [V.ref sd_]) = (["created", "uses", "slots", "fields", "stamps"] : List Str).zip [V.int 0, V.int 0, V.ref sl, V.ref fd_, V.ref sd_] := rfl
    rw [e3]
    have s5 : ∀ b o, H4 b = some o → b ≠ p → upd (upd H4 sd_ (.dT [])) p (.ins CG dx ((["created", "uses", "slots", "fields", "stamps"] : List Str).zip [V.int 0, V.int 0, V.ref sl, V.ref fd_, V.ref sd_])) b = some o := fun b o e n => by
      rw [upd_ne n, upd_ne (ne_of_none e hsd)]; exact e
    have h5 : upd (upd H4 sd_ (.dT [])) p (.ins CG dx ((["created", "uses", "slots", "fields", "stamps"] : List Str).zip [V.int 0, V.int 0, V.ref sl, V.ref fd_, V.ref sd_])) p = some (.ins CG dx ((["created", "uses", "slots", "fields", "stamps"] : List Str).zip [V.int 0, V.int 0, V.ref sl, V.ref fd_, V.ref sd_])) := upd_same
    have d5 : upd (upd H4 sd_ (.dT [])) p (.ins CG dx ((["created", "uses", "slots", "fields", "stamps"] : List Str).zip [V.int 0, V.int 0, V.ref sl, V.ref fd_, V.ref sd_])) sd_ = some (.dT []) := by rw [upd_ne sdp]; exact upd_same
    generalize upd (upd H4 sd_ (.dT [])) p (.ins CG dx ((["created", "uses", "slots", "fields", "stamps"] : List Str).zip [V.int 0, V.int 0, V.ref sl, V.ref fd_, V.ref sd_])) = H5 at s5 h5 d5 ⊢
    -- self.forget_changes()
    refine ⟨_, rfl, p, dx, _, rfl, h5, lk_none _ _ (by decide +kernel), ?_⟩
    refine ⟨p, dx, _, rfl, h5, (by show 5 < 900; decide), fun H6 cd nd hcd hnd cn h6 c6 n6 s6 => ?_⟩
    rw [put_new ["created", "uses", "slots", "fields", "stamps"] _ (by decide +kernel) rfl, put_new ((["created", "uses", "slots", "fields", "stamps"] : List Str) ++ [("slot_changed" : Str)]) _ (by decide +kernel) rfl,
      put_new ((["created", "uses", "slots", "fields", "stamps"] : List Str) ++ [("slot_changed" : Str)] ++ [("changed_objects" : Str)]) _ (by decide +kernel) rfl] at h6
    refine k H6 ⟨p, dx, sl, fd_, sd_, cd, nd, fun _ => 0, false, [], [], []⟩ rfl ?_ ?_ ?_
    rotate_left 2
    · have back : ∀ (Hk : Hp), (∀ b o, H b = some o → b ≠ p → Hk b = some o) → ∀ b, Hk b = none → b ≠ p → H b = none := fun Hk S b hb n => by
        cases e : H b with
        | none => rfl
        | some o => rw [S _ _ e n] at hb; cases hb
      have S3 : ∀ b o, H b = some o → b ≠ p → H3 b = some o := fun b o e n => s3 _ _ (s2 _ _ (s1 _ _ e n)) n
      have S4 : ∀ b o, H b = some o → b ≠ p → H4 b = some o := fun b o e n => s4 _ _ (S3 _ _ e n) n
      have S5 : ∀ b o, H b = some o → b ≠ p → H5 b = some o := fun b o e n => s5 _ _ (S4 _ _ e n) n
      exact ⟨f1 _ hsl, back _ S3 _ hfd fdp, back _ S4 _ hsd sdp, back _ S5 _ hcd (fun (e : cd = p) => by rw [e, h5] at hcd; cases hcd), back _ S5 _ hnd (fun (e : nd = p) => by rw [e, h5] at hnd; cases hnd)⟩
    · have sl6 : H6 sl = some (.lst (List.replicate 6 (.ref t))) := s6 _ _ (s5 _ _ (s4 _ _ (s3 _ _ sl2 slp) slp) slp) slp
      have t6 : H6 t = some (.tup [.int 0, .int 0]) := s6 _ _ (s5 _ _ (s4 _ _ (s3 _ _ t2 tp) tp) tp) tp
      exact {
        ob := h6
        slots := ⟨_, sl6, paired_rep (R := VR H6) (b := Vbxlaf.Value.nothing) ⟨t, rfl, t6⟩ 6⟩
        fd := s6 _ _ (s5 _ _ d4 fdp) fdp
        fl := fun o ho => nomatch ho
        inj := fun o ho => nomatch ho
        fs := fun o ho => nomatch ho
        sd := s6 _ _ d5 sdp
        sp := List.Perm.refl _
        cd := c6
        cn := List.nodup_nil
        cm := fun n => Iff.rfl
        nd := n6
        nn := List.nodup_nil
        nl := fun p hp => nomatch hp
        nm := fun h => absurd rfl h
        sc := fun h => absurd rfl h
        d1 := ne_of_none d5 hcd
        d2 := ne_of_none d5 hnd
        d3 := cn }
    · intro b o e n
      exact s6 _ _ (s5 _ _ (s4 _ _ (s3 _ _ (s2 _ _ (s1 _ _ e n)) n) n) n) n
end
end Sv
namespace Sv
open PySem PySem.Spec PyProof.Rows L2

/-! ## what the calls of a list are asked to keep -/
def foot (A : Gr) (st : St0) : List Addr := A.g :: A.sl :: A.fd :: A.sd :: A.cd :: A.nd :: st.objects.map fun o => A.fa o.number
theorem foot_g {A : Gr} {st : St0} : A.g ∈ foot A st := List.mem_cons_self
theorem foot_sl {A : Gr} {st : St0} : A.sl ∈ foot A st := List.mem_cons_of_mem _ List.mem_cons_self
theorem foot_fd {A : Gr} {st : St0} : A.fd ∈ foot A st := List.mem_cons_of_mem _ (List.mem_cons_of_mem _ List.mem_cons_self)
theorem foot_sd {A : Gr} {st : St0} : A.sd ∈ foot A st := List.mem_cons_of_mem _ (List.mem_cons_of_mem _ (List.mem_cons_of_mem _ List.mem_cons_self))
theorem foot_cd {A : Gr} {st : St0} : A.cd ∈ foot A st := List.mem_cons_of_mem _ (List.mem_cons_of_mem _ (List.mem_cons_of_mem _ (List.mem_cons_of_mem _ List.mem_cons_self)))
theorem foot_nd {A : Gr} {st : St0} : A.nd ∈ foot A st := List.mem_cons_of_mem _ (List.mem_cons_of_mem _ (List.mem_cons_of_mem _ (List.mem_cons_of_mem _ (List.mem_cons_of_mem _ List.mem_cons_self))))
theorem foot_fa {A : Gr} {st : St0} {o : Vbxlaf.Object} (h : o ∈ st.objects) : A.fa o.number ∈ foot A st :=
  List.mem_cons_of_mem _ (List.mem_cons_of_mem _ (List.mem_cons_of_mem _ (List.mem_cons_of_mem _ (List.mem_cons_of_mem _ (List.mem_cons_of_mem _ (List.mem_map.mpr ⟨o, h, rfl⟩))))))
theorem foot_cases {A : Gr} {st : St0} {b : Addr} (h : b ∈ foot A st) : b = A.g ∨ b = A.sl ∨ b = A.fd ∨ b = A.sd ∨ b = A.cd ∨ b = A.nd ∨ ∃ o ∈ st.objects, b = A.fa o.number := by
  unfold foot at h
  simp only [List.mem_cons] at h
  rcases h with h | h | h | h | h | h | h
  · exact .inl h
  · exact .inr (.inl h)
  · exact .inr (.inr (.inl h))
  · exact .inr (.inr (.inr (.inl h)))
  · exact .inr (.inr (.inr (.inr (.inl h))))
  · exact .inr (.inr (.inr (.inr (.inr (.inl h)))))
  · obtain ⟨o, ho, e⟩ := List.mem_map.mp h
    exact .inr (.inr (.inr (.inr (.inr (.inr ⟨o, ho, e.symm⟩)))))
/-- what stands outside F stays, and stands outside F' -/
def Fr (F : List Addr) (H : Hp) (F' : List Addr) (H' : Hp) : Prop := ∀ b o, b ∉ F → H b = some o → b ∉ F' ∧ H' b = some o
theorem Fr.trans {F F1 F2 : List Addr} {H H1 H2 : Hp} (a : Fr F H F1 H1) (b : Fr F1 H1 F2 H2) : Fr F H F2 H2 := fun c o n e => by
  obtain ⟨n1, e1⟩ := a c o n e
  exact b c o n1 e1
theorem Fr.same {F : List Addr} {H H' : Hp} (s : Same H H') : Fr F H F H' := fun b o n e => ⟨n, s b o e⟩
theorem Fr.of {F F' : List Addr} {H H' : Hp} (k : ∀ b o, H b = some o → b ∉ F → H' b = some o) (hf : ∀ b ∈ F', b ∈ F ∨ H b = none) : Fr F H F' H' := fun b o n e =>
  ⟨fun m => (hf b m).elim n fun z => (by rw [e] at z; cases z), k b o e n⟩
section
variable {CG : Addr} {H H' : Hp} {A : Gr} {st : St0}
/-- no tuple stands in the graph's own places -/
theorem GInv.notup (I : GInv CG H A st) {b : Addr} {xs : List V} (h : H b = some (.tup xs)) : b ∉ foot A st := fun m => by
  obtain ⟨ys, hs, _⟩ := I.slots
  rcases foot_cases m with e | e | e | e | e | e | ⟨o, ho, e⟩
  · rw [e, I.ob] at h; cases h
  · rw [e, hs] at h; cases h
  · rw [e, I.fd] at h; cases h
  · rw [e, I.sd] at h; cases h
  · rw [e, I.cd] at h; cases h
  · rw [e, I.nd] at h; cases h
  · obtain ⟨zs, hz, _⟩ := I.fl o ho
    rw [e, hz] at h; cases h
theorem GInv.alive (I : GInv CG H A st) {b : Addr} (h : b ∈ foot A st) : H b ≠ none := by
  obtain ⟨ys, hs, _⟩ := I.slots
  rcases foot_cases h with e | e | e | e | e | e | ⟨o, ho, e⟩
  · rw [e, I.ob]; exact fun z => nomatch z
  · rw [e, hs]; exact fun z => nomatch z
  · rw [e, I.fd]; exact fun z => nomatch z
  · rw [e, I.sd]; exact fun z => nomatch z
  · rw [e, I.cd]; exact fun z => nomatch z
  · rw [e, I.nd]; exact fun z => nomatch z
  · obtain ⟨zs, hz, _⟩ := I.fl o ho
    rw [e, hz]; exact fun z => nomatch z
theorem GInv.new (I : GInv CG H A st) {b : Addr} (h : H b = none) : b ∉ foot A st := fun m => I.alive m h
theorem Fr.tups (I : GInv CG H A st) {F' : List Addr} (f : Fr (foot A st) H F' H') : Tups H H' := fun b xs e => (f b _ (I.notup e) e).2
/-- the slot's value, as the specification reads it -/
theorem slot_at (W : Wf st) {i : Nat} (h : i < 6) : Vbxlaf.slotAt st (i : Int) = st.slots.getD i .nothing ∧ st.slots[i]? = some (st.slots.getD i .nothing) := by
  refine ⟨rfl, ?_⟩
  have hi : i < st.slots.length := by rw [W.six]; exact h
  rw [List.getD_eq_getElem?_getD, List.getElem?_eq_getElem hi]; rfl
theorem slot_ok (W : Wf st) {i : Nat} (h : i < 6) : VOk st (st.slots.getD i .nothing) := W.sok _ (List.mem_of_getElem? (slot_at W h).2)
end
def okSlot (s : Int) : Bool := Vbxlaf.isSlot s
theorem slot_nat {s : Int} (h : Vbxlaf.isSlot s = true) : ∃ i : Nat, s = (i : Int) ∧ i < 6 := by
  unfold Vbxlaf.isSlot Vbxlaf.inRange Vbxlaf.slotCount at h
  simp only [Bool.and_eq_true, decide_eq_true_eq] at h
  exact ⟨s.toNat, by omega, by omega⟩
theorem range_nat {s : Int} {a b : Nat} (h : Vbxlaf.inRange s a b = true) : ∃ i : Nat, s = (i : Int) ∧ a ≤ i ∧ i ≤ b := by
  unfold Vbxlaf.inRange at h
  simp only [Bool.and_eq_true, decide_eq_true_eq] at h
  exact ⟨s.toNat, by omega, by omega, by omega⟩
/-- the arguments are within the ranges of the call n -/
def okArgs (n : Nat) (a : List Int) : Bool := match n, a with
  | 0, [s, f] => Vbxlaf.isSlot s && Vbxlaf.inRange f 0 Vbxlaf.maxFields
  | 1, [t, s] => Vbxlaf.isSlot t && Vbxlaf.isSlot s
  | 2, [s] => Vbxlaf.isSlot s
  | 3, [t, s, f] => Vbxlaf.isSlot t && (Vbxlaf.isSlot s && Vbxlaf.inRange f 0 (Vbxlaf.maxFields - 1))
  | 4, [t, f, s] => Vbxlaf.isSlot t && (Vbxlaf.isSlot s && Vbxlaf.inRange f 0 (Vbxlaf.maxFields - 1))
  | 5, [s] => Vbxlaf.isSlot s
  | 6, [_, s] => Vbxlaf.isSlot s
  | 7, [f, s] => Vbxlaf.inRange f 1 Vbxlaf.maxForeign && Vbxlaf.isSlot s
  | 8, [_] => true
  | 9, [] => true
  | 10, [] => true
  | 11, [_] => true
  | 12, [_, k, _] => Vbxlaf.inRange k 1 2
  | 13, [] => true
  | 14, [] => true
  | 15, [_, k, _] => Vbxlaf.inRange k 1 2
  | 16, [k, _] => Vbxlaf.inRange k 1 2
  | 17, [_] => true
  | 18, [] => true
  | 19, [] => true
  | _, _ => false
abbrev specStep (st : St0) (n : Nat) (a : List Int) : St0 × List Int := VbxlafNeutral.step st [(n : Int) :: a]
/-- a call that changes the graph: what it hands back and what it leaves is the specification's -/
def spChange (CG : Addr) (K : PySem.W.Frag) (n : Nat) : Sp := fun vs H Q _ => ∃ (A : Gr) (st : St0) (al : Addr) (a : List Int), vs = [.ref A.g, .ref al] ∧ GInv CG H A st ∧ Wf st ∧ H al = some (.lst (a.map V.int)) ∧ al ∉ foot A st ∧ okArgs n a = true ∧
  ∀ H' A' p, A'.g = A.g → GInv CG H' A' (specStep st n a).1 → Fr (foot A st) H (foot A' (specStep st n a).1) H' → H' p = some (.lst ((specStep st n a).2.map V.int)) → Q (.ref p) H'

section
variable {P : Program} {w : World} {K : PySem.W.Frag} {mg : Str → Option Value} {base : Heap} {CG CL CS : Addr}
abbrev ca : List Str := ["graph", "arguments"]
theorem ints_at {a : List Int} {i : Nat} {x : Int} (h : a[i]? = some x) : (a.map V.int)[i]? = some (.int x) := by rw [List.getElem?_map, h]; rfl

/-! ### clear_slot, copy_slot -/
theorem scClear : FnScope ca ca (defScope (top 16)) := ⟨rfl, rfl, rfl, by decide +kernel, rfl, by decide +kernel, by decide +kernel⟩
theorem ok_clear {f : Addr} {fd : FuncData} (F : Fun K "clear_slot" "clear_slot" (top 16) f fd) (T : Txt K mg CG CL CS) (mP : Metd P w K mg base CG 1 "put" ["self", "slot", "value"] (spPut CG)) : FnOk P w K mg base CX0 2 f fd ca (spChange CG K 2) := by
  obtain ⟨fP, fdP, gP, meP, bP⟩ := mP
  refine F.ok scClear (fun vs H Q E h => ?_) (fun cdv A0 outer s H vs Q E hr h => ?_)
  · obtain ⟨A, st, al, a, rfl, _⟩ := h
    rfl
  · obtain ⟨A, st, al, a, rfl, I, W, hal, aln, ok, k⟩ := h
    obtain ⟨s0, rfl⟩ : ∃ s0, a = [s0] := by
      match a, ok with
      | [s0], _ => exact ⟨s0, rfl⟩
    obtain ⟨i, rfl, hi⟩ := slot_nat (show Vbxlaf.isSlot s0 = true from ok)
    refine ⟨_, pss_cons (ps_expr (pe_meth (pv 0) T.cG meP gP hr bP .nil pass0 (pa_cons (pe_ix ix_list (pv 1) pe_int (fun _ _ => rfl)) (pa_cons (pe_tup (pa_cons (pe_num T.nN) (pa_cons pe_int pa_nil))) pa_nil))))
      (pss_one (ps_ret (pe_lst (pa_cons pe_int pa_nil)))), ?_⟩
    refine ⟨_, rfl, A.g, A.gx, _, rfl, I.ob, lk_none gK _ (by decide +kernel), _, rfl, al, _, _, _, rfl, rfl, SqL.of hal, atI_nat (j := 0) rfl, (by show 2 ≤ sizeLine; decide), fun t ht => ?_⟩
    refine ⟨A, st, i, .ref t, .nothing, rfl, I.same (Same.fresh ht), by rw [W.six]; exact hi, W.six, ⟨t, rfl, upd_same⟩, ?_⟩
    rintro H1 A1 hA I1 s1
    refine ⟨(by show 1 ≤ sizeLine; decide), fun p hp => ?_⟩
    have es : specStep st 2 [(i : Int)] = (Vbxlaf.setSlot st (i : Int) .nothing, [0]) := by
      show (if Vbxlaf.isSlot (i : Int) = false then _ else _) = _
      rw [show Vbxlaf.isSlot (i : Int) = true from ok]; rfl
    rw [es] at k
    refine k _ A1 p (by rw [hA]) (I1.same (Same.fresh hp)) ?_ upd_same
    refine (Fr.same (Same.fresh ht)).trans (Fr.trans (Fr.of (fun b o e n => s1 b o e (fun q => n (q ▸ foot_g)) (fun q => n (q ▸ foot_sl))) fun b hb => .inl (by rw [hA] at hb; exact hb)) (Fr.same (Same.fresh hp)))
theorem scCopy : FnScope ca ca (defScope (top 15)) := ⟨rfl, rfl, rfl, by decide +kernel, rfl, by decide +kernel, by decide +kernel⟩
theorem ok_copy {f : Addr} {fd : FuncData} (F : Fun K "copy_slot" "copy_slot" (top 15) f fd) (T : Txt K mg CG CL CS) (mP : Metd P w K mg base CG 1 "put" ["self", "slot", "value"] (spPut CG)) : FnOk P w K mg base CX0 2 f fd ca (spChange CG K 1) := by
  obtain ⟨fP, fdP, gP, meP, bP⟩ := mP
  refine F.ok scCopy (fun vs H Q E h => ?_) (fun cdv A0 outer s H vs Q E hr h => ?_)
  · obtain ⟨A, st, al, a, rfl, _⟩ := h
    rfl
  · obtain ⟨A, st, al, a, rfl, I, W, hal, aln, ok, k⟩ := h
    obtain ⟨t0, s0, rfl⟩ : ∃ t0 s0, a = [t0, s0] := by
      match a, ok with
      | [t0, s0], _ => exact ⟨t0, s0, rfl⟩
    obtain ⟨ok1, ok2⟩ := Bool.and_eq_true_iff.mp (show (Vbxlaf.isSlot t0 && Vbxlaf.isSlot s0) = true from ok)
    obtain ⟨i, rfl, hi⟩ := slot_nat ok1
    obtain ⟨j, rfl, hj⟩ := slot_nat ok2
    refine ⟨_, pss_cons (ps_expr (pe_meth (pv 0) T.cG meP gP hr bP .nil pass0 (pa_cons (pe_ix ix_list (pv 1) pe_int (fun _ _ => rfl)) (pa_cons (pe_ix ix_list (pe_fld (pv 0) rfl) (pe_ix ix_list (pv 1) pe_int (fun _ _ => rfl)) (fun _ _ => rfl)) pa_nil))))
      (pss_one (ps_ret (pe_lst (pa_cons pe_int pa_nil)))), ?_⟩
    obtain ⟨xs, hxs, rs⟩ := I.slots
    obtain ⟨y, hy, ry⟩ := paired_at rs (slot_at W hj).2
    refine ⟨_, rfl, A.g, A.gx, _, rfl, I.ob, lk_none gK _ (by decide +kernel), _, rfl, al, _, _, _, rfl, rfl, SqL.of hal, atI_nat (j := 0) rfl, _, rfl, A.g, CG, A.gx, _, _, rfl, I.ob, T.cG, T.aG _ (ixG _ kG_slots), gk_get A _ _ _ kG_slots rfl, _, rfl, al, _, _, _, rfl, rfl, SqL.of hal, atI_nat (j := 1) rfl, A.sl, _, _, _, rfl, rfl, SqL.of hxs, atI_nat hy, ?_⟩
    refine ⟨A, st, i, y, _, rfl, I, by rw [W.six]; exact hi, W.six, ry, ?_⟩
    rintro H1 A1 hA I1 s1
    refine ⟨(by show 1 ≤ sizeLine; decide), fun p hp => ?_⟩
    have es : specStep st 1 [(i : Int), (j : Int)] = (Vbxlaf.setSlot st (i : Int) (st.slots.getD j .nothing), [0]) := by
      show (if (Vbxlaf.isSlot (i : Int) && Vbxlaf.isSlot (j : Int)) = false then _ else _) = _
      rw [ok1, ok2]; rfl
    rw [es] at k
    refine k _ A1 p (by rw [hA]) (I1.same (Same.fresh hp)) ?_ upd_same
    exact Fr.trans (Fr.of (fun b o e n => s1 b o e (fun q => n (q ▸ foot_g)) (fun q => n (q ▸ foot_sl))) fun b hb => .inl (by rw [hA] at hb; exact hb)) (Fr.same (Same.fresh hp))
end
end Sv
namespace Sv
open PySem PySem.Spec PyProof.Rows L2
theorem VOk.of_objs {st st' : St0} (e : st'.objects = st.objects) {v : Val} (h : VOk st v) : VOk st' v := by
  cases v with
  | nothing => exact True.intro
  | object n =>
    show Vbxlaf.exists_ st' n = true
    unfold Vbxlaf.exists_
    rw [e]; exact h
  | foreign n => exact h
theorem Wf.setSlot {st : St0} (W : Wf st) {i : Nat} {v : Val} (h : VOk st v) : Wf (Vbxlaf.setSlot st (i : Int) v) :=
  { W with
    six := by show (st.slots.set i v).length = 6; rw [List.length_set]; exact W.six
    sok := fun u hu => (List.mem_or_eq_of_mem_set (show u ∈ st.slots.set i v from hu)).elim (fun q => VOk.of_objs (st := st) rfl (W.sok u q)) fun q => by rw [q]; exact VOk.of_objs (st := st) rfl h
    fok := fun o ho u hu => VOk.of_objs (st := st) rfl (W.fok o ho u hu) }
section
variable {P : Program} {w : World} {K : PySem.W.Frag} {mg : Str → Option Value} {base : Heap} {CG CL CS : Addr}

/-! ### create_object -/
theorem scCreateO : FnScope ["graph", "arguments", "made"] ca (defScope (top 14)) := ⟨rfl, rfl, rfl, by decide +kernel, rfl, by decide +kernel, by decide +kernel⟩
theorem ok_createO {f : Addr} {fd : FuncData} (F : Fun K "create_object" "create_object" (top 14) f fd) (T : Txt K mg CG CL CS) (mC : Metd P w K mg base CG 1 "create" ["self", "field_count"] (spCreate CG)) (mP : Metd P w K mg base CG 1 "put" ["self", "slot", "value"] (spPut CG)) : FnOk P w K mg base CX0 2 f fd ca (spChange CG K 0) := by
  obtain ⟨fC, fdC, gC, meC, bC⟩ := mC
  obtain ⟨fP, fdP, gP, meP, bP⟩ := mP
  refine F.ok scCreateO (fun vs H Q E h => ?_) (fun cdv A0 outer s H vs Q E hr h => ?_)
  · obtain ⟨A, st, al, a, rfl, _⟩ := h
    rfl
  · obtain ⟨A, st, al, a, rfl, I, W, hal, aln, ok, k⟩ := h
    obtain ⟨s0, c0, rfl⟩ : ∃ s0 c0, a = [s0, c0] := by
      match a, ok with
      | [s0, c0], _ => exact ⟨s0, c0, rfl⟩
    obtain ⟨ok1, ok2⟩ := Bool.and_eq_true_iff.mp (show (Vbxlaf.isSlot s0 && Vbxlaf.inRange c0 0 Vbxlaf.maxFields) = true from ok)
    obtain ⟨i, rfl, hi⟩ := slot_nat ok1
    obtain ⟨n, rfl, _, hn⟩ := range_nat ok2
    refine ⟨_, pss_cons (ps_if (pt_cmpR op_ge (pe_fld (pv 0) rfl) (pe_num T.nM) (nomark _)) (pss_one (ps_ret (pe_lst (pa_cons (pe_num T.n8) pa_nil)))) pss_nil)
      (pss_cons (ps_set (i := 2) scCreateO.nd rfl (.inl rfl) (pe_meth (pv 0) T.cG meC gC hr bC .nil pass0 (pa_cons (pe_ix ix_list (pv 1) pe_int (fun _ _ => rfl)) pa_nil)))
      (pss_cons (ps_expr (pe_meth (pv 0) T.cG meP gP hr bP .nil pass0 (pa_cons (pe_ix ix_list (pv 1) pe_int (fun _ _ => rfl)) (pa_cons (pv 2) pa_nil))))
      (pss_one (ps_ret (pe_lst (pa_cons (pe_ix ix_tup (pv 2) pe_int (fun _ _ => rfl)) pa_nil)))))), ?_⟩
    refine ⟨_, rfl, A.g, CG, A.gx, _, _, rfl, I.ob, T.cG, T.aG _ (ixG _ kG_created), gk_get A _ _ _ kG_created rfl, _, _, rfl, rfl, _, rfl, ?_⟩
    by_cases c : 40 ≤ st.made
    · have es : specStep st 0 [(i : Int), (n : Int)] = (st, [-8]) := by
        show (if (Vbxlaf.isSlot (i : Int) && Vbxlaf.inRange (n : Int) 0 Vbxlaf.maxFields) = false then _ else if Vbxlaf.maxObjects ≤ st.made then _ else _) = _
        rw [ok1, ok2, if_neg (by simp), if_pos (show Vbxlaf.maxObjects ≤ st.made from c)]; rfl
      rw [es] at k
      rw [decide_eq_true (show (40 : Int) ≤ (st.made : Int) by omega)]
      refine iteT ⟨(by show 1 ≤ sizeLine; decide), fun p hp => ?_⟩
      exact k _ A p rfl (I.same (Same.fresh hp)) (Fr.same (Same.fresh hp)) upd_same
    · have es : specStep st 0 [(i : Int), (n : Int)] = (Vbxlaf.setSlot (stCreate st n) (i : Int) (.object (st.made + 1)), [((st.made + 1 : Nat) : Int)]) := by
        show (if (Vbxlaf.isSlot (i : Int) && Vbxlaf.inRange (n : Int) 0 Vbxlaf.maxFields) = false then _ else if Vbxlaf.maxObjects ≤ st.made then _ else _) = _
        rw [ok1, ok2, if_neg (by simp), if_neg (show ¬ Vbxlaf.maxObjects ≤ st.made from c)]; rfl
      rw [es] at k
      rw [decide_eq_false (show ¬ (40 : Int) ≤ (st.made : Int) by omega)]
      refine iteF ⟨_, rfl, A.g, A.gx, _, rfl, I.ob, lk_none gK _ (by decide +kernel), _, rfl, al, _, _, _, rfl, rfl, SqL.of hal, atI_nat (j := 1) rfl, ?_⟩
      refine ⟨A, st, n, rfl, I, W, hn, fun H1 l p fl I1 vp1 s1 => ?_⟩
      have al1 : ∀ {b : Addr} {o : HO}, H b = some o → b ∉ foot A st → H1 b = some o := fun e n1 => s1 _ _ e (fun q => n1 (q ▸ foot_g)) (fun q => n1 (q ▸ foot_fd))
      have fr1 : Fr (foot A st) H (foot { A with fa := fun k => if k = st.made + 1 then l else A.fa k } (stCreate st n)) H1 := Fr.of (fun b o e n1 => al1 e n1) fun b hb => by
        rcases foot_cases hb with e | e | e | e | e | e | ⟨o, ho, e⟩
        · exact .inl (e ▸ foot_g)
        · exact .inl (e ▸ foot_sl)
        · exact .inl (e ▸ foot_fd)
        · exact .inl (e ▸ foot_sd)
        · exact .inl (e ▸ foot_cd)
        · exact .inl (e ▸ foot_nd)
        · have e : b = (if o.number = st.made + 1 then l else A.fa o.number) := e
          rcases List.mem_append.mp ho with ho | ho
          · rw [if_neg (by have := W.low o ho; omega)] at e
            exact .inl (e ▸ foot_fa ho)
          · rw [List.mem_singleton] at ho
            subst ho
            rw [if_pos rfl] at e
            exact .inr (e ▸ fl)
      obtain ⟨aln1, hal1⟩ := fr1 _ _ aln hal
      obtain ⟨pb, pe, hpb⟩ := vp1
      cases pe
      refine ⟨_, rfl, A.g, A.gx, _, rfl, I1.ob, lk_none gK _ (by decide +kernel), _, rfl, al, _, _, _, rfl, rfl, SqL.of hal1, atI_nat (j := 0) rfl, _, rfl, ?_⟩
      refine ⟨{ A with fa := fun k => if k = st.made + 1 then l else A.fa k }, stCreate st n, i, .ref p, .object (st.made + 1), rfl, I1, by show i < st.slots.length; rw [W.six]; exact hi, W.six, ⟨p, rfl, hpb⟩, ?_⟩
      intro H2 A2 hA2 I2 s2
      have fr2 : Fr (foot { A with fa := fun k => if k = st.made + 1 then l else A.fa k } (stCreate st n)) H1 (foot A2 (Vbxlaf.setSlot (stCreate st n) (i : Int) (.object (st.made + 1)))) H2 := Fr.of (fun b o e n1 => s2 b o e (fun q => n1 (q ▸ foot_g)) (fun q => n1 (q ▸ foot_sl))) fun b hb => .inl (by rw [hA2] at hb; exact hb)
      have hp2 := (fr2.tups I1) _ _ hpb
      refine ⟨_, rfl, p, _, _, _, rfl, rfl, SqT.of hp2, atI_nat (j := 1) rfl, (by show 1 ≤ sizeLine; decide), fun r hr2 => ?_⟩
      exact k _ A2 r (by rw [hA2]) (I2.same (Same.fresh hr2)) ((fr1.trans fr2).trans (Fr.same (Same.fresh hr2))) upd_same

/-! ### field_refusal -/
def refV (st : St0) (v : Val) (j : Nat) : V := match v with
  | .object n => if (Vbxlaf.fieldsOf st n).length ≤ j then .int (-5) else .non
  | _ => .int (-3)
def spRef (CG : Addr) : Sp := fun vs H Q _ => ∃ (A : Gr) (st : St0) (x : V) (v : Val) (j : Nat), vs = [.ref A.g, x, .int (j : Int)] ∧ GInv CG H A st ∧ Wf st ∧ VR H x v ∧ VOk st v ∧ Q (refV st v j) H
theorem scRef : FnScope ["graph", "holder", "field"] ["graph", "holder", "field"] (defScope (top 17)) := ⟨rfl, rfl, rfl, by decide +kernel, rfl, by decide +kernel, by decide +kernel⟩
theorem fd_get {H : Hp} {A : Gr} {st : St0} (I : GInv CG H A st) (W : Wf st) {o : Vbxlaf.Object} (ho : o ∈ st.objects) : DGet H A.fd (.int (o.number : Int)) (some (.ref (A.fa o.number))) := by
  have exo : (decide (0 ≤ (o.number : Int)) && Vbxlaf.exists_ st ((o.number : Int).toNat)) = true := by
    simp only [Int.toNat_natCast, Bool.and_eq_true, decide_eq_true_eq]
    exact ⟨by omega, List.any_eq_true.mpr ⟨o, ho, beq_self_eq_true _⟩⟩
  have gv : valV (fkv A st) (Sum.inl (o.number : Int)) = some (.ref (A.fa o.number)) := by
    rw [valV_fkv W, if_pos exo, Int.toNat_natCast]
  rw [← gv]; exact DGet.k (k := Sum.inl (o.number : Int)) I.fd
theorem ok_ref {f : Addr} {fd : FuncData} (F : Fun K "field_refusal" "field_refusal" (top 17) f fd) (T : Txt K mg CG CL CS) : FnOk P w K mg base CX0 1 f fd ["graph", "holder", "field"] (spRef CG) := by
  refine F.ok scRef (fun vs H Q E h => ?_) (fun cdv A0 outer s H vs Q E hr h => ?_)
  · obtain ⟨A, st, x, v, j, rfl, _⟩ := h
    rfl
  · obtain ⟨A, st, x, v, j, rfl, I, W, ⟨b, rfl, hb⟩, ok, k⟩ := h
    have hu := hu_of hr
    refine ⟨_, pss_cons (ps_if (pt_cmpR op_ne (pe_ix ix_tup (pv 1) pe_int (fun _ _ => rfl)) (pe_num T.nO) (nomark _)) (pss_one (ps_ret (pe_num T.n3))) pss_nil)
      (pss_cons (ps_if (pt_cmpR op_ge (pv 2) (pe_callB call_len_seq (by rfl) T.bLen PySem.boot_len (pa_cons (pe_dget hu (pe_fld (pv 0) rfl) (pe_ix ix_tup (pv 1) pe_int (fun _ _ => rfl)) (fun _ _ => rfl)) pa_nil)) (nomark _)) (pss_one (ps_ret (pe_num T.n5))) pss_nil)
      (pss_one (ps_ret pe_non))), ?_⟩
    refine ⟨_, rfl, b, _, _, _, rfl, rfl, SqT.of hb, atI_nat (j := 0) rfl, rfl, _, rfl, ?_⟩
    rw [dec_int]
    cases v with
    | nothing => exact iteT k
    | foreign n => exact iteT k
    | object n =>
      obtain ⟨o, ho, rfl⟩ := exists_mem ok
      obtain ⟨zs, hzs, rz⟩ := I.fl o ho
      have k : Q (if (Vbxlaf.fieldsOf st o.number).length ≤ j then .int (-5) else .non) H := k
      rw [fieldsOf_mem W ho] at k
      refine iteF ⟨_, rfl, _, rfl, A.g, CG, A.gx, _, _, rfl, I.ob, T.cG, T.aG _ (ixG _ kG_fields), gk_get A _ _ _ kG_fields rfl, _, rfl, b, _, _, _, rfl, rfl, SqT.of hb, atI_nat (j := 1) rfl, A.fd, _, rfl, fd_get I W ho, A.fa o.number, _, rfl, .inl (SqL.of hzs), _, _, rfl, rfl, _, rfl, ?_⟩
      have len : zs.length = o.fields.length := VRs.length rz
      rw [len]
      by_cases c : o.fields.length ≤ j
      · rw [decide_eq_true (show (o.fields.length : Int) ≤ (j : Int) by omega)]
        rw [if_pos c] at k
        exact iteT k
      · rw [decide_eq_false (show ¬ (o.fields.length : Int) ≤ (j : Int) by omega)]
        rw [if_neg c] at k
        exact iteF k

/-! ### read_field -/
theorem scRead : FnScope ["graph", "arguments", "holder", "field", "refusal", "value"] ca (defScope (top 18)) := ⟨rfl, rfl, rfl, by decide +kernel, rfl, by decide +kernel, by decide +kernel⟩
theorem code_of (v : Val) : (Vbxlaf.valueCode v).map V.int = pt (vp v) := by cases v <;> rfl
theorem ok_read {f : Addr} {fd : FuncData} (F : Fun K "read_field" "read_field" (top 18) f fd) (T : Txt K mg CG CL CS) (cR : Callee P w K mg base 1 "field_refusal" ["graph", "holder", "field"] (spRef CG)) (mP : Metd P w K mg base CG 1 "put" ["self", "slot", "value"] (spPut CG)) : FnOk P w K mg base CX0 2 f fd ca (spChange CG K 3) := by
  obtain ⟨fR, fdR, gR, mgR, kpR, bR⟩ := cR
  obtain ⟨fP, fdP, gP, meP, bP⟩ := mP
  refine F.ok scRead (fun vs H Q E h => ?_) (fun cdv A0 outer s H vs Q E hr h => ?_)
  · obtain ⟨A, st, al, a, rfl, _⟩ := h
    rfl
  · obtain ⟨A, st, al, a, rfl, I, W, hal, aln, ok, k⟩ := h
    have hu := hu_of hr
    obtain ⟨t0, s0, f0, rfl⟩ : ∃ t0 s0 f0, a = [t0, s0, f0] := by
      match a, ok with
      | [t0, s0, f0], _ => exact ⟨t0, s0, f0, rfl⟩
    obtain ⟨ok1, ok23⟩ := Bool.and_eq_true_iff.mp (show (Vbxlaf.isSlot t0 && (Vbxlaf.isSlot s0 && Vbxlaf.inRange f0 0 (Vbxlaf.maxFields - 1))) = true from ok)
    obtain ⟨ok2, ok3⟩ := Bool.and_eq_true_iff.mp ok23
    obtain ⟨i, rfl, hi⟩ := slot_nat ok1
    obtain ⟨j, rfl, hj⟩ := slot_nat ok2
    obtain ⟨n, rfl, _, hn⟩ := range_nat ok3
    refine ⟨_, pss_cons (ps_set (i := 2) scRead.nd rfl (.inl rfl) (pe_ix ix_list (pe_fld (pv 0) rfl) (pe_ix ix_list (pv 1) pe_int (fun _ _ => rfl)) (fun _ _ => rfl)))
      (pss_cons (ps_set (i := 3) scRead.nd rfl (.inl rfl) (pe_ix ix_list (pv 1) pe_int (fun _ _ => rfl)))
      (pss_cons (ps_set (i := 4) scRead.nd rfl (.inl rfl) (pe_call gR hr rfl mgR kpR bR .nil pass0 (pa_cons (pv 0) (pa_cons (pv 2) (pa_cons (pv 3) pa_nil)))))
      (pss_cons (ps_if (pt_cmp (pc_notN (pv 4))) (pss_one (ps_ret (pe_lst (pa_cons (pv 4) pa_nil)))) pss_nil)
      (pss_cons (ps_set (i := 5) scRead.nd rfl (.inl rfl) (pe_ix ix_list (pe_dget hu (pe_fld (pv 0) rfl) (pe_ix ix_tup (pv 2) pe_int (fun _ _ => rfl)) (fun _ _ => rfl)) (pv 3) (fun _ _ => rfl)))
      (pss_cons (ps_expr (pe_meth (pv 0) T.cG meP gP hr bP .nil pass0 (pa_cons (pe_ix ix_list (pv 1) pe_int (fun _ _ => rfl)) (pa_cons (pv 5) pa_nil))))
      (pss_one (ps_ret (pe_callTy call_list_of (by rfl) T.bList (by decide +kernel) (pa_cons (pv 5) pa_nil))))))))), ?_⟩
    obtain ⟨xs, hxs, rs⟩ := I.slots
    obtain ⟨y, hy, ry⟩ := paired_at rs (slot_at W hj).2
    have vok := slot_ok W hj
    have esl : Vbxlaf.slotAt st (j : Int) = st.slots.getD j .nothing := rfl
    have es0 : specStep st 3 [(i : Int), (j : Int), (n : Int)] = Vbxlaf.withField st (j : Int) (n : Int) fun _ value => (Vbxlaf.setSlot st (i : Int) value, Vbxlaf.valueCode value) := by
      show (if (Vbxlaf.isSlot (i : Int) && (Vbxlaf.isSlot (j : Int) && Vbxlaf.inRange (n : Int) 0 (Vbxlaf.maxFields - 1))) = false then _ else _) = _
      rw [ok1, ok2, ok3]; rfl
    rw [es0] at k
    unfold Vbxlaf.withField at k
    rw [esl] at k
    generalize st.slots.getD j .nothing = v at ry vok k
    refine ⟨_, rfl, A.g, CG, A.gx, _, _, rfl, I.ob, T.cG, T.aG _ (ixG _ kG_slots), gk_get A _ _ _ kG_slots rfl, _, rfl, al, _, _, _, rfl, rfl, SqL.of hal, atI_nat (j := 1) rfl, A.sl, _, _, _, rfl, rfl, SqL.of hxs, atI_nat hy, ?_⟩
    refine ⟨_, rfl, al, _, _, _, rfl, rfl, SqL.of hal, atI_nat (j := 2) rfl, ?_⟩
    refine ⟨_, rfl, _, rfl, _, rfl, A, st, y, v, n, rfl, I, W, ry, vok, ?_⟩
    obtain ⟨b, rfl, hb⟩ := ry
    refine ⟨_, rfl, _, rfl, ?_⟩
    cases v with
    | nothing =>
      refine iteT ⟨_, rfl, (by show 1 ≤ sizeLine; decide), fun p hp => ?_⟩
      exact k _ A p rfl (I.same (Same.fresh hp)) (Fr.same (Same.fresh hp)) upd_same
    | foreign m =>
      refine iteT ⟨_, rfl, (by show 1 ≤ sizeLine; decide), fun p hp => ?_⟩
      exact k _ A p rfl (I.same (Same.fresh hp)) (Fr.same (Same.fresh hp)) upd_same
    | object m =>
      obtain ⟨o, ho, rfl⟩ := exists_mem vok
      have ff := fieldsOf_mem W ho
      have er : refV st (.object o.number) n = if o.fields.length ≤ n then .int (-5) else .non := by
        show (if (Vbxlaf.fieldsOf st o.number).length ≤ n then _ else _) = _
        rw [ff]
      rw [er]
      simp only [ff, Int.toNat_natCast] at k
      by_cases c : o.fields.length ≤ n
      · rw [if_pos c]
        have hnone : o.fields[n]? = none := List.getElem?_eq_none c
        rw [hnone] at k
        refine iteT ⟨_, rfl, (by show 1 ≤ sizeLine; decide), fun p hp => ?_⟩
        exact k _ A p rfl (I.same (Same.fresh hp)) (Fr.same (Same.fresh hp)) upd_same
      · rw [if_neg c]
        have hsome : o.fields[n]? = some (o.fields[n]'(by omega)) := List.getElem?_eq_getElem (by omega)
        rw [hsome] at k
        have vok2 : VOk st (o.fields[n]'(by omega)) := W.fok o ho _ (List.getElem_mem _)
        generalize o.fields[n]'(by omega) = v2 at hsome k vok2
        obtain ⟨zs, hzs, rz⟩ := I.fl o ho
        obtain ⟨y2, hy2, ry2⟩ := paired_at rz hsome
        refine iteF ⟨_, rfl, A.g, CG, A.gx, _, _, rfl, I.ob, T.cG, T.aG _ (ixG _ kG_fields), gk_get A _ _ _ kG_fields rfl, _, rfl, b, _, _, _, rfl, rfl, SqT.of hb, atI_nat (j := 1) rfl, A.fd, _, rfl, fd_get I W ho, _, rfl, A.fa o.number, _, _, _, rfl, rfl, SqL.of hzs, atI_nat hy2, ?_⟩
        refine ⟨_, rfl, A.g, A.gx, _, rfl, I.ob, lk_none gK _ (by decide +kernel), _, rfl, al, _, _, _, rfl, rfl, SqL.of hal, atI_nat (j := 0) rfl, _, rfl, ?_⟩
        refine ⟨A, st, i, y2, v2, rfl, I, by rw [W.six]; exact hi, W.six, ry2, ?_⟩
        intro H1 A1 hA I1 s1
        have fr : Fr (foot A st) H (foot A1 (Vbxlaf.setSlot st (i : Int) v2)) H1 := Fr.of (fun b o e n1 => s1 b o e (fun q => n1 (q ▸ foot_g)) (fun q => n1 (q ▸ foot_sl))) fun b hb => .inl (by rw [hA] at hb; exact hb)
        obtain ⟨b2, rfl, hb2⟩ := ry2
        refine ⟨_, rfl, b2, _, rfl, .inr (SqT.of (fr.tups I _ _ hb2)), fun p hp => ?_⟩
        exact k _ A1 p (by rw [hA]) (I1.same (Same.fresh hp)) (fr.trans (Fr.same (Same.fresh hp))) (by rw [code_of]; exact upd_same)
end
end Sv
namespace Sv
open PySem PySem.Spec PyProof.Rows L2
section
variable {P : Program} {w : World} {K : PySem.W.Frag} {mg : Str → Option Value} {base : Heap} {CG CL CS : Addr}
/-! ### write_field -/
theorem scWriteF : FnScope ["graph", "arguments", "holder", "field", "refusal", "changed"] ca (defScope (top 19)) := ⟨rfl, rfl, rfl, by decide +kernel, rfl, by decide +kernel, by decide +kernel⟩
theorem ok_writeF {f : Addr} {fd : FuncData} (F : Fun K "write_field" "write_field" (top 19) f fd) (T : Txt K mg CG CL CS) (cR : Callee P w K mg base 1 "field_refusal" ["graph", "holder", "field"] (spRef CG)) (mW : Metd P w K mg base CG 1 "write" ["self", "number", "field", "value"] (spWrite CG)) : FnOk P w K mg base CX0 2 f fd ca (spChange CG K 4) := by
  obtain ⟨fR, fdR, gR, mgR, kpR, bR⟩ := cR
  obtain ⟨fP, fdP, gP, meP, bP⟩ := mW
  refine F.ok scWriteF (fun vs H Q E h => ?_) (fun cdv A0 outer s H vs Q E hr h => ?_)
  · obtain ⟨A, st, al, a, rfl, _⟩ := h
    rfl
  · obtain ⟨A, st, al, a, rfl, I, W, hal, aln, ok, k⟩ := h
    have hu := hu_of hr
    obtain ⟨t0, f0, s0, rfl⟩ : ∃ t0 f0 s0, a = [t0, f0, s0] := by
      match a, ok with
      | [t0, f0, s0], _ => exact ⟨t0, f0, s0, rfl⟩
    obtain ⟨ok1, ok23⟩ := Bool.and_eq_true_iff.mp (show (Vbxlaf.isSlot t0 && (Vbxlaf.isSlot s0 && Vbxlaf.inRange f0 0 (Vbxlaf.maxFields - 1))) = true from ok)
    obtain ⟨ok2, ok3⟩ := Bool.and_eq_true_iff.mp ok23
    obtain ⟨i, rfl, hi⟩ := slot_nat ok1
    obtain ⟨j, rfl, hj⟩ := slot_nat ok2
    obtain ⟨n, rfl, _, hn⟩ := range_nat ok3
    refine ⟨_, pss_cons (ps_set (i := 2) scWriteF.nd rfl (.inl rfl) (pe_ix ix_list (pe_fld (pv 0) rfl) (pe_ix ix_list (pv 1) pe_int (fun _ _ => rfl)) (fun _ _ => rfl)))
      (pss_cons (ps_set (i := 3) scWriteF.nd rfl (.inl rfl) (pe_ix ix_list (pv 1) pe_int (fun _ _ => rfl)))
      (pss_cons (ps_set (i := 4) scWriteF.nd rfl (.inl rfl) (pe_call gR hr rfl mgR kpR bR .nil pass0 (pa_cons (pv 0) (pa_cons (pv 2) (pa_cons (pv 3) pa_nil)))))
      (pss_cons (ps_if (pt_cmp (pc_notN (pv 4))) (pss_one (ps_ret (pe_lst (pa_cons (pv 4) pa_nil)))) pss_nil)
      (pss_cons (ps_set (i := 5) scWriteF.nd rfl (.inl rfl) (pe_meth (pv 0) T.cG meP gP hr bP .nil pass0 (pa_cons (pe_ix ix_tup (pv 2) pe_int (fun _ _ => rfl)) (pa_cons (pv 3) (pa_cons (pe_ix ix_list (pe_fld (pv 0) rfl) (pe_ix ix_list (pv 1) pe_int (fun _ _ => rfl)) (fun _ _ => rfl)) pa_nil)))))
      (pss_one (ps_ret (pe_lst (pa_cons (pe_ifExp (pt_val (pv 5)) pe_int pe_int) pa_nil)))))))), ?_⟩
    obtain ⟨xs, hxs, rs⟩ := I.slots
    obtain ⟨y, hy, ry⟩ := paired_at rs (slot_at W hi).2
    obtain ⟨z, hz, rz0⟩ := paired_at rs (slot_at W hj).2
    have vok := slot_ok W hi
    have es0 : specStep st 4 [(i : Int), (n : Int), (j : Int)] = Vbxlaf.withField st (i : Int) (n : Int) fun number old => if st.slots.getD j .nothing = old then (st, [0]) else (stWrite st number n (st.slots.getD j .nothing), [1]) := by
      show (if (Vbxlaf.isSlot (i : Int) && (Vbxlaf.isSlot (j : Int) && Vbxlaf.inRange (n : Int) 0 (Vbxlaf.maxFields - 1))) = false then _ else _) = _
      rw [ok1, ok2, ok3]; rfl
    rw [es0] at k
    unfold Vbxlaf.withField at k
    rw [show Vbxlaf.slotAt st (i : Int) = st.slots.getD i .nothing from rfl] at k
    generalize st.slots.getD i .nothing = v at ry vok k
    generalize st.slots.getD j .nothing = u at rz0 k
    refine ⟨_, rfl, A.g, CG, A.gx, _, _, rfl, I.ob, T.cG, T.aG _ (ixG _ kG_slots), gk_get A _ _ _ kG_slots rfl, _, rfl, al, _, _, _, rfl, rfl, SqL.of hal, atI_nat (j := 0) rfl, A.sl, _, _, _, rfl, rfl, SqL.of hxs, atI_nat hy, ?_⟩
    refine ⟨_, rfl, al, _, _, _, rfl, rfl, SqL.of hal, atI_nat (j := 1) rfl, ?_⟩
    refine ⟨_, rfl, _, rfl, _, rfl, A, st, y, v, n, rfl, I, W, ry, vok, ?_⟩
    obtain ⟨b, rfl, hb⟩ := ry
    refine ⟨_, rfl, _, rfl, ?_⟩
    cases v with
    | nothing =>
      refine iteT ⟨_, rfl, (by show 1 ≤ sizeLine; decide), fun p hp => ?_⟩
      exact k _ A p rfl (I.same (Same.fresh hp)) (Fr.same (Same.fresh hp)) upd_same
    | foreign m =>
      refine iteT ⟨_, rfl, (by show 1 ≤ sizeLine; decide), fun p hp => ?_⟩
      exact k _ A p rfl (I.same (Same.fresh hp)) (Fr.same (Same.fresh hp)) upd_same
    | object m =>
      obtain ⟨o, ho, rfl⟩ := exists_mem vok
      have ff := fieldsOf_mem W ho
      have er : refV st (.object o.number) n = if o.fields.length ≤ n then .int (-5) else .non := by
        show (if (Vbxlaf.fieldsOf st o.number).length ≤ n then _ else _) = _
        rw [ff]
      rw [er]
      simp only [ff, Int.toNat_natCast] at k
      by_cases c : o.fields.length ≤ n
      · rw [if_pos c]
        have hnone : o.fields[n]? = none := List.getElem?_eq_none c
        rw [hnone] at k
        refine iteT ⟨_, rfl, (by show 1 ≤ sizeLine; decide), fun p hp => ?_⟩
        exact k _ A p rfl (I.same (Same.fresh hp)) (Fr.same (Same.fresh hp)) upd_same
      · rw [if_neg c]
        have hsome : o.fields[n]? = some (o.fields[n]'(by omega)) := List.getElem?_eq_getElem (by omega)
        rw [hsome] at k
        generalize o.fields[n]'(by omega) = v2 at hsome k
        refine iteF ⟨_, rfl, A.g, A.gx, _, rfl, I.ob, lk_none gK _ (by decide +kernel), _, rfl, b, _, _, _, rfl, rfl, SqT.of hb, atI_nat (j := 1) rfl, _, rfl, _, rfl, A.g, CG, A.gx, _, _, rfl, I.ob, T.cG, T.aG _ (ixG _ kG_slots), gk_get A _ _ _ kG_slots rfl, _, rfl, al, _, _, _, rfl, rfl, SqL.of hal, atI_nat (j := 2) rfl, A.sl, _, _, _, rfl, rfl, SqL.of hxs, atI_nat hz, ?_⟩
        refine ⟨A, st, o, n, z, u, v2, rfl, I, W, ho, hsome, rz0, fun c1 H1 I1 s1 => ?_, fun c1 H1 I1 s1 => ?_⟩
        · have k : ∀ H' A' p, A'.g = A.g → GInv CG H' A' (if u = v2 then (st, ([0] : List Int)) else (stWrite st o.number n u, [1])).1 → Fr (foot A st) H (foot A' (if u = v2 then (st, ([0] : List Int)) else (stWrite st o.number n u, [1])).1) H' → H' p = some (.lst ((if u = v2 then (st, ([0] : List Int)) else (stWrite st o.number n u, [1])).2.map V.int)) → Q (.ref p) H' := k
          rw [if_pos c1] at k
          have fr : Fr (foot A st) H (foot A st) H1 := Fr.of (fun b o' e n1 => s1 b o' e (fun q => n1 (q ▸ foot_cd)) (fun q => n1 (q ▸ foot_fa ho))) fun b hb => .inl hb
          refine ⟨_, rfl, _, rfl, iteF ⟨(by show 1 ≤ sizeLine; decide), fun p hp => ?_⟩⟩
          exact k _ A p rfl (I1.same (Same.fresh hp)) (fr.trans (Fr.same (Same.fresh hp))) upd_same
        · have k : ∀ H' A' p, A'.g = A.g → GInv CG H' A' (if u = v2 then (st, ([0] : List Int)) else (stWrite st o.number n u, [1])).1 → Fr (foot A st) H (foot A' (if u = v2 then (st, ([0] : List Int)) else (stWrite st o.number n u, [1])).1) H' → H' p = some (.lst ((if u = v2 then (st, ([0] : List Int)) else (stWrite st o.number n u, [1])).2.map V.int)) → Q (.ref p) H' := k
          rw [if_neg c1] at k
          have ft : foot { A with cs := adds A.cs o.number } (stWrite st o.number n u) = foot A st := by
            unfold foot
            congr 6
            show List.map _ (List.map _ _) = _
            rw [List.map_map]
            apply List.map_congr_left
            intro o' _
            show A.fa (setF o.number n u o').number = _
            rw [setF_num]
          have fr : Fr (foot A st) H (foot { A with cs := adds A.cs o.number } (stWrite st o.number n u)) H1 := by
            rw [ft]
            exact Fr.of (fun b o' e n1 => s1 b o' e (fun q => n1 (q ▸ foot_cd)) (fun q => n1 (q ▸ foot_fa ho))) fun b hb => .inl hb
          refine ⟨_, rfl, _, rfl, iteT ⟨(by show 1 ≤ sizeLine; decide), fun p hp => ?_⟩⟩
          exact k _ { A with cs := adds A.cs o.number } p rfl (I1.same (Same.fresh hp)) (fr.trans (Fr.same (Same.fresh hp))) upd_same

/-! ### export_slot -/
theorem foot_used {A : Gr} {st : St0} {v : Val} : foot (A.used st v) (useP st v) = foot A st := by
  cases v <;> rfl
theorem fr_used {A : Gr} {st : St0} {v : Val} {H H1 : Hp} (s1 : ∀ b o, H b = some o → b ≠ A.g → b ≠ A.sd → b ≠ A.nd → H1 b = some o) : Fr (foot A st) H (foot (A.used st v) (useP st v)) H1 := by
  rw [foot_used]
  exact Fr.of (fun b o e n => s1 b o e (fun q => n (q ▸ foot_g)) (fun q => n (q ▸ foot_sd)) (fun q => n (q ▸ foot_nd))) fun b hb => .inl hb
theorem scExport : FnScope ["graph", "arguments", "name"] ca (defScope (top 20)) := ⟨rfl, rfl, rfl, by decide +kernel, rfl, by decide +kernel, by decide +kernel⟩
theorem ok_export {f : Addr} {fd : FuncData} (F : Fun K "export_slot" "export_slot" (top 20) f fd) (T : Txt K mg CG CL CS) (mU : Metd P w K mg base CG 1 "use" ["self", "name"] (spUse CG)) : FnOk P w K mg base CX0 2 f fd ca (spChange CG K 5) := by
  obtain ⟨fU, fdU, gU, meU, bU⟩ := mU
  refine F.ok scExport (fun vs H Q E h => ?_) (fun cdv A0 outer s H vs Q E hr h => ?_)
  · obtain ⟨A, st, al, a, rfl, _⟩ := h
    rfl
  · obtain ⟨A, st, al, a, rfl, I, W, hal, aln, ok, k⟩ := h
    obtain ⟨s0, rfl⟩ : ∃ s0, a = [s0] := by
      match a, ok with
      | [s0], _ => exact ⟨s0, rfl⟩
    have ok1 : Vbxlaf.isSlot s0 = true := ok
    obtain ⟨i, rfl, hi⟩ := slot_nat ok1
    refine ⟨_, pss_cons (ps_set (i := 2) scExport.nd rfl (.inl rfl) (pe_ix ix_list (pe_fld (pv 0) rfl) (pe_ix ix_list (pv 1) pe_int (fun _ _ => rfl)) (fun _ _ => rfl)))
      (pss_cons (ps_if (pt_cmpR op_eq (pe_ix ix_tup (pv 2) pe_int (fun _ _ => rfl)) (pe_num T.nN) (nomark _)) (pss_one (ps_ret (pe_lst (pa_cons (pe_num T.n3) pa_nil)))) pss_nil)
      (pss_one (ps_ret (pe_lst (pa_cons (pe_ix ix_tup (pv 2) pe_int (fun _ _ => rfl)) (pa_cons (pe_ix ix_tup (pv 2) pe_int (fun _ _ => rfl)) (pa_cons (pe_meth (pv 0) T.cG meU gU hr bU .nil pass0 (pa_cons (pv 2) pa_nil)) pa_nil))))))), ?_⟩
    obtain ⟨xs, hxs, rs⟩ := I.slots
    obtain ⟨y, hy, ry⟩ := paired_at rs (slot_at W hi).2
    have vok := slot_ok W hi
    have es : ∀ v, st.slots.getD i .nothing = v → specStep st 5 [(i : Int)] = match v with
        | .nothing => (st, [-3])
        | .object n => (Vbxlaf.useEntry st n, Vbxlaf.toInts [1, n, st.uses + 1])
        | .foreign n => (Vbxlaf.useImport st n, Vbxlaf.toInts [2, n, st.uses + 1]) := by
      intro v hv
      show (if Vbxlaf.isSlot (i : Int) = false then _ else _) = _
      rw [ok1, if_neg (by simp)]
      show (match Vbxlaf.slotAt st (i : Int) with | .nothing => _ | .object n => _ | .foreign n => _) = _
      rw [show Vbxlaf.slotAt st (i : Int) = v from hv]
      cases v <;> rfl
    have es := es _ rfl
    rw [es] at k
    generalize st.slots.getD i .nothing = v at ry vok k
    refine ⟨_, rfl, A.g, CG, A.gx, _, _, rfl, I.ob, T.cG, T.aG _ (ixG _ kG_slots), gk_get A _ _ _ kG_slots rfl, _, rfl, al, _, _, _, rfl, rfl, SqL.of hal, atI_nat (j := 0) rfl, A.sl, _, _, _, rfl, rfl, SqL.of hxs, atI_nat hy, ?_⟩
    obtain ⟨b, rfl, hb⟩ := ry
    refine ⟨_, rfl, b, _, _, _, rfl, rfl, SqT.of hb, atI_nat (j := 0) rfl, rfl, _, rfl, ?_⟩
    rw [dec_int]
    have go : v ≠ .nothing → (∀ H' A' p, A'.g = A.g → GInv CG H' A' (useP st v) → Fr (foot A st) H (foot A' (useP st v)) H' → H' p = some (.lst [.int (vp v).1, .int (vp v).2, .int ((st.uses : Int) + 1)]) → Q (.ref p) H') →
        spUse CG [.ref A.g, .ref b] H (fun x H1 => (3 ≤ sizeLine ∧ ∀ p, H1 p = none → Q (.ref p) (upd H1 p (.lst [.int (vp v).1, .int (vp v).2, x])))) E0 := fun hv k2 =>
      ⟨A, st, .ref b, v, rfl, I, W, ⟨b, rfl, hb⟩, hv, vok, fun H1 I1 s1 => ⟨by decide, fun p hp => k2 _ (A.used st v) p rfl (I1.same (Same.fresh hp)) ((fr_used s1).trans (Fr.same (Same.fresh hp))) upd_same⟩⟩
    cases v with
    | nothing =>
      refine iteT ⟨(by show 1 ≤ sizeLine; decide), fun p hp => ?_⟩
      exact k _ A p rfl (I.same (Same.fresh hp)) (Fr.same (Same.fresh hp)) upd_same
    | foreign m =>
      refine iteF ⟨_, rfl, b, _, _, _, rfl, rfl, SqT.of hb, atI_nat (j := 0) rfl, _, rfl, b, _, _, _, rfl, rfl, SqT.of hb, atI_nat (j := 1) rfl, _, rfl, A.g, A.gx, _, rfl, I.ob, lk_none gK _ (by decide +kernel), _, rfl, ?_⟩
      exact go (by intro z; cases z) k
    | object m =>
      refine iteF ⟨_, rfl, b, _, _, _, rfl, rfl, SqT.of hb, atI_nat (j := 0) rfl, _, rfl, b, _, _, _, rfl, rfl, SqT.of hb, atI_nat (j := 1) rfl, _, rfl, A.g, A.gx, _, rfl, I.ob, lk_none gK _ (by decide +kernel), _, rfl, ?_⟩
      exact go (by intro z; cases z) k

/-! ### arrive_entry -/
theorem scArrive : FnScope ["graph", "arguments", "name"] ca (defScope (top 21)) := ⟨rfl, rfl, rfl, by decide +kernel, rfl, by decide +kernel, by decide +kernel⟩
theorem ok_arrive {f : Addr} {fd : FuncData} (F : Fun K "arrive_entry" "arrive_entry" (top 21) f fd) (T : Txt K mg CG CL CS) (mU : Metd P w K mg base CG 1 "use" ["self", "name"] (spUse CG)) (mP : Metd P w K mg base CG 1 "put" ["self", "slot", "value"] (spPut CG)) : FnOk P w K mg base CX0 2 f fd ca (spChange CG K 6) := by
  obtain ⟨fU, fdU, gU, meU, bU⟩ := mU
  obtain ⟨fP, fdP, gP, meP, bP⟩ := mP
  refine F.ok scArrive (fun vs H Q E h => ?_) (fun cdv A0 outer s H vs Q E hr h => ?_)
  · obtain ⟨A, st, al, a, rfl, _⟩ := h
    rfl
  · obtain ⟨A, st, al, a, rfl, I, W, hal, aln, ok, k⟩ := h
    have hu := hu_of hr
    obtain ⟨o0, s0, rfl⟩ : ∃ o0 s0, a = [o0, s0] := by
      match a, ok with
      | [o0, s0], _ => exact ⟨o0, s0, rfl⟩
    have ok1 : Vbxlaf.isSlot s0 = true := ok
    obtain ⟨i, rfl, hi⟩ := slot_nat ok1
    refine ⟨_, pss_cons (ps_set (i := 2) scArrive.nd rfl (.inl rfl) (pe_tup (pa_cons (pe_num T.nO) (pa_cons (pe_ix ix_list (pv 1) pe_int (fun _ _ => rfl)) pa_nil))))
      (pss_cons (ps_if (pt_cmp (pc_dnotin hu (pv 2) (pe_fld (pv 0) rfl))) (pss_one (ps_ret (pe_lst (pa_cons (pe_num T.n6) pa_nil)))) pss_nil)
      (pss_cons (ps_expr (pe_meth (pv 0) T.cG meP gP hr bP .nil pass0 (pa_cons (pe_ix ix_list (pv 1) pe_int (fun _ _ => rfl)) (pa_cons (pv 2) pa_nil))))
      (pss_one (ps_ret (pe_lst (pa_cons (pe_meth (pv 0) T.cG meU gU hr bU .nil pass0 (pa_cons (pv 2) pa_nil)) pa_nil)))))), ?_⟩
    refine ⟨_, rfl, al, _, _, _, rfl, rfl, SqL.of hal, atI_nat (j := 0) rfl, (by show 2 ≤ sizeLine; decide), fun t ht => ?_⟩
    have I0 := I.same (Same.fresh (o := .tup [.int 1, .int o0]) ht)
    have hal0 : upd H t (.tup [.int 1, .int o0]) al = some (.lst (([o0, (i : Int)] : List Int).map V.int)) := by rw [upd_ne (ne_of_none hal ht)]; exact hal
    refine ⟨_, rfl, _, rfl, A.g, CG, A.gx, _, _, rfl, I0.ob, T.cG, T.aG _ (ixG _ kG_stamps), gk_get A _ _ _ kG_stamps rfl, A.sd, _, rfl, DGet.t (k := pk (1, o0)) I0.sd upd_same, ?_⟩
    rw [I.stamp W.nok, Option.isSome_map, Sl.stI_isEntry]
    refine ⟨_, rfl, ?_⟩
    have es0 : specStep st 6 [o0, (i : Int)] = if (decide (0 ≤ o0) && Vbxlaf.isEntry st o0.toNat) = false then (st, [-6]) else (Vbxlaf.setSlot (Vbxlaf.useEntry st o0.toNat) (i : Int) (.object o0.toNat), Vbxlaf.toInts [st.uses + 1]) := by
      show (if Vbxlaf.isSlot (i : Int) = false then _ else _) = _
      rw [ok1]; rfl
    rw [es0] at k
    cases c : (decide (0 ≤ o0) && Vbxlaf.isEntry st o0.toNat)
    · rw [c, if_pos rfl] at k
      refine iteT ⟨(by show 1 ≤ sizeLine; decide), fun p hp => ?_⟩
      exact k _ A p rfl (I0.same (Same.fresh hp)) ((Fr.same (Same.fresh ht)).trans (Fr.same (Same.fresh hp))) upd_same
    · rw [c, if_neg (by simp)] at k
      obtain ⟨c1, c2⟩ := Bool.and_eq_true_iff.mp c
      obtain ⟨n, rfl⟩ := Int.eq_ofNat_of_zero_le (of_decide_eq_true c1)
      rw [Int.toNat_natCast] at k c2
      obtain ⟨e, he, en⟩ := List.any_eq_true.mp c2
      have en : e.number = n := eq_of_beq en
      have vok : VOk st (.object n) := by rw [← en]; exact W.eok e he
      have W1 := W.setSlot (i := i) vok
      refine iteF ⟨_, rfl, A.g, A.gx, _, rfl, I0.ob, lk_none gK _ (by decide +kernel), _, rfl, al, _, _, _, rfl, rfl, SqL.of hal0, atI_nat (j := 1) rfl, _, rfl, ?_⟩
      refine ⟨A, st, i, .ref t, .object n, rfl, I0, by rw [W.six]; exact hi, W.six, ⟨t, rfl, upd_same⟩, ?_⟩
      intro H1 A1 hA I1 s1
      have fr1 : Fr (foot A st) (upd H t (.tup [.int 1, .int (n : Int)])) (foot A1 (Vbxlaf.setSlot st (i : Int) (.object n))) H1 := Fr.of (fun b o e n1 => s1 b o e (fun q => n1 (q ▸ foot_g)) (fun q => n1 (q ▸ foot_sl))) fun b hb => .inl (by rw [hA] at hb; exact hb)
      have ht1 := fr1.tups I0 _ _ upd_same
      have gA1 : A1.g = A.g := by rw [hA]
      refine ⟨_, rfl, A.g, A.gx, _, rfl, (by rw [← gA1]; exact (by rw [hA] : A1.gx = A.gx) ▸ I1.ob), lk_none gK _ (by decide +kernel), _, rfl, ?_⟩
      rw [← gA1]
      refine ⟨A1, Vbxlaf.setSlot st (i : Int) (.object n), .ref t, .object n, rfl, I1, W1, ⟨t, rfl, ht1⟩, (by intro z; cases z), VOk.of_objs (st := st) rfl vok, fun H2 I2 s2 => ?_⟩
      refine ⟨(by show 1 ≤ sizeLine; decide), fun p hp => ?_⟩
      exact k _ (A1.used (Vbxlaf.setSlot st (i : Int) (.object n)) (.object n)) p (by show A1.g = A.g; exact gA1) (I2.same (Same.fresh hp)) (((Fr.same (Same.fresh ht)).trans fr1).trans ((fr_used s2).trans (Fr.same (Same.fresh hp)))) upd_same
end
end Sv
namespace Sv
open PySem PySem.Spec PyProof.Rows L2
section
variable {P : Program} {w : World} {K : PySem.W.Frag} {mg : Str → Option Value} {base : Heap} {CG CL CS : Addr}
/-! ### import_foreign -/
theorem scImport : FnScope ["graph", "arguments", "name", "is_new"] ca (defScope (top 22)) := ⟨rfl, rfl, rfl, by decide +kernel, rfl, by decide +kernel, by decide +kernel⟩
theorem ok_import {f : Addr} {fd : FuncData} (F : Fun K "import_foreign" "import_foreign" (top 22) f fd) (T : Txt K mg CG CL CS) (mU : Metd P w K mg base CG 1 "use" ["self", "name"] (spUse CG)) (mP : Metd P w K mg base CG 1 "put" ["self", "slot", "value"] (spPut CG)) : FnOk P w K mg base CX0 2 f fd ca (spChange CG K 7) := by
  obtain ⟨fU, fdU, gU, meU, bU⟩ := mU
  obtain ⟨fP, fdP, gP, meP, bP⟩ := mP
  refine F.ok scImport (fun vs H Q E h => ?_) (fun cdv A0 outer s H vs Q E hr h => ?_)
  · obtain ⟨A, st, al, a, rfl, _⟩ := h
    rfl
  · obtain ⟨A, st, al, a, rfl, I, W, hal, aln, ok, k⟩ := h
    have hu := hu_of hr
    obtain ⟨o0, s0, rfl⟩ : ∃ o0 s0, a = [o0, s0] := by
      match a, ok with
      | [o0, s0], _ => exact ⟨o0, s0, rfl⟩
    obtain ⟨ok2, ok1⟩ := Bool.and_eq_true_iff.mp (show (Vbxlaf.inRange o0 1 Vbxlaf.maxForeign && Vbxlaf.isSlot s0) = true from ok)
    obtain ⟨i, rfl, hi⟩ := slot_nat ok1
    obtain ⟨n, rfl, hn1, hn2⟩ := range_nat ok2
    refine ⟨_, pss_cons (ps_set (i := 2) scImport.nd rfl (.inl rfl) (pe_tup (pa_cons (pe_num T.nF) (pa_cons (pe_ix ix_list (pv 1) pe_int (fun _ _ => rfl)) pa_nil))))
      (pss_cons (ps_set (i := 3) scImport.nd rfl (.inl rfl) (pe_ifExp (pt_cmp (pc_din hu (pv 2) (pe_fld (pv 0) rfl))) pe_int pe_int))
      (pss_cons (ps_expr (pe_meth (pv 0) T.cG meP gP hr bP .nil pass0 (pa_cons (pe_ix ix_list (pv 1) pe_int (fun _ _ => rfl)) (pa_cons (pv 2) pa_nil))))
      (pss_one (ps_ret (pe_lst (pa_cons (pv 3) (pa_cons (pe_meth (pv 0) T.cG meU gU hr bU .nil pass0 (pa_cons (pv 2) pa_nil)) pa_nil))))))), ?_⟩
    refine ⟨_, rfl, al, _, _, _, rfl, rfl, SqL.of hal, atI_nat (j := 0) rfl, (by show 2 ≤ sizeLine; decide), fun t ht => ?_⟩
    have I0 := I.same (Same.fresh (o := .tup [.int 2, .int (n : Int)]) ht)
    have hal0 : upd H t (.tup [.int 2, .int (n : Int)]) al = some (.lst (([(n : Int), (i : Int)] : List Int).map V.int)) := by rw [upd_ne (ne_of_none hal ht)]; exact hal
    refine ⟨_, rfl, _, rfl, A.g, CG, A.gx, _, _, rfl, I0.ob, T.cG, T.aG _ (ixG _ kG_stamps), gk_get A _ _ _ kG_stamps rfl, A.sd, _, rfl, DGet.t (k := pk (2, (n : Int))) I0.sd upd_same, ?_⟩
    rw [I.stamp W.nok, Option.isSome_map, Sl.stI_isImport]
    refine ⟨_, rfl, ?_⟩
    have es0 : specStep st 7 [(n : Int), (i : Int)] = (Vbxlaf.setSlot (Vbxlaf.useImport st n) (i : Int) (.foreign n), Vbxlaf.toInts [Vbxlaf.flag (!Vbxlaf.isImport st n), st.uses + 1]) := by
      show (if (Vbxlaf.inRange (n : Int) 1 Vbxlaf.maxForeign && Vbxlaf.isSlot (i : Int)) = false then _ else _) = _
      rw [ok1, ok2]; rfl
    rw [es0] at k
    have vok : VOk st (.foreign n) := ⟨hn1, hn2⟩
    have W1 := W.setSlot (i := i) vok
    have en : (decide (0 ≤ (n : Int)) && Vbxlaf.isImport st ((n : Int).toNat)) = Vbxlaf.isImport st n := by rw [Int.toNat_natCast]; simp
    rw [en]
    have rest : ∀ z : Int, z = ((Vbxlaf.flag (!Vbxlaf.isImport st n) : Nat) : Int) → tSeq (tDrop (tMeth CG "put" (spPut CG) [] E0 (tVar 0) (tCons (tOp (rIxL K) (tVar 1) (tC (.int 1))) (tCons (tVar 2) tNil)))) (tRet (tLst (tCons (tVar 3) (tCons (tMeth CG "use" (spUse CG) [] E0 (tVar 0) (tCons (tVar 2) tNil)) tNil))))
        { nx := fun _ H' => Q .non H', rt := Q } [some (.ref A.g), some (.ref al), some (.ref t), some (.int z)] (upd H t (.tup [.int 2, .int (n : Int)])) := by
      intro z hz
      refine ⟨_, rfl, A.g, A.gx, _, rfl, I0.ob, lk_none gK _ (by decide +kernel), _, rfl, al, _, _, _, rfl, rfl, SqL.of hal0, atI_nat (j := 1) rfl, _, rfl, ?_⟩
      refine ⟨A, st, i, .ref t, .foreign n, rfl, I0, by rw [W.six]; exact hi, W.six, ⟨t, rfl, upd_same⟩, ?_⟩
      intro H1 A1 hA I1 s1
      have fr1 : Fr (foot A st) (upd H t (.tup [.int 2, .int (n : Int)])) (foot A1 (Vbxlaf.setSlot st (i : Int) (.foreign n))) H1 := Fr.of (fun b o e n1 => s1 b o e (fun q => n1 (q ▸ foot_g)) (fun q => n1 (q ▸ foot_sl))) fun b hb => .inl (by rw [hA] at hb; exact hb)
      have ht1 := fr1.tups I0 _ _ upd_same
      have gA1 : A1.g = A.g := by rw [hA]
      refine ⟨_, rfl, _, rfl, A.g, A.gx, _, rfl, (by rw [← gA1]; exact (by rw [hA] : A1.gx = A.gx) ▸ I1.ob), lk_none gK _ (by decide +kernel), _, rfl, ?_⟩
      rw [← gA1]
      refine ⟨A1, Vbxlaf.setSlot st (i : Int) (.foreign n), .ref t, .foreign n, rfl, I1, W1, ⟨t, rfl, ht1⟩, (by intro z; cases z), VOk.of_objs (st := st) rfl vok, fun H2 I2 s2 => ?_⟩
      refine ⟨(by show 2 ≤ sizeLine; decide), fun p hp => ?_⟩
      refine k _ (A1.used (Vbxlaf.setSlot st (i : Int) (.foreign n)) (.foreign n)) p (by show A1.g = A.g; exact gA1) (I2.same (Same.fresh hp)) (((Fr.same (Same.fresh ht)).trans fr1).trans ((fr_used s2).trans (Fr.same (Same.fresh hp)))) ?_
      rw [hz]; exact upd_same
    cases c : Vbxlaf.isImport st n
    · exact iteF (rest 1 (by rw [c]; rfl))
    · exact iteT (rest 0 (by rw [c]; rfl))
/-! ### retire_entry -/
theorem dropK_nkv (l : Sl.NS) (p : Int × Int) : dropK (nkv l) (pk p) = nkv (l.filter fun q => decide (q.1 ≠ p)) := by
  unfold dropK nkv
  rw [List.filter_map]
  congr 1
  apply List.filter_congr
  intro q _
  show decide (pk q.1 ≠ pk p) = decide (q.1 ≠ p)
  by_cases h : q.1 = p
  · rw [h]; simp
  · have h2 : pk q.1 ≠ pk p := fun e => h (pk_inj e)
    rw [decide_eq_true h]; exact decide_eq_true h2
def stRetire (st : St0) (n : Nat) : St0 := { st with entries := st.entries.filter fun entry => entry.number != n, recordedEntries := st.recordedEntries.filter fun recorded => recorded.1 != n }
theorem find_other {α : Type} {l : List α} {p q : α → Bool} (h : ∀ x ∈ l, p x = true → q x = true) : (l.filter q).find? p = l.find? p := by
  induction l with
  | nil => rfl
  | cons a l ih =>
    have ih := ih fun x hx => h x (List.mem_cons_of_mem _ hx)
    rw [List.filter_cons]
    cases e : p a with
    | true => rw [if_pos (h a List.mem_cons_self e), List.find?_cons, List.find?_cons, e]
    | false =>
      split
      · rw [List.find?_cons, List.find?_cons, e]; exact ih
      · rw [List.find?_cons, e]; exact ih
theorem scRetire : FnScope ["graph", "arguments", "name"] ca (defScope (top 23)) := ⟨rfl, rfl, rfl, by decide +kernel, rfl, by decide +kernel, by decide +kernel⟩
theorem ok_retire {f : Addr} {fd : FuncData} (F : Fun K "retire_entry" "retire_entry" (top 23) f fd) (T : Txt K mg CG CL CS) : FnOk P w K mg base CX0 1 f fd ca (spChange CG K 8) := by
  refine F.ok scRetire (fun vs H Q E h => ?_) (fun cdv A0 outer s H vs Q E hr h => ?_)
  · obtain ⟨A, st, al, a, rfl, _⟩ := h
    rfl
  · obtain ⟨A, st, al, a, rfl, I, W, hal, aln, ok, k⟩ := h
    have hu := hu_of hr
    obtain ⟨o0, rfl⟩ : ∃ o0, a = [o0] := by
      match a, ok with
      | [o0], _ => exact ⟨o0, rfl⟩
    refine ⟨_, pss_cons (ps_set (i := 2) scRetire.nd rfl (.inl rfl) (pe_tup (pa_cons (pe_num T.nO) (pa_cons (pe_ix ix_list (pv 1) pe_int (fun _ _ => rfl)) pa_nil))))
      (pss_cons (ps_if (pt_cmp (pc_dnotin hu (pv 2) (pe_fld (pv 0) rfl))) (pss_one (ps_ret (pe_lst (pa_cons (pe_num T.n6) pa_nil)))) pss_nil)
      (pss_cons (ps_expr (pe_bm PySem.F.plainAttrs_dict PySem.F.slot_dict_pop PySem.F.type_dict_pop (mt_pop1T hu) (pe_fld (pv 0) rfl) (pa_cons (pv 2) pa_nil)))
      (pss_one (ps_ret (pe_lst (pa_cons pe_int pa_nil)))))), ?_⟩
    refine ⟨_, rfl, al, _, _, _, rfl, rfl, SqL.of hal, atI_nat (j := 0) rfl, (by show 2 ≤ sizeLine; decide), fun t ht => ?_⟩
    have I0 := I.same (Same.fresh (o := .tup [.int 1, .int o0]) ht)
    refine ⟨_, rfl, _, rfl, A.g, CG, A.gx, _, _, rfl, I0.ob, T.cG, T.aG _ (ixG _ kG_stamps), gk_get A _ _ _ kG_stamps rfl, A.sd, _, rfl, DGet.t (k := pk (1, o0)) I0.sd upd_same, ?_⟩
    rw [I.stamp W.nok, Option.isSome_map, Sl.stI_isEntry]
    refine ⟨_, rfl, ?_⟩
    have es0 : specStep st 8 [o0] = if (decide (0 ≤ o0) && Vbxlaf.isEntry st o0.toNat) = false then (st, [-6]) else (stRetire st o0.toNat, [0]) := rfl
    rw [es0] at k
    cases c : (decide (0 ≤ o0) && Vbxlaf.isEntry st o0.toNat)
    · rw [c, if_pos rfl] at k
      refine iteT ⟨(by show 1 ≤ sizeLine; decide), fun p hp => ?_⟩
      exact k _ A p rfl (I0.same (Same.fresh hp)) ((Fr.same (Same.fresh ht)).trans (Fr.same (Same.fresh hp))) upd_same
    · rw [c, if_neg (by simp)] at k
      obtain ⟨c1, c2⟩ := Bool.and_eq_true_iff.mp c
      obtain ⟨n, rfl⟩ := Int.eq_ofNat_of_zero_le (of_decide_eq_true c1)
      rw [Int.toNat_natCast] at k c2
      obtain ⟨s0, hs0⟩ : ∃ s0, Sl.stI st (1, (n : Int)) = some s0 := by
        have := Sl.stI_isEntry st (n : Int)
        rw [c] at this
        exact Option.isSome_iff_exists.mp this
      refine iteF ⟨_, rfl, A.g, CG, A.gx, _, _, rfl, I0.ob, T.cG, T.aG _ (ixG _ kG_stamps), gk_get A _ _ _ kG_stamps rfl, .inr (.inr (.inl ⟨rfl, .inr ⟨_, I0.sd⟩⟩)), _, rfl, ?_⟩
      refine ⟨A.sd, t, _, pk (1, (n : Int)), .int s0, rfl, rfl, I0.sd, upd_same, (by rw [I.stamp W.nok, hs0]; rfl), ?_⟩
      rw [dropK_nkv]
      refine ⟨(by show 1 ≤ sizeLine; decide), fun p hp => ?_⟩
      have st1 : ∀ b o, upd H t (.tup [.int 1, .int (n : Int)]) b = some o → b ≠ A.sd → upd (upd H t (.tup [.int 1, .int (n : Int)])) A.sd (.dT (nkv (A.ns.filter fun q => decide (q.1 ≠ (1, (n : Int)))))) b = some o := fun b o e n1 => by rw [upd_ne n1]; exact e
      have tu : Tups (upd H t (.tup [.int 1, .int (n : Int)])) (upd (upd H t (.tup [.int 1, .int (n : Int)])) A.sd (.dT (nkv (A.ns.filter fun q => decide (q.1 ≠ (1, (n : Int))))))) := Tups.put I0.sd (by intro _ z; cases z)
      have nT : ∀ {b : Addr} {o : HO}, upd H t (.tup [.int 1, .int (n : Int)]) b = some o → (∀ l, o ≠ .dT l) → upd (upd H t (.tup [.int 1, .int (n : Int)])) A.sd (.dT (nkv (A.ns.filter fun q => decide (q.1 ≠ (1, (n : Int)))))) b = some o := fun e n1 => st1 _ _ e (ne_of e I0.sd (n1 _))
      have I1 : GInv CG (upd (upd H t (.tup [.int 1, .int (n : Int)])) A.sd (.dT (nkv (A.ns.filter fun q => decide (q.1 ≠ (1, (n : Int))))))) { A with ns := A.ns.filter fun q => decide (q.1 ≠ (1, (n : Int))) } (stRetire st n) := {
        ob := nT I0.ob (by intro _ z; cases z)
        slots := I0.slots.keep (fun zs e => nT e (by intro _ z; cases z)) tu
        fd := nT I0.fd (by intro _ z; cases z)
        fl := fun o ho => (I0.fl o ho).keep (fun zs e => nT e (by intro _ z; cases z)) tu
        inj := I.inj
        fs := I.fs
        sd := upd_same
        sp := by
          show (A.ns.filter _).Perm _
          refine (I.sp.filter _).trans ?_
          unfold Sl.nmOf
          rw [List.filter_append]
          have e1 : (Sl.enm st.entries).filter (fun q => decide (q.1 ≠ (1, (n : Int)))) = Sl.enm (stRetire st n).entries := by
            show (List.map _ _).filter _ = List.map _ (st.entries.filter _)
            rw [List.filter_map]
            congr 1
            apply List.filter_congr
            intro e _
            show decide (((1 : Int), (e.number : Int)) ≠ (1, (n : Int))) = (e.number != n)
            by_cases q : e.number = n
            · rw [q]; simp
            · have : ((1 : Int), (e.number : Int)) ≠ (1, (n : Int)) := fun z => q (by have := congrArg Prod.snd z; exact Int.ofNat.inj this)
              rw [decide_eq_true this]; simp [q]
          have e2 : (Sl.inm st.imports).filter (fun q => decide (q.1 ≠ (1, (n : Int)))) = Sl.inm (stRetire st n).imports := by
            apply List.filter_eq_self.mpr
            intro q hq
            obtain ⟨e, _, rfl⟩ := Sl.mem_inm.mp hq
            exact decide_eq_true fun z => by have := congrArg Prod.fst z; have : (2 : Int) = 1 := this; omega
          rw [e1, e2]

        cd := st1 _ _ I0.cd I.d1.symm
        cn := I.cn
        cm := I.cm
        nd := st1 _ _ I0.nd I.d2.symm
        nn := I.nn
        nl := I.nl
        nm := fun h e he => by
          obtain ⟨he1, he2⟩ := List.mem_filter.mp (show e ∈ st.entries.filter _ from he)
          have ne : e.number ≠ n := by simpa using he2
          rw [I.nm h e he1]
          unfold Vbxlaf.recordedReach
          have : ((stRetire st n).recordedEntries.find? fun recorded => recorded.1 == e.number) = st.recordedEntries.find? fun recorded => recorded.1 == e.number := find_other fun x _ hx => by
            have hx : x.1 = e.number := eq_of_beq hx
            rw [hx]; simpa using ne
          rw [this]
        sc := I.sc
        d1 := I.d1
        d2 := I.d2
        d3 := I.d3 }
      exact k _ { A with ns := A.ns.filter fun q => decide (q.1 ≠ (1, (n : Int))) } p rfl (I1.same (Same.fresh hp)) (((Fr.same (Same.fresh ht)).trans (Fr.of (fun b o e n1 => st1 b o e (fun q => n1 (q ▸ foot_sd))) fun b hb => .inl hb)).trans (Fr.same (Same.fresh hp))) upd_same
/-! ### collect_garbage -/
theorem scGarbage : FnScope ["graph", "arguments", "removed", "freed", "given_up"] ca (defScope (top 24)) := ⟨rfl, rfl, rfl, by decide +kernel, rfl, by decide +kernel, by decide +kernel⟩
theorem ok_garbage {f : Addr} {fd : FuncData} (F : Fun K "collect_garbage" "collect_garbage" (top 24) f fd) (T : Txt K mg CG CL CS) (mC : Metd P w K mg base CG 2 "collect" ["self"] (spCollect CG)) : FnOk P w K mg base CX0 3 f fd ca (spChange CG K 9) := by
  obtain ⟨fC, fdC, gC, meC, bC⟩ := mC
  refine F.ok scGarbage (fun vs H Q E h => ?_) (fun cdv A0 outer s H vs Q E hr h => ?_)
  · obtain ⟨A, st, al, a, rfl, _⟩ := h
    rfl
  · obtain ⟨A, st, al, a, rfl, I, W, hal, aln, ok, k⟩ := h
    obtain rfl : a = [] := by
      match a, ok with
      | [], _ => rfl
    refine ⟨_, pss_cons (ps_set (i := 2) scGarbage.nd rfl (.inl rfl) (pe_meth0 (pv 0) T.cG meC gC hr bC .nil pass0))
      (pss_cons (ps_set (i := 3) scGarbage.nd rfl (.inl rfl) (pe_ix ix_tup (pv 2) pe_int (fun _ _ => rfl)))
      (pss_cons (ps_set (i := 4) scGarbage.nd rfl (.inl rfl) (pe_ix ix_tup (pv 2) pe_int (fun _ _ => rfl)))
      (pss_one (ps_ret (pe_op op_cat (pe_op op_cat (pe_op op_cat (pe_lst (pa_cons (pe_callB call_len_seq (by rfl) T.bLen PySem.boot_len (pa_cons (pv 3) pa_nil)) pa_nil)) (pv 3)) (pe_lst (pa_cons (pe_callB call_len_seq (by rfl) T.bLen PySem.boot_len (pa_cons (pv 4) pa_nil)) pa_nil))) (pv 4)))))), ?_⟩
    refine ⟨_, rfl, A.g, A.gx, _, rfl, I.ob, lk_none gK _ (by decide +kernel), ?_⟩
    refine ⟨A, st, rfl, I, W, fun H1 p a b hp ha hb I1 hp1 ha1 hb1 s1 => ?_⟩
    refine ⟨_, rfl, p, _, _, _, rfl, rfl, SqT.of hp1, atI_nat (j := 0) rfl, ?_⟩
    refine ⟨_, rfl, p, _, _, _, rfl, rfl, SqT.of hp1, atI_nat (j := 1) rfl, ?_⟩
    have fl : (freedOf st).length ≤ 40 := by
      refine Nat.le_trans (List.length_filter_le _ _) ?_
      rw [List.length_map]; exact W.nums
    have gl : (givenOf st).length ≤ 60 := by
      refine Nat.le_trans (List.length_filter_le _ _) ?_
      rw [List.length_map]
      have h2 := Sl.nm_few W.nok
      have h3 : (Sl.nmOf st).length = st.entries.length + st.imports.length := by
        show (List.map _ _ ++ List.map _ _).length = _
        rw [List.length_append, List.length_map, List.length_map]
      omega
    refine ⟨_, rfl, a, _, rfl, .inl (SqL.of ha1), (by show 1 ≤ sizeLine; decide), fun q1 hq1 => ?_⟩
    have m1 : Same H1 (upd H1 q1 (.lst [.int ((List.map (fun (n : Nat) => V.int (n : Int)) (freedOf st)).length : Nat)])) := Same.fresh hq1
    refine ⟨_, rfl, q1, a, _, _, rfl, rfl, upd_same, m1 _ _ ha1, (by rw [List.length_map, List.length_singleton, sizeLine_eq]; omega), fun q2 hq2 => ?_⟩
    have m2 := m1.trans (Same.fresh (o := .lst ([.int ((List.map (fun (n : Nat) => V.int (n : Int)) (freedOf st)).length : Nat)] ++ (freedOf st).map fun (n : Nat) => V.int (n : Int))) hq2)
    refine ⟨_, rfl, b, _, rfl, .inl (SqL.of (m2 _ _ hb1)), (by show 1 ≤ sizeLine; decide), fun q3 hq3 => ?_⟩
    have m3 := m2.trans (Same.fresh (o := .lst [.int ((List.map (fun (n : Nat) => V.int (n : Int)) (givenOf st)).length : Nat)]) hq3)
    refine ⟨q2, q3, _, _, rfl, rfl, (by rw [upd_ne (ne_of_none upd_same hq3)]; exact upd_same), upd_same, (by rw [List.length_append, List.length_map, List.length_singleton, List.length_singleton, sizeLine_eq]; omega), fun q4 hq4 => ?_⟩
    have m4 := m3.trans (Same.fresh (o := .lst ([.int ((List.map (fun (n : Nat) => V.int (n : Int)) (freedOf st)).length : Nat)] ++ (freedOf st).map (fun (n : Nat) => V.int (n : Int)) ++ [.int ((List.map (fun (n : Nat) => V.int (n : Int)) (givenOf st)).length : Nat)])) hq4)
    refine ⟨_, rfl, q4, b, _, _, rfl, rfl, upd_same, m4 _ _ hb1, (by rw [List.length_append, List.length_append, List.length_map, List.length_map, List.length_singleton, List.length_singleton, sizeLine_eq]; omega), fun q5 hq5 => ?_⟩
    have m5 := m4.trans (Same.fresh (o := .lst ([.int ((List.map (fun (n : Nat) => V.int (n : Int)) (freedOf st)).length : Nat)] ++ (freedOf st).map (fun (n : Nat) => V.int (n : Int)) ++ [.int ((List.map (fun (n : Nat) => V.int (n : Int)) (givenOf st)).length : Nat)] ++ (givenOf st).map (fun (n : Nat) => V.int (n : Int)))) hq5)
    have es0 : specStep st 9 [] = (stCollect st, Vbxlaf.counted (freedOf st) ++ Vbxlaf.counted (givenOf st)) := rfl
    rw [es0] at k
    refine k _ (A.gone st) q5 rfl (I1.same m5) (Fr.trans (Fr.of (fun b o e n1 => s1 b o e (fun q => n1 (q ▸ foot_fd)) (fun q => n1 (q ▸ foot_sd))) fun b hb => .inl ?_) (Fr.same m5)) ?_
    · rcases foot_cases hb with e | e | e | e | e | e | ⟨o, ho, e⟩
      · exact e ▸ foot_g
      · exact e ▸ foot_sl
      · exact e ▸ foot_fd
      · exact e ▸ foot_sd
      · exact e ▸ foot_cd
      · exact e ▸ foot_nd
      · exact e ▸ foot_fa (List.mem_filter.mp ho).1
    · rw [upd_same]
      unfold Vbxlaf.counted Vbxlaf.toInts
      rw [List.map_append, List.map_cons, List.map_cons, List.map_map, List.map_map, List.length_map, List.length_map]
      show some (HO.lst _) = some (HO.lst _)
      congr 2
      simp
      constructor <;> (intros; rfl)
end
end Sv
namespace Sv
open PySem PySem.Spec PyProof.Rows L2

/-! ## how the surveys lie in the heap -/
/-- the heap without some places -/
def off (F : List Addr) (H : Hp) : Hp := fun b => if b ∈ F then none else H b
theorem off_some {F : List Addr} {H : Hp} {b : Addr} {o : HO} : off F H b = some o ↔ b ∉ F ∧ H b = some o := by
  unfold off
  split
  · rename_i h
    exact ⟨(fun z => nomatch z), fun z => absurd h z.1⟩
  · rename_i h
    exact ⟨fun z => ⟨h, z⟩, fun z => z.2⟩
theorem Fr.off {F F' : List Addr} {H H' : Hp} (f : Fr F H F' H') : Same (off F H) (off F' H') := fun b o e => by
  obtain ⟨h1, h2⟩ := off_some.mp e
  exact off_some.mpr (f b o h1 h2)
theorem tkv_get {l : List (Int × Int)} {i : Nat} {kk : List L2.Key} {v : V} (h : (tkv l)[i]? = some (kk, v)) : ∃ p, l[i]? = some p ∧ kk = pk p := by
  obtain ⟨p, hp, e⟩ := get_map h
  exact ⟨p, hp, congrArg Prod.fst e⟩
def np (n : Vbxlaf.Name) : Int × Int := ((n.kind : Int), (n.number : Int))
def LineAt (CL : Addr) (H : Hp) (kv : List L2.Key × V) (l : Vbxlaf.Line) : Prop := kv.1 = pk (np l.name) ∧ ∃ la dx sa, kv.2 = .ref la ∧ H la = some (.ins CL dx (lK.zip [.int (l.stamp : Int), .int ((Vbxlaf.flag l.rooted : Nat) : Int), .ref sa])) ∧ H sa = some (.lst (l.sources.map fun (n : Nat) => V.int (n : Int)))
def SvAt (CL : Addr) (H : Hp) (x : V) (ls : List Vbxlaf.Line) : Prop := ∃ d kvs, x = .ref d ∧ H d = some (.dT kvs) ∧ Paired (LineAt CL H) kvs ls
def IsReach (H : Hp) (d : Addr) (R : Vbxlaf.Reach) : Prop := ∃ L : List Val, IsR H d L ∧ L.Nodup ∧ (∀ n, Vbxlaf.Value.object n ∈ L ↔ n ∈ R.objects) ∧ (∀ n, Vbxlaf.Value.foreign n ∈ L ↔ n ∈ R.foreigns) ∧ Vbxlaf.Value.nothing ∉ L
theorem LineAt.keep {CL : Addr} {H H' : Hp} {kv : List L2.Key × V} {l : Vbxlaf.Line} (h : LineAt CL H kv l) (s : Same H H') : LineAt CL H' kv l := by
  obtain ⟨e, la, dx, sa, e1, h1, h2⟩ := h
  exact ⟨e, la, dx, sa, e1, s _ _ h1, s _ _ h2⟩
theorem SvAt.keep {CL : Addr} {H H' : Hp} {x : V} {ls : List Vbxlaf.Line} (h : SvAt CL H x ls) (s : Same H H') : SvAt CL H' x ls := by
  obtain ⟨d, kvs, e, h1, h2⟩ := h
  exact ⟨d, kvs, e, s _ _ h1, Paired.mapP h2 fun _ _ q => q.keep s⟩
theorem IsReach.keep {H H' : Hp} {d : Addr} {R : Vbxlaf.Reach} (h : IsReach H d R) (s : Same H H') : IsReach H' d R := by
  obtain ⟨L, h1, h2⟩ := h
  exact ⟨L, s _ _ h1, h2⟩
structure Su where
  sv : Addr
  svx : Addr
  ml : Addr
  lr : Addr
  lk : List (L2.Key × V)
def LastOk (H : Hp) (lk : List (L2.Key × V)) (st : St0) : Prop := (∃ d, valV lk (nkey 0) = some (.ref d) ∧ IsReach H d st.recordedSlots) ∧ ∀ p ∈ st.recordedEntries, ∃ d, valV lk (nkey p.1) = some (.ref d) ∧ IsReach H d p.2
def feet (A : Gr) (B : Su) (st : St0) : List Addr := B.sv :: B.ml :: foot A st
structure SInv (CG CL CS : Addr) (H : Hp) (A : Gr) (B : Su) (st : St0) : Prop where
  g : GInv CG H A st
  ob : H B.sv = some (.ins CS B.svx (sK.zip [.ref A.g, .ref B.ml, .ref B.lr]))
  sn : B.sv ∉ foot A st
  ml : ∃ xs, H B.ml = some (.lst xs) ∧ Paired (SvAt CL (off (feet A B st) H)) xs st.surveys
  mn : B.ml ∉ foot A st
  lr : off (feet A B st) H B.lr = some (.dK B.lk)
  last : st.surveys ≠ [] → LastOk (off (feet A B st) H) B.lk st
theorem kS_graph : sK.findIdx? (fun k => ("graph" : Str) == k) = some 0 := by decide +kernel
theorem kS_made : sK.findIdx? (fun k => ("made" : Str) == k) = some 1 := by decide +kernel
theorem kS_last : sK.findIdx? (fun k => ("last_reached" : Str) == k) = some 2 := by decide +kernel
theorem kL_stamp : lK.findIdx? (fun k => ("stamp" : Str) == k) = some 0 := by decide +kernel
theorem kL_rooted : lK.findIdx? (fun k => ("rooted" : Str) == k) = some 1 := by decide +kernel
theorem kL_sources : lK.findIdx? (fun k => ("sources" : Str) == k) = some 2 := by decide +kernel
theorem ix_mem {ks : List Str} (i : Nat) {f : Str} (h : ks.findIdx? (fun k => f == k) = some i) : f ∈ ks := by
  obtain ⟨hi, e, _⟩ := List.findIdx?_eq_some_iff_getElem.mp h
  have : f = ks[i] := eq_of_beq e
  rw [this]; exact List.getElem_mem hi
theorem sk_get (vs : List V) (hl : vs.length = 3) {f : Str} {v : V} (i : Nat) (h : sK.findIdx? (fun k => f == k) = some i) (hv : vs[i]? = some v) : (sK.zip vs).lookup f = some v := by
  rw [lk_zip sK vs i h (by rw [hl]; rfl)]; exact hv
theorem lk_get (vs : List V) (hl : vs.length = 3) {f : Str} {v : V} (i : Nat) (h : lK.findIdx? (fun k => f == k) = some i) (hv : vs[i]? = some v) : (lK.zip vs).lookup f = some v := by
  rw [lk_zip lK vs i h (by rw [hl]; rfl)]; exact hv
section
variable {CG CL CS : Addr} {H H' : Hp} {A : Gr} {B : Su} {st : St0}
theorem Fr.offs {F : List Addr} {H H' : Hp} (s : Same H H') : Same (Sv.off F H) (Sv.off F H') := (Fr.same s).off
theorem SInv.same (I : SInv CG CL CS H A B st) (s : Same H H') : SInv CG CL CS H' A B st where
  g := I.g.same s
  ob := s _ _ I.ob
  sn := I.sn
  ml := by
    obtain ⟨xs, h1, h2⟩ := I.ml
    exact ⟨xs, s _ _ h1, Paired.mapP h2 fun _ _ q => q.keep (Fr.offs s)⟩
  mn := I.mn
  lr := Fr.offs s _ _ I.lr
  last := fun h => by
    obtain ⟨⟨d, e, q⟩, r⟩ := I.last h
    exact ⟨⟨d, e, q.keep (Fr.offs s)⟩, fun p hp => by
      obtain ⟨d, e, q⟩ := r p hp
      exact ⟨d, e, q.keep (Fr.offs s)⟩⟩
end

section
variable {P : Program} {w : World} {K : PySem.W.Frag} {mg : Str → Option Value} {base : Heap} {CG CL CS : Addr}
/-! ### Line.__init__ -/
def spLine (CL : Addr) : Sp := fun vs H Q _ => ∃ (p dx : Addr) (s r z : V), vs = [.ref p, s, r, z] ∧ H p = some (.ins CL dx []) ∧
  ∀ H', H' p = some (.ins CL dx (lK.zip [s, r, z])) → (∀ b o, H b = some o → b ≠ p → H' b = some o) → Q .non H'
theorem scLine : FnScope ["self", "stamp", "rooted", "sources"] ["self", "stamp", "rooted", "sources"] (defScope (inClass (top 31) 0)) := ⟨rfl, rfl, rfl, by decide +kernel, rfl, by decide +kernel, by decide +kernel⟩
theorem ok_line {f : Addr} {fd : FuncData} (F : Fun K "__init__" "Line.__init__" (inClass (top 31) 0) f fd) (T : Txt K mg CG CL CS) : FnOk P w K mg base CX0 1 f fd ["self", "stamp", "rooted", "sources"] (spLine CL) := by
  refine F.ok scLine (fun vs H Q E h => ?_) (fun cdv A0 outer s H vs Q E hr h => ?_)
  · obtain ⟨p, dx, s, r, z, rfl, _⟩ := h
    rfl
  · obtain ⟨p, dx, a, r, z, rfl, hp, k⟩ := h
    refine ⟨_, pss_cons (ps_fld (pv 0) (pv 1) rfl) (pss_cons (ps_fld (pv 0) (pv 2) rfl) (pss_one (ps_fld (pv 0) (pv 3) rfl))), ?_⟩
    refine ⟨_, rfl, _, rfl, p, CL, dx, _, rfl, hp, T.cL, T.aL _ (ix_mem _ kL_stamp), (by show 0 < 1000; decide), ?_⟩
    refine ⟨_, rfl, _, rfl, p, CL, dx, _, rfl, upd_same, T.cL, T.aL _ (ix_mem _ kL_rooted), (by show 1 < 1000; decide), ?_⟩
    refine ⟨_, rfl, _, rfl, p, CL, dx, _, rfl, upd_same, T.cL, T.aL _ (ix_mem _ kL_sources), (by show 2 < 1000; decide), ?_⟩
    refine k _ ?_ (fun b o e n => by rw [upd_ne n, upd_ne n, upd_ne n]; exact e)
    rw [upd_same]
    have e1 : putF "rooted" r (putF "stamp" a []) = (["stamp", "rooted"] : List Str).zip [a, r] := put_new (f := "rooted") (v := r) ["stamp"] [a] (by decide +kernel) rfl
    rw [e1, put_new ["stamp", "rooted"] [a, r] (by decide +kernel) rfl]
    rfl
/-! ### count_objects -/
def isO : Val → Bool
  | .object _ => true
  | _ => false
theorem isO_vp (v : Val) : decide ((vp v).1 = 1) = isO v := by cases v <;> rfl
def spCount : Sp := fun vs H Q _ => ∃ (d : Addr) (R : List Val), vs = [.ref d] ∧ IsR H d R ∧ R.length ≤ 100 ∧ ∀ H', Same H H' → Q (.int ((R.filter isO).length : Nat)) H'
theorem scCount : FnScope ["values", "value"] ["values"] (defScope (top 32)) := ⟨rfl, rfl, rfl, by decide +kernel, rfl, by decide +kernel, by decide +kernel⟩
theorem ok_count {f : Addr} {fd : FuncData} (F : Fun K "count_objects" "count_objects" (top 32) f fd) (T : Txt K mg CG CL CS) : FnOk P w K mg base CX0 1 f fd ["values"] spCount := by
  refine F.ok scCount (fun vs H Q E h => ?_) (fun cdv A0 outer s H vs Q E hr h => ?_)
  · obtain ⟨d, R, rfl, _⟩ := h
    rfl
  · obtain ⟨d, R, rfl, hR, hl, k⟩ := h
    refine ⟨_, pss_one (ps_ret (pe_callB call_len_seq (by rfl) T.bLen PySem.boot_len (pa_cons (pe_lock (pe_lc (own := [("value", 1)]) (te := tVar 1) (tt := tTest (tOp rEq (tOp (rIxT K) (tVar 1) (tC (.int 0))) (tC (.int 1)))) rfl scCount.nd (pi_keys (pv 0)) (blkOk_by (N := ["values", "value"]) (sc := defScope (top 32)) (by decide +kernel))
      (fun _ _ _ _ _ => pg_name (i := 1) scCount.nd rfl (Or.inl rfl)) (fun _ _ _ _ _ => pts_one (pt_cmpR op_eq (pe_ix ix_tup (pv 1) pe_int (fun _ _ => rfl)) (pe_num T.nO) (nomark _))) (fun _ _ _ _ _ => pv 1))) pa_nil))), ?_⟩
    refine ⟨d, _, hR, True.intro, fun od => ?_⟩
    refine ⟨_, rfl, d, od, rfl, .inr ⟨_, upd_same, fun D hD => ?_⟩⟩
    obtain ⟨Dd, D0⟩ := upd_free hD
    have hc : ∀ b o, H b = some o → b ≠ d → upd H d (.frz od (.dT (tkv (R.map vp)))) b = some o := fun b o e n => by rw [upd_ne n]; exact e
    refine lc_it (walk_keysT (o := od) (kvs := tkv (R.map vp))) (fun i H' => (∀ b o, H b = some o → b ≠ d → H' b = some o) ∧ H' d = some (.frz od (.dT (tkv (R.map vp)))) ∧ ∃ xs, H' D = some (.lst xs) ∧ xs.length = ((R.take i).filter isO).length)
      ⟨fun b o e n => by rw [upd_ne (ne_of_none e D0)]; exact hc b o e n, by rw [upd_ne Dd.symm]; exact upd_same, [], upd_same, rfl⟩ (fun i H' _ q => q.2.1) ?_ ?_
    · rintro i x H1 H2 hi ⟨p1, p2, xs, p3, p4⟩ ⟨rfl, kk, v, q, hkv, rfl, hq⟩
      obtain ⟨pu, hpu, ek⟩ := tkv_get hkv
      obtain ⟨u, hu, rfl⟩ := get_map hpu
      subst ek
      have hq : H2 q = some (.tup (pt (vp u))) := hq
      refine ⟨rfl, _, rfl, q, _, _, _, rfl, rfl, SqT.of hq, atI_nat (j := 0) rfl, rfl, _, rfl, ?_⟩
      rw [dec_int, isO_vp]
      have tk := take_snoc hu
      have few : xs.length ≤ 100 := by
        rw [p4]
        refine Nat.le_trans (List.length_filter_le _ _) ?_
        rw [List.length_take]; omega
      cases c : isO u
      · refine iteF ⟨p1, p2, xs, p3, ?_⟩
        rw [p4, tk, List.filter_append]
        simp [c]
      · refine iteT ⟨_, rfl, xs, p3, small1000 (by omega), fun b o e n => ?_, ?_, _, upd_same, ?_⟩
        · rw [upd_ne (ne_of_none e D0)]; exact p1 b o e n
        · rw [upd_ne (fun z => by rw [z, p3] at p2; cases p2)]; exact p2
        · rw [List.length_append, p4, tk, List.filter_append]
          simp [c]
    · rintro H1 ⟨p1, p2, xs, p3, p4⟩
      have hl2 : (tkv (R.map vp)).length = R.length := by rw [List.length_map, List.length_map]
      rw [hl2, List.take_length] at p4
      refine ⟨p2, D, xs, rfl, .inl (SqL.of (by rw [upd_ne Dd]; exact p3)), ?_⟩
      rw [p4]
      refine k _ fun b o e => ?_
      by_cases q : b = d
      · subst q
        rw [upd_same, ← e, hR]
      · rw [upd_ne q]; exact p1 b o e q
/-! ### Surveys.__init__ -/
def spSInit (CG CL CS : Addr) : Sp := fun vs H Q _ => ∃ (p dx : Addr) (A : Gr), vs = [.ref p, .ref A.g] ∧ H p = some (.ins CS dx []) ∧ GInv CG H A Vbxlaf.initialState ∧
  ∀ H' B, B.sv = p → SInv CG CL CS H' A B Vbxlaf.initialState → (∀ b o, H b = some o → b ≠ p → H' b = some o) → H B.ml = none → Q .non H'
theorem scSInit : FnScope ["self", "graph"] ["self", "graph"] (defScope (sm 0)) := ⟨rfl, rfl, rfl, by decide +kernel, rfl, by decide +kernel, by decide +kernel⟩
theorem ok_sinit {f : Addr} {fd : FuncData} (F : Fun K "__init__" "Surveys.__init__" (sm 0) f fd) (T : Txt K mg CG CL CS) : FnOk P w K mg base CX0 1 f fd ["self", "graph"] (spSInit CG CL CS) := by
  refine F.ok scSInit (fun vs H Q E h => ?_) (fun cdv A0 outer s H vs Q E hr h => ?_)
  · obtain ⟨p, dx, A, rfl, _⟩ := h
    rfl
  · obtain ⟨p, dx, A, rfl, hp, I, k⟩ := h
    refine ⟨_, pss_cons (ps_fld (pv 0) (pv 1) rfl) (pss_cons (ps_fld (pv 0) (pe_lst pa_nil) rfl) (pss_one (ps_fld (pv 0) pe_dnewK rfl))), ?_⟩
    refine ⟨_, rfl, _, rfl, p, CS, dx, _, rfl, hp, T.cS, T.aS _ (ix_mem _ kS_graph), (by show 0 < 1000; decide), ?_⟩
    have pf : p ∉ foot A Vbxlaf.initialState := fun m => by
      obtain ⟨ys, hs, _⟩ := I.slots
      rcases foot_cases m with e | e | e | e | e | e | ⟨o, ho, _⟩
      · rw [e, I.ob] at hp
        injection hp with hp; injection hp with _ _ z
        exact absurd z (by intro z; cases z)
      · rw [e, hs] at hp; cases hp
      · rw [e, I.fd] at hp; cases hp
      · rw [e, I.sd] at hp; cases hp
      · rw [e, I.cd] at hp; cases hp
      · rw [e, I.nd] at hp; cases hp
      · cases ho
    have s1 : ∀ b o, H b = some o → b ≠ p → upd H p (.ins CS dx (putF "graph" (.ref A.g) [])) b = some o := fun b o e n => by rw [upd_ne n]; exact e
    have h1 : upd H p (.ins CS dx (putF "graph" (.ref A.g) [])) p = some (.ins CS dx ((["graph"] : List Str).zip [V.ref A.g])) := upd_same
    generalize upd H p (.ins CS dx (putF "graph" (.ref A.g) [])) = H1 at s1 h1 ⊢
    refine ⟨Nat.zero_le _, fun ml hml => ?_⟩
    have mp : ml ≠ p := fun e => by rw [e, h1] at hml; cases hml
    refine ⟨_, rfl, p, CS, dx, _, rfl, (by rw [upd_ne mp.symm]; exact h1), T.cS, T.aS _ (ix_mem _ kS_made), (by show 1 < 1000; decide), ?_⟩
    rw [put_new ["graph"] [V.ref A.g] (by decide +kernel) rfl]
    have e2 : ((["graph"] : List Str) ++ [("made" : Str)]).zip ([V.ref A.g] ++ [V.ref ml]) = (["graph", "made"] : List Str).zip [V.ref A.g, V.ref ml] := rfl
    rw [e2]
    have s2 : ∀ b o, H1 b = some o → b ≠ p → upd (upd H1 ml (.lst [])) p (.ins CS dx ((["graph", "made"] : List Str).zip [V.ref A.g, V.ref ml])) b = some o := fun b o e n => by rw [upd_ne n, upd_ne (ne_of_none e hml)]; exact e
    have h2 : upd (upd H1 ml (.lst [])) p (.ins CS dx ((["graph", "made"] : List Str).zip [V.ref A.g, V.ref ml])) p = some (.ins CS dx ((["graph", "made"] : List Str).zip [V.ref A.g, V.ref ml])) := upd_same
    have m2 : upd (upd H1 ml (.lst [])) p (.ins CS dx ((["graph", "made"] : List Str).zip [V.ref A.g, V.ref ml])) ml = some (.lst []) := by rw [upd_ne mp]; exact upd_same
    generalize upd (upd H1 ml (.lst [])) p (.ins CS dx ((["graph", "made"] : List Str).zip [V.ref A.g, V.ref ml])) = H2 at s2 h2 m2 ⊢
    intro lr hlr
    have lp : lr ≠ p := fun e => by rw [e, h2] at hlr; cases hlr
    refine ⟨_, rfl, p, CS, dx, _, rfl, (by rw [upd_ne lp.symm]; exact h2), T.cS, T.aS _ (ix_mem _ kS_last), (by show 2 < 1000; decide), ?_⟩
    rw [put_new ["graph", "made"] [V.ref A.g, V.ref ml] (by decide +kernel) rfl]
    have st3 : ∀ b o, H b = some o → b ≠ p → upd (upd H2 lr (.dK [])) p (.ins CS dx (((["graph", "made"] : List Str) ++ [("last_reached" : Str)]).zip ([V.ref A.g, V.ref ml] ++ [V.ref lr]))) b = some o := fun b o e n => by
      rw [upd_ne n, upd_ne (ne_of_none (s2 _ _ (s1 _ _ e n) n) hlr)]; exact s2 _ _ (s1 _ _ e n) n
    have mf : ml ∉ foot A Vbxlaf.initialState := fun m => by
      cases e : H ml with
      | none => exact I.alive m e
      | some o => rw [s1 _ _ e mp] at hml; cases hml
    have lf : lr ∉ foot A Vbxlaf.initialState := fun m => by
      cases e : H lr with
      | none => exact I.alive m e
      | some o => rw [s2 _ _ (s1 _ _ e lp) lp] at hlr; cases hlr
    have lm : lr ≠ ml := fun e => by rw [e, m2] at hlr; cases hlr
    refine k _ ⟨p, dx, ml, lr, []⟩ rfl ?_ st3 (by
      cases e : H ml with
      | none => rfl
      | some o => rw [s1 _ _ e mp] at hml; cases hml)
    have I3 : GInv CG (upd (upd H2 lr (.dK [])) p (.ins CS dx (((["graph", "made"] : List Str) ++ [("last_reached" : Str)]).zip ([V.ref A.g, V.ref ml] ++ [V.ref lr])))) A Vbxlaf.initialState := by
      have a : ∀ b o, H b = some o → b ∈ foot A Vbxlaf.initialState → _ := fun b o e m => st3 b o e (fun q => pf (q ▸ m))
      obtain ⟨ys, hs, rs⟩ := I.slots
      exact { I with
        ob := a _ _ I.ob foot_g
        slots := ⟨ys, a _ _ hs foot_sl, VRs.keep rs fun b xs e => st3 _ _ e (ne_of e hp (by intro z; cases z))⟩
        fd := a _ _ I.fd foot_fd
        fl := fun o ho => nomatch ho
        sd := a _ _ I.sd foot_sd
        cd := a _ _ I.cd foot_cd
        nd := a _ _ I.nd foot_nd }
    exact {
      g := I3
      ob := upd_same
      sn := pf
      ml := ⟨[], by rw [upd_ne mp, upd_ne lm.symm]; exact m2, .nil⟩
      mn := mf
      lr := off_some.mpr ⟨fun m => by
        rcases List.mem_cons.mp m with e | m
        · exact lp e
        · rcases List.mem_cons.mp m with e | m
          · exact lm e
          · exact lf m, by rw [upd_ne lp]; exact upd_same⟩
      last := fun h => absurd rfl h }
end
end Sv
namespace Sv
open PySem PySem.Spec PyProof.Rows L2
/-! ## what holds of every state, its records too -/
structure PInv (st : St0) : Prop where
  w : Wf st
  n0 : st.surveys = [] → st.slotsChanged = true ∧ st.recordedEntries = []
  c1 : Vbxlaf.areSlotsAffected st = false → st.recordedSlots = Vbxlaf.slotsReach st
  c2 : ∀ e ∈ st.entries, Vbxlaf.isAffected st e.number = false → Vbxlaf.recordedReach st e.number = some (Vbxlaf.entryReach st e.number)
def reachNow (st : St0) (s : Nat) : Vbxlaf.Reach := if s = 0 then Vbxlaf.slotsReach st else Vbxlaf.entryReach st s
def affB (st : St0) (s : Nat) : Bool := if s = 0 then Vbxlaf.areSlotsAffected st else Vbxlaf.isAffected st s
def srcs (st : St0) : List Nat := 0 :: st.entries.map fun e => e.number
abbrev intsV (l : List Nat) : List V := l.map fun (n : Nat) => V.int (n : Int)
def srcV (st : St0) (s : Nat) : List Val := if s = 0 then st.slots else [.object s]
theorem srcs_mem {st : St0} {s : Nat} (h : s ∈ srcs st) : s = 0 ∨ ∃ e ∈ st.entries, e.number = s := by
  rcases List.mem_cons.mp h with q | q
  · exact .inl q
  · obtain ⟨e, he, r⟩ := List.mem_map.mp q
    exact .inr ⟨e, he, r⟩
theorem srcs_len {st : St0} (W : Wf st) : (srcs st).length ≤ 61 := by
  unfold srcs
  rw [List.length_cons, List.length_map]
  have h2 := Sl.nm_few W.nok
  have h3 : (Sl.nmOf st).length = st.entries.length + st.imports.length := by
    show (List.map _ _ ++ List.map _ _).length = _
    rw [List.length_append, List.length_map, List.length_map]
  omega
theorem entry_pos {st : St0} (W : Wf st) {e : Vbxlaf.Named} (h : e ∈ st.entries) : e.number ≠ 0 := by
  have := W.nok.elow e h; omega
theorem srcs_nodup {st : St0} (W : Wf st) : (srcs st).Nodup := List.nodup_cons.mpr ⟨fun m => by
  obtain ⟨e, he, q⟩ := List.mem_map.mp m
  exact entry_pos W he q, W.einc.nodup⟩
theorem reachNow_of {st : St0} (s : Nat) : reachNow st s = Vbxlaf.reachOf st (srcV st s) := by
  unfold reachNow srcV Vbxlaf.slotsReach Vbxlaf.entryReach
  split <;> rfl
theorem srcV_ok {st : St0} (W : Wf st) {s : Nat} (h : s = 0 ∨ ∃ e ∈ st.entries, e.number = s) : ∀ v ∈ srcV st s, VOk st v := by
  intro v hv
  unfold srcV at hv
  rcases h with h | ⟨e, he, h⟩
  · rw [if_pos h] at hv; exact W.sok v hv
  · rw [if_neg (by rw [← h]; exact entry_pos W he), List.mem_singleton] at hv
    rw [hv, ← h]; exact W.eok e he
theorem isReach_of {st : St0} (W : Wf st) {H : Hp} {d : Addr} {R vals : List Val} (ok : ∀ v ∈ vals, VOk st v) (h : IsR H d R) (hn : R.Nodup) (hm : ∀ v, v ∈ R ↔ Sl.Led (Vbxlaf.fieldsOf st) vals v) : IsReach H d (Vbxlaf.reachOf st vals) :=
  ⟨R, h, hn, fun n => (hm _).trans (Sl.reach_objects W.closed fun v hv => (ok v hv).ok).symm, fun n => (hm _).trans (Sl.reach_foreigns W.closed fun v hv => (ok v hv).ok).symm, fun m => ((hm _).mp m).ne rfl⟩

section
variable {P : Program} {w : World} {K : PySem.W.Frag} {mg : Str → Option Value} {base : Heap} {CG CL CS : Addr}
theorem sF_get {H : Hp} {A : Gr} {B : Su} {st : St0} (I : SInv CG CL CS H A B st) (T : Txt K mg CG CL CS) {f : Str} {v : V} (i : Nat) (h : sK.findIdx? (fun k => f == k) = some i) (hv : ([.ref A.g, .ref B.ml, .ref B.lr] : List V)[i]? = some v) :
    H B.sv = some (.ins CS B.svx (sK.zip [.ref A.g, .ref B.ml, .ref B.lr])) ∧ Cls K CS ∧ NoAttr K CS f ∧ (sK.zip [.ref A.g, .ref B.ml, .ref B.lr]).lookup f = some v :=
  ⟨I.ob, T.cS, T.aS _ (ix_mem _ h), sk_get _ rfl _ h hv⟩
/-! ### Surveys.all_sources -/
def spSrcs (CG CL CS : Addr) : Sp := fun vs H Q _ => ∃ (A : Gr) (B : Su) (st : St0), vs = [.ref B.sv] ∧ SInv CG CL CS H A B st ∧ Wf st ∧ ∀ H' p, Same H H' → H p = none → H' p = some (.lst (intsV (srcs st))) → Q (.ref p) H'
theorem scSrcs : FnScope ["self", "name"] ["self"] (defScope (sm 1)) := ⟨rfl, rfl, rfl, by decide +kernel, rfl, by decide +kernel, by decide +kernel⟩
theorem ok_srcs {f : Addr} {fd : FuncData} (F : Fun K "all_sources" "Surveys.all_sources" (sm 1) f fd) (T : Txt K mg CG CL CS) (mE : Metd P w K mg base CG 1 "entries" ["self"] (spNames CG 1 entV)) : FnOk P w K mg base CX0 2 f fd ["self"] (spSrcs CG CL CS) := by
  obtain ⟨fE, fdE, gE, meE, bE⟩ := mE
  refine F.ok scSrcs (fun vs H Q E h => ?_) (fun cdv A0 outer s H vs Q E hr h => ?_)
  · obtain ⟨A, B, st, rfl, _⟩ := h
    rfl
  · obtain ⟨A, B, st, rfl, I, W, k⟩ := h
    refine ⟨_, pss_one (ps_ret (pe_op op_cat (pe_lst (pa_cons (pe_num T.nS) pa_nil)) (pe_lc (own := [("name", 1)]) (te := tOp (rIxT K) (tVar 1) (tC (.int 1))) rfl scSrcs.nd (pi_list (pe_meth0 (pe_fld (pv 0) rfl) T.cG meE gE hr bE .nil pass0)) (blkOk_by (N := ["self", "name"]) (sc := defScope (sm 1)) (by decide +kernel))
      (fun _ _ _ _ _ => pg_name (i := 1) scSrcs.nd rfl (Or.inl rfl)) (fun _ _ _ _ _ => pts_nil) (fun _ _ _ _ _ => pe_ix ix_tup (pv 1) pe_int (fun _ _ => rfl))))), ?_⟩
    refine ⟨(by show 1 ≤ sizeLine; decide), fun l hl => ?_⟩
    have s1 : Same H (upd H l (.lst [.int 0])) := Same.fresh hl
    have I1 := I.same s1
    obtain ⟨b1, b2, b3, b4⟩ := sF_get I1 T 0 kS_graph rfl
    refine ⟨_, rfl, B.sv, CS, B.svx, _, _, rfl, b1, b2, b3, b4, A.g, A.gx, _, rfl, I1.g.ob, lk_none gK _ (by decide +kernel), ?_⟩
    refine ⟨A, st, rfl, I1.g, W.nok, fun H2 p xs s2 hp hp2 rs => ?_⟩
    refine ⟨p, rfl, ⟨_, SqL.of hp2⟩, fun D hD => ?_⟩
    have l2 : H2 l = some (.lst [.int 0]) := s2 _ _ upd_same
    have lenE : (entV st).length ≤ 60 := by
      have := srcs_len W
      unfold srcs at this
      rw [List.length_cons, List.length_map] at this
      unfold entV
      rw [List.length_map]; omega
    refine lc_list (K := K) (a := p) (xs := xs) (fun i H' => Same H2 H' ∧ H' D = some (.lst (intsV ((st.entries.take i).map fun e => e.number)))) ⟨Same.fresh hD, upd_same⟩ (fun i H' _ q => q.1.seq (SqL.of hp2)) ?_ ?_
    · rintro i x H' hx ⟨s3, d3⟩
      obtain ⟨v, hv, b, rfl, hb⟩ := paired_get rs hx
      obtain ⟨e, he, rfl⟩ := get_map hv
      have hb' := s3 _ _ hb
      have : i < st.entries.length := (List.getElem?_eq_some_iff.mp he).1
      have hle : st.entries.length ≤ 60 := by unfold entV at lenE; rwa [List.length_map] at lenE
      refine ⟨rfl, ?_⟩
      refine ⟨_, rfl, b, _, _, _, rfl, rfl, SqT.of hb', atI_nat (j := 1) rfl, _, d3, by rw [List.length_map, List.length_map, List.length_take]; exact small1000 (by omega), ?_, ?_⟩
      · intro c o ec
        rw [upd_ne (ne_of_none ec hD)]; exact s3 _ _ ec
      · rw [upd_same, take_snoc he, List.map_append]
        show _ = some (HO.lst (List.map _ _))
        rw [List.map_append]; rfl
    · rintro H3 ⟨s3, d3⟩
      have lx : xs.length = st.entries.length := by rw [VRs.length rs]; exact List.length_map _
      rw [lx, List.take_length] at d3
      refine ⟨l, D, _, _, rfl, rfl, s3 _ _ l2, d3, ?_, fun r hr3 => ?_⟩
      · rw [List.length_map, List.length_map, List.length_singleton, sizeLine_eq]
        unfold entV at lenE; rw [List.length_map] at lenE; omega
      · have sA : Same H H3 := (s1.trans s2).trans s3
        exact k _ r (sA.trans (Same.fresh hr3)) (sA.free hr3) upd_same

/-! ### Surveys.is_affected -/
def spAff (CG CL CS : Addr) : Sp := fun vs H Q _ => ∃ (A : Gr) (B : Su) (st : St0) (s : Nat), vs = [.ref B.sv, .int (s : Int)] ∧ SInv CG CL CS H A B st ∧ PInv st ∧ (s = 0 ∨ ∃ e ∈ st.entries, e.number = s) ∧ ∀ H', Same H H' → Q (.bl (affB st s)) H'
theorem aff_zero {st : St0} (I : PInv st) (h : st.surveys = []) (s : Nat) : affB st s = true := by
  obtain ⟨h1, h2⟩ := I.n0 h
  unfold affB Vbxlaf.areSlotsAffected Vbxlaf.isAffected Vbxlaf.recordedReach
  rw [h1, h2]
  split <;> rfl
theorem scAff : FnScope ["self", "source", "reached", "changed"] ["self", "source"] (defScope (sm 2)) := ⟨rfl, rfl, rfl, by decide +kernel, rfl, by decide +kernel, by decide +kernel⟩
theorem ok_aff {f : Addr} {fd : FuncData} (F : Fun K "is_affected" "Surveys.is_affected" (sm 2) f fd) (T : Txt K mg CG CL CS) : FnOk P w K mg base CX0 1 f fd ["self", "source"] (spAff CG CL CS) := by
  refine F.ok scAff (fun vs H Q E h => ?_) (fun cdv A0 outer s H vs Q E hr h => ?_)
  · obtain ⟨A, B, st, n, rfl, _⟩ := h
    rfl
  · obtain ⟨A, B, st, n, rfl, I, PI, hsrc, k⟩ := h
    have hu := hu_of hr
    refine ⟨_, pss_cons (ps_if (pt_cmpR op_eq (pe_callB call_len_seq (by rfl) T.bLen PySem.boot_len (pa_cons (pe_fld (pv 0) rfl) pa_nil)) pe_int (nomark _)) (pss_one (ps_ret pe_bl)) pss_nil)
      (pss_cons (ps_if (PW.pt (pw_and (pt_cmpR op_eq (pv 1) (pe_num T.nS) (nomark _)) (pw_and1 (pt_val (pe_fld (pe_fld (pv 0) rfl) rfl))))) (pss_one (ps_ret pe_bl)) pss_nil)
      (pss_cons (ps_if (pt_cmp (pc_din hu (pe_tup (pa_cons (pe_num T.nO) (pa_cons (pv 1) pa_nil))) (pe_fld (pe_fld (pv 0) rfl) rfl))) (pss_one (ps_ret pe_bl)) pss_nil)
      (pss_cons (ps_set (i := 2) scAff.nd rfl (.inr rfl) (pe_dget hu (pe_fld (pv 0) rfl) (pv 1) (fun _ _ => rfl)))
      (pss_one (ps_ret (pe_callB (cr_any rfl) (by rfl) T.bAny (by decide +kernel) (pa_cons (pe_lock (pe_lc (own := [("changed", 3)]) (te := tDIn (tVar 3) (tVar 2)) rfl scAff.nd (pi_keys (pe_fld (pe_fld (pv 0) rfl) rfl)) (blkOk_by (N := ["self", "source", "reached", "changed"]) (sc := defScope (sm 2)) (by decide +kernel))
        (fun _ _ _ _ _ => pg_name (i := 3) scAff.nd rfl (Or.inl rfl)) (fun _ _ _ _ _ => pts_nil) (fun _ _ _ _ _ => pe_cmp (pc_din hu (pv 3) (pv 2)) rfl))) pa_nil))))))), ?_⟩
    obtain ⟨xs, hxs, rs⟩ := I.ml
    have G := I.g
    obtain ⟨b1, b2, b3, b4⟩ := sF_get I T 1 kS_made rfl
    refine ⟨_, rfl, B.sv, CS, B.svx, _, _, rfl, b1, b2, b3, b4, B.ml, _, rfl, .inl (SqL.of hxs), rfl, _, rfl, ?_⟩
    rw [dec_int]
    have lx : xs.length = st.surveys.length := Paired.length rs
    by_cases c0 : st.surveys = []
    · have : xs.length = 0 := by rw [lx, c0]; rfl
      rw [decide_eq_true (by rw [this]; rfl)]
      have := k H (Same.refl H)
      rw [aff_zero PI c0] at this
      exact iteT this
    · have : ¬ ((xs.length : Nat) : Int) = 0 := fun e => c0 (List.length_eq_zero_iff.mp (by omega))
      rw [decide_eq_false this]
      refine iteF ?_
      obtain ⟨g1, g2, g3, g4⟩ := sF_get I T 0 kS_graph rfl
      have sc := G.sc c0
      refine ⟨_, rfl, rfl, _, rfl, ?_⟩
      rw [dec_int]
      -- from here on: the slots are not changed, if it is they
      have rest : (n = 0 → st.slotsChanged = false) → tIfS (tB (tDIn (tTup (tCons (tC (.int 1)) (tCons (tVar 1) tNil))) (tFld K (tFld K (tVar 0) "graph") "new_names"))) (tRet (tC (.bl true))) tNext
          { nx := tSeq (tAsg (tDGet (tFld K (tVar 0) "last_reached") (tVar 1)) (gName 2)) (tRet (tCB (rAny K) (tCons (tLockE (tLc (iKeys (tFld K (tFld K (tVar 0) "graph") "changed_objects")) (gName 3) tYes (tDIn (tVar 3) (tVar 2)) [3])) tNil))) { nx := fun _ H' => Q .non H', rt := Q }, rt := Q } [some (.ref B.sv), some (.int (n : Int)), none, none] H := by
        intro hsl
        refine ⟨_, rfl, (by show 2 ≤ sizeLine; decide), fun t ht => ?_⟩
        have s1 : Same H (upd H t (.tup [.int 1, .int (n : Int)])) := Same.fresh ht
        have I1 := I.same s1
        obtain ⟨g1, g2, g3, g4⟩ := sF_get I1 T 0 kS_graph rfl
        refine ⟨_, rfl, B.sv, CS, B.svx, _, _, rfl, g1, g2, g3, g4, A.g, CG, A.gx, _, _, rfl, I1.g.ob, T.cG, T.aG _ (ixG _ kG_nn), gk_get A _ _ _ kG_nn rfl, A.nd, _, rfl, DGet.t (k := pk (1, (n : Int))) I1.g.nd upd_same, ?_⟩
        rw [valV_tkv]
        by_cases c1 : one n ∈ A.ms
        · rw [if_pos c1]
          refine ⟨_, rfl, iteT ?_⟩
          have n0 : n ≠ 0 := fun e => by
            have := G.nl _ c1
            rw [e] at this
            have : ((one 0).1 = 1 ∧ (1 : Int) ≤ 0 ∧ _) ∨ ((1 : Int) = 2 ∧ _) := this
            omega
          obtain ⟨e, he, en⟩ := hsrc.resolve_left n0
          have hrec := (G.nm c0 e he).mp (by rw [en]; exact c1)
          have : affB st n = true := by
            unfold affB Vbxlaf.isAffected
            rw [if_neg n0, ← en, hrec]
          rw [← this]
          exact k _ s1
        · rw [if_neg c1]
          refine ⟨_, rfl, iteF ?_⟩
          obtain ⟨l1, l2, l3, l4⟩ := sF_get I1 T 2 kS_last rfl
          have hlr := (off_some.mp I1.lr).2
          obtain ⟨d, R, hd, hR, haff⟩ : ∃ d R, valV B.lk (nkey n) = some (.ref d) ∧ IsReach (off (feet A B st) (upd H t (.tup [.int 1, .int (n : Int)]))) d R ∧ affB st n = st.changed.any R.objects.contains := by
            obtain ⟨L1, L2⟩ := I1.last c0
            by_cases n0 : n = 0
            · obtain ⟨d, e1, e2⟩ := L1
              refine ⟨d, _, by rw [n0]; exact e1, e2, ?_⟩
              unfold affB Vbxlaf.areSlotsAffected
              rw [if_pos n0, hsl n0, Bool.false_or]
            · obtain ⟨e, he, en⟩ := hsrc.resolve_left n0
              have hrec : Vbxlaf.recordedReach st n ≠ none := fun z => c1 (by rw [← en]; exact (G.nm c0 e he).mpr (by rw [en]; exact z))
              obtain ⟨R, hR⟩ := Option.ne_none_iff_exists'.mp hrec
              unfold Vbxlaf.recordedReach at hR
              obtain ⟨p, hp, ep⟩ := Option.map_eq_some_iff.mp hR
              have p0 := List.find?_some hp
              have p1 : p.1 = n := eq_of_beq p0
              obtain ⟨d, e1, e2⟩ := L2 p (List.mem_of_find?_eq_some hp)
              refine ⟨d, p.2, by rw [← p1]; exact e1, e2, ?_⟩
              unfold affB Vbxlaf.isAffected Vbxlaf.recordedReach
              rw [if_neg n0, hp]; rfl
          refine ⟨_, rfl, B.sv, CS, B.svx, _, _, rfl, l1, l2, l3, l4, _, rfl, B.lr, _, rfl, (by rw [← hd]; exact DGet.k (k := nkey n) hlr), ?_⟩
          obtain ⟨L, hL, Ln, Lo, Lf, L0⟩ := hR
          obtain ⟨dF, hL⟩ := off_some.mp hL
          have cdF : A.cd ∈ feet A B st := List.mem_cons_of_mem _ (List.mem_cons_of_mem _ foot_cd)
          have dcd : d ≠ A.cd := fun e => dF (e ▸ cdF)
          have hcd := I1.g.cd
          have tcd : t ≠ A.cd := fun e => by rw [← e, upd_same] at hcd; cases hcd
          generalize upd H t (.tup [.int 1, .int (n : Int)]) = H1 at s1 I1 g1 hL hcd ⊢
          refine ⟨A.cd, _, hcd, True.intro, fun od => ?_⟩
          have svcd : B.sv ≠ A.cd := fun e => I.sn (e ▸ foot_cd)
          have gcd : A.g ≠ A.cd := ne_of I1.g.ob hcd (by intro z; cases z)
          refine ⟨_, rfl, B.sv, CS, B.svx, _, _, rfl, (by rw [upd_ne svcd]; exact g1), g2, g3, g4, A.g, CG, A.gx, _, _, rfl, (by rw [upd_ne gcd]; exact I1.g.ob), T.cG, T.aG _ (ixG _ kG_co), gk_get A _ _ _ kG_co rfl, A.cd, od, rfl, .inr ⟨_, upd_same, fun D hD => ?_⟩⟩
          obtain ⟨Dd, D0⟩ := upd_free hD
          refine lc_it (walk_keysT (o := od) (kvs := tkv (A.cs.map one))) (fun i H' => (∀ b o, H1 b = some o → b ≠ A.cd → H' b = some o) ∧ H' A.cd = some (.frz od (.dT (tkv (A.cs.map one)))) ∧ H' D = some (.lst (((A.cs.take i).map fun m => decide (Vbxlaf.Value.object m ∈ L)).map V.bl)))
            ⟨fun b o e n => by rw [upd_ne (ne_of_none e D0), upd_ne n]; exact e, by rw [upd_ne Dd.symm]; exact upd_same, upd_same⟩ (fun i H' _ q => q.2.1) ?_ ?_
          · rintro i x H2 H3 hi ⟨p1, p2, p3⟩ ⟨rfl, kk, v, q, hkv, rfl, hq⟩
            obtain ⟨pu, hpu, ek⟩ := tkv_get hkv
            obtain ⟨m, hm, rfl⟩ := get_map hpu
            subst ek
            have hq : H3 q = some (.tup (pt (one m))) := hq
            refine ⟨rfl, ?_⟩
            refine ⟨_, rfl, _, rfl, d, _, rfl, DGet.t (k := pk (one m)) (p1 _ _ hL dcd) hq, ?_⟩
            rw [valV_tkv]
            have eb : (if one m ∈ L.map vp then some (V.bl true) else none).isSome = decide (Vbxlaf.Value.object m ∈ L) := by
              have : one m ∈ L.map vp ↔ Vbxlaf.Value.object m ∈ L := vp_mem (v := .object m)
              by_cases c : Vbxlaf.Value.object m ∈ L
              · rw [if_pos (this.mpr c), decide_eq_true c]; rfl
              · rw [if_neg (fun z => c (this.mp z)), decide_eq_false c]; rfl
            rw [eb]
            have few := G.csfew PI.w
            refine ⟨_, p3, by rw [List.length_map, List.length_map, List.length_take]; exact small1000 (by omega), fun b o e n => ?_, ?_, ?_⟩
            · rw [upd_ne (ne_of_none e D0)]; exact p1 b o e n
            · rw [upd_ne Dd.symm]; exact p2
            · rw [upd_same, take_snoc hm, List.map_append, List.map_append]; rfl
          · rintro H2 ⟨p1, p2, p3⟩
            have hl2 : (tkv (A.cs.map one)).length = A.cs.length := by rw [List.length_map, List.length_map]
            rw [hl2, List.take_length] at p3
            refine ⟨p2, D, _, rfl, SqL.of (by rw [upd_ne Dd]; exact p3), ?_⟩
            have ea : ((A.cs.map fun m => decide (Vbxlaf.Value.object m ∈ L)).any id) = affB st n := by
              rw [haff, Bool.eq_iff_iff, List.any_eq_true, List.any_eq_true]
              constructor
              · rintro ⟨b, hb, e⟩
                obtain ⟨m, hm, rfl⟩ := List.mem_map.mp hb
                exact ⟨m, (G.cm m).mp hm, List.contains_iff_mem.mpr ((Lo m).mp (of_decide_eq_true e))⟩
              · rintro ⟨m, hm, e⟩
                exact ⟨_, List.mem_map.mpr ⟨m, (G.cm m).mpr hm, rfl⟩, decide_eq_true ((Lo m).mpr (List.contains_iff_mem.mp e))⟩
            rw [ea]
            refine k _ (s1.trans fun b o e => ?_)
            by_cases q : b = A.cd
            · rw [q, upd_same, ← e, q, hcd]
            · rw [upd_ne q]; exact p1 b o e q
      by_cases c2 : n = 0
      · rw [decide_eq_true (by omega)]
        refine iteT ⟨_, rfl, B.sv, CS, B.svx, _, _, rfl, g1, g2, g3, g4, A.g, CG, A.gx, _, _, rfl, G.ob, T.cG, T.aG _ (ixG _ kG_sc), gk_get A _ _ _ kG_sc rfl, _, rfl, ?_⟩
        cases c3 : A.sc
        · exact iteF (rest fun _ => by rw [← sc]; exact c3)
        · refine iteT ?_
          have : affB st n = true := by
            unfold affB Vbxlaf.areSlotsAffected
            rw [if_pos c2, ← sc, c3]; rfl
          rw [← this]
          exact k H (Same.refl H)
      · rw [decide_eq_false (by omega)]
        exact iteF (iteF (rest fun z => absurd z c2))
end
end Sv
namespace Sv
open PySem PySem.Spec PyProof.Rows L2
theorem SInv.alive {CG CL CS : Addr} {H : Hp} {A : Gr} {B : Su} {st : St0} (I : SInv CG CL CS H A B st) {b : Addr} (h : b ∈ feet A B st) : H b ≠ none := by
  rcases List.mem_cons.mp h with e | h
  · rw [e, I.ob]; exact fun z => nomatch z
  · rcases List.mem_cons.mp h with e | h
    · obtain ⟨xs, hx, _⟩ := I.ml
      rw [e, hx]; exact fun z => nomatch z
    · exact I.g.alive h
theorem SInv.new {CG CL CS : Addr} {H : Hp} {A : Gr} {B : Su} {st : St0} (I : SInv CG CL CS H A B st) {b : Addr} (h : H b = none) : b ∉ feet A B st := fun m => I.alive m h
section
variable {P : Program} {w : World} {K : PySem.W.Frag} {mg : Str → Option Value} {base : Heap} {CG CL CS : Addr}
/-! ### Surveys.affected_sources -/
def spAffs (CG CL CS : Addr) : Sp := fun vs H Q _ => ∃ (A : Gr) (B : Su) (st : St0), vs = [.ref B.sv] ∧ SInv CG CL CS H A B st ∧ PInv st ∧ ∀ H' p, Same H H' → H p = none → H' p = some (.lst (intsV ((srcs st).filter (affB st)))) → Q (.ref p) H'
theorem scAffs : FnScope ["self", "source"] ["self"] (defScope (sm 3)) := ⟨rfl, rfl, rfl, by decide +kernel, rfl, by decide +kernel, by decide +kernel⟩
theorem ok_affs {f : Addr} {fd : FuncData} (F : Fun K "affected_sources" "Surveys.affected_sources" (sm 3) f fd) (T : Txt K mg CG CL CS) (mS : Metd P w K mg base CS 2 "all_sources" ["self"] (spSrcs CG CL CS)) (mA : Metd P w K mg base CS 1 "is_affected" ["self", "source"] (spAff CG CL CS)) : FnOk P w K mg base CX0 3 f fd ["self"] (spAffs CG CL CS) := by
  obtain ⟨fS, fdS, gS, meS, bS⟩ := mS
  obtain ⟨fA, fdA, gA, meA, bA⟩ := mA
  refine F.ok scAffs (fun vs H Q E h => ?_) (fun cdv A0 outer s H vs Q E hr h => ?_)
  · obtain ⟨A, B, st, rfl, _⟩ := h
    rfl
  · obtain ⟨A, B, st, rfl, I, PI, k⟩ := h
    have hr1 : Room 1 _ := hr.mono (by decide)
    refine ⟨_, pss_one (ps_ret (pe_lc (own := [("source", 1)]) (te := tVar 1) (tt := tB (tMeth CS "is_affected" (spAff CG CL CS) [] E0 (tVar 0) (tCons (tVar 1) tNil))) rfl scAffs.nd (pi_list (pe_meth0 (pv 0) T.cS meS gS hr bS .nil pass0)) (blkOk_by (N := ["self", "source"]) (sc := defScope (sm 3)) (by decide +kernel))
      (fun _ _ _ _ _ => pg_name (i := 1) scAffs.nd rfl (Or.inl rfl)) (fun _ _ _ _ _ => pts_one (pt_val (pe_meth (pv 0) T.cS meA gA hr1 bA .nil pass0 (pa_cons (pv 1) pa_nil)))) (fun _ _ _ _ _ => pv 1))), ?_⟩
    refine ⟨_, rfl, B.sv, B.svx, _, rfl, I.ob, lk_none sK _ (by decide +kernel), ?_⟩
    refine ⟨A, B, st, rfl, I, PI.w, fun H1 p s1 hp hp1 => ?_⟩
    refine ⟨p, rfl, ⟨_, SqL.of hp1⟩, fun D hD => ?_⟩
    have few := srcs_len PI.w
    refine lc_list (K := K) (a := p) (xs := intsV (srcs st)) (fun i H' => Same H1 H' ∧ H' D = some (.lst (intsV (((srcs st).take i).filter (affB st))))) ⟨Same.fresh hD, upd_same⟩ (fun i H' _ q => q.1.seq (SqL.of hp1)) ?_ ?_
    · rintro i x H' hx ⟨s2, d2⟩
      obtain ⟨n, hn, rfl⟩ := get_map hx
      have I2 := I.same (s1.trans s2)
      refine ⟨rfl, _, rfl, B.sv, B.svx, _, rfl, I2.ob, lk_none sK _ (by decide +kernel), _, rfl, ?_⟩
      refine ⟨A, B, st, n, rfl, I2, PI, srcs_mem (List.mem_of_getElem? hn), fun H3 s3 => ⟨_, rfl, ?_⟩⟩
      have fl : (((srcs st).take i).filter (affB st)).length ≤ 61 := by
        refine Nat.le_trans (List.length_filter_le _ _) ?_
        rw [List.length_take]; omega
      have tk := take_snoc hn
      cases c : affB st n
      · refine iteF ⟨s2.trans s3, (s3 _ _ d2).trans ?_⟩
        rw [tk, List.filter_append]
        simp [c]
      · refine iteT ⟨_, rfl, _, s3 _ _ d2, by rw [List.length_map]; exact small1000 (by omega), fun b o e => ?_, ?_⟩
        · rw [upd_ne (ne_of_none e hD)]; exact s3 _ _ (s2 _ _ e)
        · rw [upd_same, tk, List.filter_append]
          simp [c]
    · rintro H2 ⟨s2, d2⟩
      rw [List.length_map, List.take_length] at d2
      exact k _ D (s1.trans s2) (s1.free hD) d2
/-! ### Surveys.follow -/
def spFollow (CG CL CS : Addr) : Sp := fun vs H Q _ => ∃ (A : Gr) (B : Su) (st : St0) (s : Nat), vs = [.ref B.sv, .int (s : Int)] ∧ SInv CG CL CS H A B st ∧ Wf st ∧ (s = 0 ∨ ∃ e ∈ st.entries, e.number = s) ∧ ∀ H' d, Same H H' → H d = none → IsReach H' d (reachNow st s) → Q (.ref d) H'
theorem scFollow : FnScope ["self", "source"] ["self", "source"] (defScope (sm 4)) := ⟨rfl, rfl, rfl, by decide +kernel, rfl, by decide +kernel, by decide +kernel⟩
theorem ok_follow {f : Addr} {fd : FuncData} (F : Fun K "follow" "Surveys.follow" (sm 4) f fd) (T : Txt K mg CG CL CS) (mL : Metd P w K mg base CG 1 "led_to" ["self", "values"] (spLed CG K)) : FnOk P w K mg base CX0 2 f fd ["self", "source"] (spFollow CG CL CS) := by
  obtain ⟨fL, fdL, gL, meL, bL⟩ := mL
  refine F.ok scFollow (fun vs H Q E h => ?_) (fun cdv A0 outer s H vs Q E hr h => ?_)
  · obtain ⟨A, B, st, n, rfl, _⟩ := h
    rfl
  · obtain ⟨A, B, st, n, rfl, I, W, hsrc, k⟩ := h
    refine ⟨_, pss_cons (ps_if (pt_cmpR op_eq (pv 1) (pe_num T.nS) (nomark _)) (pss_one (ps_ret (pe_meth (pe_fld (pv 0) rfl) T.cG meL gL hr bL .nil pass0 (pa_cons (pe_fld (pe_fld (pv 0) rfl) rfl) pa_nil)))) pss_nil)
      (pss_one (ps_ret (pe_meth (pe_fld (pv 0) rfl) T.cG meL gL hr bL .nil pass0 (pa_cons (pe_lst (pa_cons (pe_tup (pa_cons (pe_num T.nO) (pa_cons (pv 1) pa_nil))) pa_nil)) pa_nil)))), ?_⟩
    have ok := srcV_ok W hsrc
    have er := reachNow_of (st := st) n
    obtain ⟨g1, g2, g3, g4⟩ := sF_get I T 0 kS_graph rfl
    obtain ⟨xs, hxs, rs⟩ := I.g.slots
    refine ⟨_, rfl, rfl, _, rfl, ?_⟩
    rw [dec_int]
    by_cases c : n = 0
    · have ev : srcV st n = st.slots := by unfold srcV; rw [if_pos c]
      rw [decide_eq_true (by omega)]
      refine iteT ⟨_, rfl, B.sv, CS, B.svx, _, _, rfl, g1, g2, g3, g4, A.g, A.gx, _, rfl, I.g.ob, lk_none gK _ (by decide +kernel), _, rfl, B.sv, CS, B.svx, _, _, rfl, g1, g2, g3, g4, A.g, CG, A.gx, _, _, rfl, I.g.ob, T.cG, T.aG _ (ixG _ kG_slots), gk_get A _ _ _ kG_slots rfl, ?_⟩
      refine ⟨A, st, A.sl, xs, st.slots, rfl, I.g, W, SqL.of hxs, rs, W.sok, by rw [W.six]; omega, fun H' d R s1 hd hR hn hm => ?_⟩
      refine k H' d s1 hd ?_
      rw [er, ev]
      exact isReach_of W W.sok hR hn hm
    · have ev : srcV st n = [.object n] := by unfold srcV; rw [if_neg c]
      rw [decide_eq_false (by omega)]
      refine iteF ⟨_, rfl, B.sv, CS, B.svx, _, _, rfl, g1, g2, g3, g4, A.g, A.gx, _, rfl, I.g.ob, lk_none gK _ (by decide +kernel), _, rfl, (by show 2 ≤ sizeLine; decide), fun t ht => ⟨(by show 1 ≤ sizeLine; decide), fun l hl => ?_⟩⟩
      obtain ⟨lt, hl0⟩ := upd_free hl
      have s0 : Same H (upd (upd H t (.tup [.int 1, .int (n : Int)])) l (.lst [.ref t])) := (Same.fresh ht).trans (Same.fresh hl)
      refine ⟨A, st, l, [.ref t], [.object n], rfl, I.g.same s0, W, SqL.of upd_same, .cons ⟨t, rfl, by rw [upd_ne lt.symm]; exact upd_same⟩ .nil, by rw [ev] at ok; exact ok, by simp, fun H' d R s1 hd hR hn hm => ?_⟩
      refine k H' d (s0.trans s1) (s0.free hd) ?_
      rw [er, ev]
      rw [ev] at ok
      exact isReach_of W ok hR hn hm
/-! ### Surveys.all_reached -/
def RK (H : Hp) (kvs : List (L2.Key × V)) (st : St0) : Prop := kvs.length ≤ 61 ∧ ∀ s ∈ srcs st, ∃ d, valV kvs (nkey s) = some (.ref d) ∧ IsReach H d (reachNow st s)
theorem RK.keep {H H' : Hp} {kvs : List (L2.Key × V)} {st : St0} (h : RK H kvs st) (s : Same H H') : RK H' kvs st := ⟨h.1, fun n hn => by
  obtain ⟨d, e, q⟩ := h.2 n hn
  exact ⟨d, e, q.keep s⟩⟩
theorem RK.of_off {F : List Addr} {H : Hp} {kvs : List (L2.Key × V)} {st : St0} (h : RK (off F H) kvs st) : RK H kvs st := h.keep fun b o e => (off_some.mp e).2
def spAllR (CG CL CS : Addr) : Sp := fun vs H Q _ => ∃ (A : Gr) (B : Su) (st : St0), vs = [.ref B.sv] ∧ SInv CG CL CS H A B st ∧ PInv st ∧ ∀ H' d kvs, Same H H' → H d = none → H' d = some (.dK kvs) → RK (off (feet A B st) H') kvs st → Q (.ref d) H'
theorem scAllR : FnScope ["self", "reached", "source"] ["self"] (defScope (sm 5)) := ⟨rfl, rfl, rfl, by decide +kernel, rfl, by decide +kernel, by decide +kernel⟩
theorem ok_allR {f : Addr} {fd : FuncData} (F : Fun K "all_reached" "Surveys.all_reached" (sm 5) f fd) (T : Txt K mg CG CL CS) (mS : Metd P w K mg base CS 2 "all_sources" ["self"] (spSrcs CG CL CS)) (mA : Metd P w K mg base CS 1 "is_affected" ["self", "source"] (spAff CG CL CS)) (mF : Metd P w K mg base CS 2 "follow" ["self", "source"] (spFollow CG CL CS)) : FnOk P w K mg base CX0 3 f fd ["self"] (spAllR CG CL CS) := by
  obtain ⟨fS, fdS, gS, meS, bS⟩ := mS
  obtain ⟨fA, fdA, gA, meA, bA⟩ := mA
  obtain ⟨fF, fdF, gF, meF, bF⟩ := mF
  refine F.ok scAllR (fun vs H Q E h => ?_) (fun cdv A0 outer s H vs Q E hr h => ?_)
  · obtain ⟨A, B, st, rfl, _⟩ := h
    rfl
  · obtain ⟨A, B, st, rfl, I, PI, k⟩ := h
    have hr1 : Room 1 _ := hr.mono (by decide)
    have hu := hu_of hr
    refine ⟨_, pss_cons (ps_set (i := 1) scAllR.nd rfl (.inl rfl) pe_dnewK) (pss_cons (ps_for PassesOwn.never rfl (pi_list (pe_meth0 (pv 0) T.cS meS gS hr bS .nil pass0)) (pg_name (i := 2) scAllR.nd rfl (Or.inl rfl))
        (pss_one (ps_if (pt_val (pe_meth (pv 0) T.cS meA gA hr1 bA .nil pass0 (pa_cons (pv 2) pa_nil)))
          (pss_one (ps_dput hu (pv 1) (pv 2) (pe_meth (pv 0) T.cS meF gF hr bF .nil pass0 (pa_cons (pv 2) pa_nil)) rfl))
          (pss_one (ps_dput hu (pv 1) (pv 2) (pe_dget hu (pe_fld (pv 0) rfl) (pv 2) (fun _ _ => rfl)) rfl)))))
      (pss_one (ps_ret (pv 1)))), ?_⟩
    intro d hd
    have s0 : Same H (upd H d (.dK [])) := Same.fresh hd
    refine ⟨_, rfl, B.sv, B.svx, _, rfl, (I.same s0).ob, lk_none sK _ (by decide +kernel), ?_⟩
    refine ⟨A, B, st, rfl, I.same s0, PI.w, fun H1 p s1 hp hp1 => ?_⟩
    have d1 : H1 d = some (.dK []) := s1 _ _ upd_same
    refine ⟨p, rfl, ⟨_, SqL.of hp1⟩, for_list (K := K) (a := p) (xs := intsV (srcs st)) (fun i σ H' => ∃ (v : Option V) (kvs : List (L2.Key × V)), σ = [some (.ref B.sv), some (.ref d), v] ∧ (∀ b o, H1 b = some o → b ≠ d → H' b = some o) ∧ H' d = some (.dK kvs) ∧ kvs.length ≤ i ∧
        ∀ s ∈ (srcs st).take i, ∃ e, valV kvs (nkey s) = some (.ref e) ∧ IsReach (off (feet A B st) H') e (reachNow st s))
      ⟨none, [], rfl, fun _ _ e _ => e, d1, Nat.le_refl _, fun s hs => nomatch hs⟩ (fun i σ H' _ ⟨_, _, _, q, d2, _⟩ => SqL.of (q _ _ hp1 (ne_of hp1 d1 (by intro z; cases z)))) ?_ ?_⟩
    · rintro i x σ H' hx ⟨v, kvs, rfl, q, d2, hlen, hall⟩
      obtain ⟨n, hn, rfl⟩ := get_map hx
      have sH : Same H H' := fun b o e => q b o (s1 _ _ (s0 _ _ e)) (ne_of_none e hd)
      have I2 := I.same sH
      have nsrc := srcs_mem (List.mem_of_getElem? hn)
      have few := srcs_len PI.w
      have ilt : i < (srcs st).length := (List.getElem?_eq_some_iff.mp hn).1
      have kfew : kvs.length < sizeLine := small1000 (by omega)
      have tk := take_snoc hn
      -- what is put at n is right
      have fin : ∀ (H3 : Hp) (e : Addr), Same H' H3 → IsReach (off (feet A B st) H3) e (reachNow st n) → ∃ (v : Option V) (kvs' : List (L2.Key × V)), ([some (.ref B.sv), some (.ref d), some (.int (n : Int))] : L2.St) = [some (.ref B.sv), some (.ref d), v] ∧ (∀ b o, H1 b = some o → b ≠ d → upd H3 d (.dK (putK kvs (nkey n) (.ref e))) b = some o) ∧ upd H3 d (.dK (putK kvs (nkey n) (.ref e))) d = some (.dK kvs') ∧ kvs'.length ≤ i + 1 ∧
          ∀ s ∈ (srcs st).take (i + 1), ∃ e', valV kvs' (nkey s) = some (.ref e') ∧ IsReach (off (feet A B st) (upd H3 d (.dK (putK kvs (nkey n) (.ref e)))) ) e' (reachNow st s) := by
        intro H3 e s3 hR
        have d3 := s3 _ _ d2
        have keep : ∀ {e' R}, IsReach (off (feet A B st) H3) e' R → IsReach (off (feet A B st) (upd H3 d (.dK (putK kvs (nkey n) (.ref e))))) e' R := by
          rintro e' R ⟨L, h1, h2⟩
          obtain ⟨ef, h1⟩ := off_some.mp h1
          exact ⟨L, off_some.mpr ⟨ef, by rw [upd_ne (fun z => by rw [z, d3] at h1; cases h1)]; exact h1⟩, h2⟩
        refine ⟨_, _, rfl, fun b o eb nb => by rw [upd_ne nb]; exact s3 _ _ (q b o eb nb), upd_same, by have := length_putK kvs (nkey n) (V.ref e); omega, fun s hs => ?_⟩
        rw [valV_put]
        by_cases es : s = n
        · rw [es, if_pos rfl]
          exact ⟨e, rfl, keep hR⟩
        · rw [if_neg (fun z => es (by injection z with z; omega))]
          rw [tk, List.mem_append, List.mem_singleton] at hs
          obtain ⟨e', h1, h2⟩ := hall s (hs.resolve_right es)
          exact ⟨e', h1, keep (h2.keep (Fr.offs s3))⟩
      refine ⟨_, rfl, B.sv, B.svx, _, rfl, I2.ob, lk_none sK _ (by decide +kernel), _, rfl, ?_⟩
      refine ⟨A, B, st, n, rfl, I2, PI, nsrc, fun H3 s3 => ⟨_, rfl, ?_⟩⟩
      have I3 := I2.same s3
      cases c : affB st n
      · refine iteF ?_
        have c0 : st.surveys ≠ [] := fun z => by rw [aff_zero PI z] at c; cases c
        obtain ⟨l1, l2, l3, l4⟩ := sF_get I3 T 2 kS_last rfl
        have hlr := (off_some.mp I3.lr).2
        obtain ⟨L1, L2⟩ := I3.last c0
        have hold : ∃ e, valV B.lk (nkey n) = some (.ref e) ∧ IsReach (off (feet A B st) H3) e (reachNow st n) := by
          by_cases n0 : n = 0
          · have : Vbxlaf.areSlotsAffected st = false := by
              rw [← c]; unfold affB; rw [if_pos n0]
            obtain ⟨e, e1, e2⟩ := L1
            refine ⟨e, by rw [n0]; exact e1, ?_⟩
            have er : reachNow st n = st.recordedSlots := by unfold reachNow; rw [if_pos n0, PI.c1 this]
            rw [er]; exact e2
          · obtain ⟨e, he, en⟩ := nsrc.resolve_left n0
            have : Vbxlaf.isAffected st e.number = false := by
              rw [← c, en]; unfold affB; rw [if_neg n0]
            have hrec := PI.c2 e he this
            rw [en] at hrec
            unfold Vbxlaf.recordedReach at hrec
            obtain ⟨p, hp, ep⟩ := Option.map_eq_some_iff.mp hrec
            have p0 := List.find?_some hp
            have p1 : p.1 = n := eq_of_beq p0
            obtain ⟨d', e1, e2⟩ := L2 p (List.mem_of_find?_eq_some hp)
            refine ⟨d', by rw [← p1]; exact e1, ?_⟩
            have er : reachNow st n = p.2 := by unfold reachNow; rw [if_neg n0, ep]
            rw [er]; exact e2
        obtain ⟨e, e1, e2⟩ := hold
        refine ⟨_, rfl, B.sv, CS, B.svx, _, _, rfl, l1, l2, l3, l4, _, rfl, B.lr, _, rfl, (by rw [← e1]; exact DGet.k (k := nkey n) hlr), ?_⟩
        refine ⟨_, rfl, _, rfl, d, _, rfl, DPut.k (k := nkey n) (s3 _ _ d2) kfew, fin H3 e s3 e2⟩
      · refine iteT ⟨_, rfl, B.sv, B.svx, _, rfl, I3.ob, lk_none sK _ (by decide +kernel), _, rfl, ?_⟩
        refine ⟨A, B, st, n, rfl, I3, PI.w, nsrc, fun H4 e s4 he hR => ?_⟩
        have s34 := s3.trans s4
        refine ⟨_, rfl, _, rfl, d, _, rfl, DPut.k (k := nkey n) (s34 _ _ d2) kfew, fin H4 e s34 ?_⟩
        obtain ⟨L, h1, h2⟩ := hR
        exact ⟨L, off_some.mpr ⟨I3.new he, h1⟩, h2⟩
    · rintro σ H' ⟨v, kvs, rfl, q, d2, hlen, hall⟩
      rw [show (intsV (srcs st)).length = (srcs st).length from List.length_map _] at hlen
      rw [show (intsV (srcs st)).length = (srcs st).length from List.length_map _, List.take_length] at hall
      refine ⟨_, rfl, k _ d kvs (fun b o e => q b o (s1 _ _ (s0 _ _ e)) (ne_of_none e hd)) hd d2 ⟨Nat.le_trans hlen (srcs_len PI.w), hall⟩⟩
end
end Sv
namespace Sv
open PySem PySem.Spec PyProof.Rows L2
/-! ## counting what is looked at -/
theorem reach_few {st : St0} (W : Wf st) {s : Nat} (hs : s ∈ srcs st) {L : List Val} (hn : L.Nodup) (ho : ∀ n, Vbxlaf.Value.object n ∈ L ↔ n ∈ (reachNow st s).objects) (hf : ∀ n, Vbxlaf.Value.foreign n ∈ L ↔ n ∈ (reachNow st s).foreigns) (h0 : Vbxlaf.Value.nothing ∉ L) : L.length ≤ 60 := by
  have ok := srcV_ok W (srcs_mem hs)
  rw [reachNow_of] at ho hf
  refine led_few W ok hn fun v hv => ?_
  cases v with
  | nothing => exact absurd hv h0
  | object n => exact (Sl.reach_objects W.closed fun v hv => (ok v hv).ok).mp ((ho n).mp hv)
  | foreign n => exact (Sl.reach_foreigns W.closed fun v hv => (ok v hv).ok).mp ((hf n).mp hv)
theorem count_is {L : List Val} {os : List Nat} (hn : L.Nodup) (hos : Sl.Inc os) (ho : ∀ n, Vbxlaf.Value.object n ∈ L ↔ n ∈ os) : (L.filter isO).length = os.length := by
  have h := Sl.len_eq_of_same (l := L.filter isO) (U := os.map Vbxlaf.Value.object) (hn.sublist List.filter_sublist) (List.pairwise_map.mpr (hos.nodup.imp fun {a b} q e => q (by cases e; rfl))) fun v => by
    rw [List.mem_filter, List.mem_map]
    cases v with
    | nothing => exact ⟨(fun z => by cases z.2), (fun ⟨m, _, e⟩ => by cases e)⟩
    | foreign n => exact ⟨(fun z => by cases z.2), (fun ⟨m, _, e⟩ => by cases e)⟩
    | object n => exact ⟨fun z => ⟨n, (ho n).mp z.1, rfl⟩, fun ⟨m, hm, e⟩ => ⟨by cases e; exact (ho n).mpr hm, rfl⟩⟩
  rw [h, List.length_map]
def looks (st : St0) (s : Nat) : Int := (((reachNow st s).objects.length : Nat) : Int)
theorem foldl_add : ∀ (l : List Nat) (a : Nat), ((l.foldl (fun a b => a + b) a : Nat) : Int) = (a : Int) + (l.map fun (n : Nat) => (n : Int)).sum
  | [], a => by simp
  | b :: l, a => by
    rw [List.foldl_cons, foldl_add l (a + b), List.map_cons, List.sum_cons]; omega
theorem looked_is {st : St0} (W : Wf st) : (((srcs st).filter (affB st)).map (looks st)).sum = (Vbxlaf.lookedAt st : Int) := by
  have e1 : ∀ l : List Vbxlaf.Named, (∀ e ∈ l, e ∈ st.entries) → ((l.map fun e => e.number).filter (affB st)).map (looks st) = ((l.filter fun e => Vbxlaf.isAffected st e.number).map fun e => (Vbxlaf.entryReach st e.number).objects.length).map fun (n : Nat) => (n : Int) := by
    intro l
    induction l with
    | nil => intro _; rfl
    | cons a l ih =>
      intro h
      have a0 := entry_pos W (h a List.mem_cons_self)
      have ih := ih fun e he => h e (List.mem_cons_of_mem _ he)
      have ea : affB st a.number = Vbxlaf.isAffected st a.number := by unfold affB; rw [if_neg a0]
      rw [List.map_cons, List.filter_cons, List.filter_cons, ea]
      cases c : Vbxlaf.isAffected st a.number
      · rw [if_neg (by simp), if_neg (by simp)]; exact ih
      · rw [if_pos rfl, if_pos rfl, List.map_cons, List.map_cons, List.map_cons, ih]
        have : looks st a.number = (((Vbxlaf.entryReach st a.number).objects.length : Nat) : Int) := by unfold looks reachNow; rw [if_neg a0]
        rw [this]
  have e0 : affB st 0 = Vbxlaf.areSlotsAffected st := by unfold affB; rw [if_pos rfl]
  have e2 : looks st 0 = (((Vbxlaf.slotsReach st).objects.length : Nat) : Int) := by unfold looks reachNow; rw [if_pos rfl]
  unfold srcs Vbxlaf.lookedAt
  have e3 := foldl_add ((st.entries.filter fun e => Vbxlaf.isAffected st e.number).map fun e => (Vbxlaf.entryReach st e.number).objects.length) 0
  rw [List.filter_cons, e0]
  cases c : Vbxlaf.areSlotsAffected st
  · rw [if_neg (by simp), if_neg (by simp), e1 _ fun e h => h]
    omega
  · rw [if_pos rfl, if_pos rfl, List.map_cons, List.sum_cons, e1 _ fun e h => h, e2]
    omega

section
variable {P : Program} {w : World} {K : PySem.W.Frag} {mg : Str → Option Value} {base : Heap} {CG CL CS : Addr}
/-! ### Surveys.work_of -/
def spWork (CG CL CS : Addr) : Sp := fun vs H Q _ => ∃ (A : Gr) (B : Su) (st : St0) (d : Addr) (kvs : List (L2.Key × V)), vs = [.ref B.sv, .ref d] ∧ SInv CG CL CS H A B st ∧ PInv st ∧ H d = some (.dK kvs) ∧ RK H kvs st ∧ ∀ H', Same H H' → Q (.int (Vbxlaf.lookedAt st : Nat)) H'
theorem scWork : FnScope ["self", "reached", "source"] ["self", "reached"] (defScope (sm 6)) := ⟨rfl, rfl, rfl, by decide +kernel, rfl, by decide +kernel, by decide +kernel⟩
theorem ok_work {f : Addr} {fd : FuncData} (F : Fun K "work_of" "Surveys.work_of" (sm 6) f fd) (T : Txt K mg CG CL CS) (mA : Metd P w K mg base CS 3 "affected_sources" ["self"] (spAffs CG CL CS)) (cC : Callee P w K mg base 1 "count_objects" ["values"] spCount) : FnOk P w K mg base CX0 4 f fd ["self", "reached"] (spWork CG CL CS) := by
  obtain ⟨fA, fdA, gA, meA, bA⟩ := mA
  obtain ⟨fC, fdC, gC, mgC, kpC, bC⟩ := cC
  refine F.ok scWork (fun vs H Q E h => ?_) (fun cdv A0 outer s H vs Q E hr h => ?_)
  · obtain ⟨A, B, st, d, kvs, rfl, _⟩ := h
    rfl
  · obtain ⟨A, B, st, d, kvs, rfl, I, PI, hd, hR, k⟩ := h
    have hr1 : Room 1 _ := hr.mono (by decide)
    have hu := hu_of hr
    refine ⟨_, pss_one (ps_ret (pe_callB (cr_sum rfl) (by rfl) T.bSum (by decide +kernel) (pa_cons (pe_lc (own := [("source", 2)]) (te := tCall spCount [] E0 (tCons (tDGet (tVar 1) (tVar 2)) tNil)) rfl scWork.nd (pi_list (pe_meth0 (pv 0) T.cS meA gA hr bA .nil pass0)) (blkOk_by (N := ["self", "reached", "source"]) (sc := defScope (sm 6)) (by decide +kernel))
      (fun _ _ _ _ _ => pg_name (i := 2) scWork.nd rfl (Or.inl rfl)) (fun _ _ _ _ _ => pts_nil) (fun _ _ _ _ _ => pe_call gC hr1 rfl mgC kpC bC .nil pass0 (pa_cons (pe_dget hu (pv 1) (pv 2) (fun _ _ => rfl)) pa_nil))) pa_nil))), ?_⟩
    refine ⟨_, rfl, B.sv, B.svx, _, rfl, I.ob, lk_none sK _ (by decide +kernel), ?_⟩
    refine ⟨A, B, st, rfl, I, PI, fun H1 p s1 hp hp1 => ?_⟩
    refine ⟨p, rfl, ⟨_, SqL.of hp1⟩, fun D hD => ?_⟩
    have few : ((srcs st).filter (affB st)).length ≤ 61 := Nat.le_trans (List.length_filter_le _ _) (srcs_len PI.w)
    refine lc_list (K := K) (a := p) (xs := intsV ((srcs st).filter (affB st))) (fun i H' => Same H1 H' ∧ H' D = some (.lst (((((srcs st).filter (affB st)).take i).map (looks st)).map V.int))) ⟨Same.fresh hD, upd_same⟩ (fun i H' _ q => q.1.seq (SqL.of hp1)) ?_ ?_
    · rintro i x H' hx ⟨s2, d2⟩
      obtain ⟨n, hn, rfl⟩ := get_map hx
      have ilt : i < ((srcs st).filter (affB st)).length := (List.getElem?_eq_some_iff.mp hn).1
      have nin : n ∈ srcs st := (List.mem_filter.mp (List.mem_of_getElem? hn)).1
      obtain ⟨e, e1, L, e2, Ln, Lo, Lf, L0⟩ := hR.2 n nin
      have hd' := s2 _ _ (s1 _ _ hd)
      have he' := s2 _ _ (s1 _ _ e2)
      have c := count_is Ln (by rw [reachNow_of]; exact Sl.reach_inc.1) Lo
      refine ⟨rfl, _, rfl, _, rfl, d, _, rfl, (by rw [← e1]; exact DGet.k (k := nkey n) hd'), e, L, rfl, he', Nat.le_trans (reach_few PI.w nin Ln Lo Lf L0) (by decide), fun H3 s3 => ?_⟩
      refine ⟨_, s3 _ _ d2, by rw [List.length_map, List.length_map, List.length_take]; exact small1000 (by omega), fun b o eb => ?_, ?_⟩
      · rw [upd_ne (ne_of_none eb hD)]; exact s3 _ _ (s2 _ _ eb)
      · rw [upd_same, take_snoc hn, List.map_append, List.map_append, c]; rfl
    · rintro H2 ⟨s2, d2⟩
      rw [show (intsV ((srcs st).filter (affB st))).length = ((srcs st).filter (affB st)).length from List.length_map _, List.take_length] at d2
      refine ⟨D, _, rfl, SqL.of d2, ?_⟩
      rw [looked_is PI.w]
      exact k _ (s1.trans s2)
end
end Sv
namespace Sv
open PySem PySem.Spec PyProof.Rows L2
/-! ## the lines, one by one -/
theorem nm_is (st : St0) : Sl.nmOf st = (Vbxlaf.surveyedNames st).map fun n => (np n.1, (n.2 : Int)) := by
  unfold Sl.nmOf Sl.enm Sl.inm Vbxlaf.surveyedNames
  rw [List.map_append, List.map_map, List.map_map]; rfl
theorem name_kind {st : St0} {n : Vbxlaf.Name × Nat} (h : n ∈ Vbxlaf.surveyedNames st) : n.1.kind = 1 ∨ n.1.kind = 2 := by
  rcases List.mem_append.mp h with q | q
  · obtain ⟨e, _, rfl⟩ := List.mem_map.mp q
    exact .inl rfl
  · obtain ⟨e, _, rfl⟩ := List.mem_map.mp q
    exact .inr rfl
theorem leads_is {L : List Val} {R : Vbxlaf.Reach} (Lo : ∀ n, Vbxlaf.Value.object n ∈ L ↔ n ∈ R.objects) (Lf : ∀ n, Vbxlaf.Value.foreign n ∈ L ↔ n ∈ R.foreigns) {nm : Vbxlaf.Name} (h : nm.kind = 1 ∨ nm.kind = 2) : (if np nm ∈ L.map vp then some (V.bl true) else none).isSome = Vbxlaf.leadsTo R nm := by
  obtain ⟨kd, n⟩ := nm
  have e : decide (np ⟨kd, n⟩ ∈ L.map vp) = Vbxlaf.leadsTo R ⟨kd, n⟩ := by
    unfold Vbxlaf.leadsTo
    rcases h with rfl | rfl
    · rw [if_pos rfl, Bool.eq_iff_iff, decide_eq_true_eq, List.contains_iff_mem, ← Lo]
      exact vp_mem (v := .object n)
    · rw [if_neg (show ¬ (2 : Nat) = 1 by decide), Bool.eq_iff_iff, decide_eq_true_eq, List.contains_iff_mem, ← Lf]
      exact vp_mem (v := .foreign n)
  rw [← e]
  by_cases c : np ⟨kd, n⟩ ∈ L.map vp
  · rw [if_pos c, decide_eq_true c]; rfl
  · rw [if_neg c, decide_eq_false c]; rfl
def otherThan (l : List Vbxlaf.Named) (nm : Vbxlaf.Name) : List Nat := (l.filter fun e => !decide (one e.number = np nm)).map fun e => e.number
theorem one_np {m : Nat} {nm : Vbxlaf.Name} : one m = np nm ↔ nm.kind = 1 ∧ nm.number = m := by
  unfold np
  constructor
  · intro e
    have e1 : (1 : Int) = (nm.kind : Int) := congrArg Prod.fst e
    have e2 : (m : Int) = (nm.number : Int) := congrArg Prod.snd e
    omega
  · rintro ⟨e1, e2⟩
    rw [e1, e2]; rfl
theorem sources_is {f : Nat → Vbxlaf.Reach} {nm : Vbxlaf.Name} : ∀ l : List Vbxlaf.Named, ((l.map fun e => (e.number, f e.number)).filter fun entry => (nm.kind != 1 || nm.number != entry.1) && Vbxlaf.leadsTo entry.2 nm).map (fun entry => entry.1) = (otherThan l nm).filter fun n => Vbxlaf.leadsTo (f n) nm
  | [] => rfl
  | e :: l => by
    have ih := sources_is (f := f) (nm := nm) l
    unfold otherThan at ih ⊢
    rw [List.map_cons, List.filter_cons, List.filter_cons]
    by_cases c : one e.number = np nm
    · obtain ⟨c1, c2⟩ := one_np.mp c
      rw [decide_eq_true c]
      simp only [c1, c2, bne_self_eq_false, Bool.or_self, Bool.false_and, Bool.not_true, Bool.false_eq_true, if_false]
      rw [c1, c2] at ih
      simpa using ih
    · have c' : (nm.kind != 1 || nm.number != e.number) = true := by
        rw [Bool.or_eq_true, bne_iff_ne, bne_iff_ne]
        by_cases k : nm.kind = 1
        · exact .inr fun z => c (one_np.mpr ⟨k, z⟩)
        · exact .inl k
      rw [decide_eq_false c]
      simp only [c', Bool.true_and, Bool.not_false, if_true, List.map_cons, List.filter_cons]
      cases Vbxlaf.leadsTo (f e.number) nm
      · simpa using ih
      · simpa using ih
def lineAt (st : St0) (n : Vbxlaf.Name × Nat) : Vbxlaf.Line := Vbxlaf.lineOf (Vbxlaf.slotsReach st) (st.entries.map fun e => (e.number, Vbxlaf.entryReach st e.number)) n
theorem scratch_is (st : St0) : Vbxlaf.scratchLines st = (Vbxlaf.surveyedNames st).map (lineAt st) := rfl
theorem put_last {kvs : List (List L2.Key × V)} {k : List L2.Key} {v : V} (h : k ∉ kvs.map (·.1)) : putK kvs k v = kvs ++ [(k, v)] := by
  unfold putK
  have : ¬ (kvs.any fun kv => decide (kv.1 = k)) = true := fun z => by
    obtain ⟨kv, hkv, e⟩ := List.any_eq_true.mp z
    exact h (List.mem_map.mpr ⟨kv, hkv, of_decide_eq_true e⟩)
  rw [if_neg this]
theorem keys_lines {CL : Addr} {H : Hp} : ∀ {kvs : List (List L2.Key × V)} {ls : List Vbxlaf.Line}, Paired (LineAt CL H) kvs ls → kvs.map (·.1) = ls.map fun l => pk (np l.name)
  | _, _, .nil => rfl
  | _, _, .cons r t => by rw [List.map_cons, List.map_cons, keys_lines t, r.1]
theorem ints_snoc (l : List Nat) (n : Nat) : intsV (l ++ [n]) = intsV l ++ [V.int (n : Int)] := List.map_append
theorem LineAt.keepT {CL : Addr} {H H' : Hp} {kv : List L2.Key × V} {l : Vbxlaf.Line} (h : LineAt CL H kv l) (s : ∀ b o, H b = some o → (∀ z, o ≠ .dT z) → H' b = some o) : LineAt CL H' kv l := by
  obtain ⟨e, la, dx, sa, e1, h1, h2⟩ := h
  exact ⟨e, la, dx, sa, e1, s _ _ h1 (by intro z q; cases q), s _ _ h2 (by intro z q; cases q)⟩
theorem two_vals {b : Bool} {σ : L2.St} {H : Hp} {k : VK} (h : k (.int ((Vbxlaf.flag b : Nat) : Int)) H) : if b = true then tC (.int 1) σ H k else tC (.int 0) σ H k := by cases b; exact iteF h; exact iteT h
section
variable (P : Program) (w : World) (K : PySem.W.Frag) (mg : Str → Option Value) (base : Heap)
/-- __init__ of the class at C keeps the promise sp -/
def Made (C : Addr) (k : Nat) (ps : List Str) (sp : Sp) : Prop := ∃ f fd, FnOk P w K mg base CX0 k f fd ps sp ∧ Mk K C f ∧ Binds K fd ps []
end
section
variable {P : Program} {w : World} {K : PySem.W.Frag} {mg : Str → Option Value} {base : Heap} {CG CL CS : Addr}
/-! ### Surveys.lines_from -/
def spLF (CG CL CS : Addr) : Sp := fun vs H Q _ => ∃ (A : Gr) (B : Su) (st : St0) (d : Addr) (kvs : List (L2.Key × V)), vs = [.ref B.sv, .ref d] ∧ SInv CG CL CS H A B st ∧ Wf st ∧ H d = some (.dK kvs) ∧ RK H kvs st ∧
  ∀ H' p, Same H H' → H p = none → SvAt CL (off (feet A B st) H') (.ref p) (Vbxlaf.scratchLines st) → Q (.ref p) H'
theorem scLF : FnScope ["self", "reached", "entries", "lines", "name", "rooted", "others", "sources", "entry", "source"] ["self", "reached"] (defScope (sm 8)) := ⟨rfl, rfl, rfl, by decide +kernel, rfl, by decide +kernel, by decide +kernel⟩
theorem ok_LF {f : Addr} {fd : FuncData} (F : Fun K "lines_from" "Surveys.lines_from" (sm 8) f fd) (T : Txt K mg CG CL CS) (mE : Metd P w K mg base CG 1 "entries" ["self"] (spNames CG 1 entV)) (mL : Made P w K mg base CL 1 ["self", "stamp", "rooted", "sources"] (spLine CL)) : FnOk P w K mg base CX0 3 f fd ["self", "reached"] (spLF CG CL CS) := by
  obtain ⟨fE, fdE, gE, meE, bE⟩ := mE
  obtain ⟨fL, fdL, gL, mkL, bL⟩ := mL
  refine F.ok scLF (fun vs H Q E h => ?_) (fun cdv A0 outer s H vs Q E hr h => ?_)
  · obtain ⟨A, B, st, d, kvs, rfl, _⟩ := h
    rfl
  · obtain ⟨A, B, st, d, kvs, rfl, I, W, hd, hR, k⟩ := h
    have hr1 : Room 1 _ := hr.mono (by decide)
    have hu := hu_of hr
    refine ⟨_, pss_cons (ps_set (i := 2) scLF.nd rfl (.inl rfl) (pe_meth0 (pe_fld (pv 0) rfl) T.cG meE gE hr1 bE .nil pass0))
      (pss_cons (ps_set (i := 3) scLF.nd rfl (.inl rfl) pe_dnewT)
      (pss_cons (ps_for PassesOwn.never rfl (pi_list (pe_callB (cr_sortDT rfl) (by rfl) T.bSorted (by decide +kernel) (pa_cons (pe_fld (pe_fld (pv 0) rfl) rfl) pa_nil))) (pg_name (i := 4) scLF.nd rfl (Or.inr rfl))
        (pss_cons (ps_set (i := 5) scLF.nd rfl (.inl rfl) (pe_ifExp (pt_cmp (pc_din hu (pv 4) (pe_dget hu (pv 1) (pe_num T.nS) (fun _ _ => rfl)))) pe_int pe_int))
        (pss_cons (ps_setLc (i := 6) (own := [("entry", 8)]) (te := tOp (rIxT K) (tVar 8) (tC (.int 1))) (tt := tTest (tOp (rNeD K) (tVar 8) (tVar 4))) rfl scLF.nd rfl rfl (sw_true rfl rfl rfl (by decide +kernel)) (pi_list (pv 2))
          (blkOk_by (N := ["self", "reached", "entries", "lines", "name", "rooted", "others", "sources", "entry", "source"]) (sc := defScope (sm 8)) (by decide +kernel)) (fun _ _ _ _ _ => pg_name (i := 8) scLF.nd rfl (Or.inl rfl)) (fun _ _ _ _ _ => pts_one (pt_cmpR (op_neD hr.units) (pv 8) (pv 4) (nomark _))) (fun _ _ _ _ _ => pe_ix ix_tup (pv 8) pe_int (fun _ _ => rfl)))
        (pss_cons (ps_setLc (i := 7) (own := [("source", 9)]) (te := tVar 9) (tt := tB (tDIn (tVar 4) (tDGet (tVar 1) (tVar 9)))) rfl scLF.nd rfl rfl (sw_true rfl rfl rfl (by decide +kernel)) (pi_list (pv 6))
          (blkOk_by (N := ["self", "reached", "entries", "lines", "name", "rooted", "others", "sources", "entry", "source"]) (sc := defScope (sm 8)) (by decide +kernel)) (fun _ _ _ _ _ => pg_name (i := 9) scLF.nd rfl (Or.inl rfl)) (fun _ _ _ _ _ => pts_one (pt_cmp (pc_din hu (pv 4) (pe_dget hu (pv 1) (pv 9) (fun _ _ => rfl))))) (fun _ _ _ _ _ => pv 9))
        (pss_one (ps_dput hu (pv 3) (pv 4) (pe_make mkL gL hr rfl T.gL bL .nil pass0 (pa_cons (pe_dget hu (pe_fld (pe_fld (pv 0) rfl) rfl) (pv 4) (fun _ _ => rfl)) (pa_cons (pv 5) (pa_cons (pv 7) pa_nil)))) rfl))))))
      (pss_one (ps_ret (pv 3))))), ?_⟩
    obtain ⟨b1, b2, b3, b4⟩ := sF_get I T 0 kS_graph rfl
    refine ⟨_, rfl, B.sv, CS, B.svx, _, _, rfl, b1, b2, b3, b4, A.g, A.gx, _, rfl, I.g.ob, lk_none gK _ (by decide +kernel), ?_⟩
    refine ⟨A, st, rfl, I.g, W.nok, fun H1 en xs s1 hen hen1 rx => ?_⟩
    intro dl hdl
    have s2 : Same H (upd H1 dl (.dT [])) := s1.trans (Same.fresh hdl)
    have I2 := I.same s2
    have e2 : upd H1 dl (.dT []) en = some (.lst xs) := by rw [upd_ne (ne_of_none hen1 hdl)]; exact hen1
    have rx2 := VRs.keep rx (Tups.of_same (Same.fresh (o := .dT []) hdl))
    have dl2 : upd H1 dl (.dT []) dl = some (.dT []) := upd_same
    have dl0 : H dl = none := s1.free hdl
    generalize upd H1 dl (.dT []) = H2 at s2 I2 e2 rx2 dl2 ⊢
    obtain ⟨b1, b2, b3, b4⟩ := sF_get I2 T 0 kS_graph rfl
    refine ⟨_, rfl, B.sv, CS, B.svx, _, _, rfl, b1, b2, b3, b4, A.g, CG, A.gx, _, _, rfl, I2.g.ob, T.cG, T.aG _ (ixG _ kG_stamps), gk_get A _ _ _ kG_stamps rfl, ?_⟩
    dsimp only [tNil]
    refine I2.g.sorted W.nok fun qs p hq he hp => ?_
    refine ⟨p, rfl, ⟨_, SqL.of upd_same⟩, ?_⟩
    have s3 : Same H2 (upd H2 p (.lst (qs.map fun q => V.ref q.1))) := Same.fresh hp
    have p3 : upd H2 p (.lst (qs.map fun q => V.ref q.1)) p = some (.lst (qs.map fun q => V.ref q.1)) := upd_same
    have hq3 : ∀ q ∈ qs, upd H2 p (.lst (qs.map fun q => V.ref q.1)) q.1 = some (.tup [.int q.2.1, .int q.2.2]) := fun q m => s3 _ _ (hq q m)
    generalize upd H2 p (.lst (qs.map fun q => V.ref q.1)) = H3 at s3 p3 hq3 ⊢
    have s03 : Same H H3 := s2.trans s3
    have qlen : qs.length = (Vbxlaf.surveyedNames st).length := by
      have := congrArg List.length he
      rwa [List.length_map, List.length_map, nm_is, List.length_map] at this
    refine for_list (K := K) (a := p) (xs := qs.map fun q => V.ref q.1) (D := { nx := tRet (tVar 3) { nx := fun _ H' => Q .non H', rt := Q }, rt := Q }) (fun i σ H' => ∃ (v4 v5 v6 v7 : Option V) (kl : List (List L2.Key × V)), σ = [some (.ref B.sv), some (.ref d), some (.ref en), some (.ref dl), v4, v5, v6, v7, none, none] ∧ (∀ b o, H3 b = some o → b ≠ dl → H' b = some o) ∧ H' dl = some (.dT kl) ∧
        Paired (LineAt CL (off (feet A B st) H')) kl ((Vbxlaf.scratchLines st).take i))
      ⟨none, none, none, none, [], rfl, fun _ _ e _ => e, s3 _ _ dl2, .nil⟩ (fun i σ H' _ ⟨_, _, _, _, _, _, q, d2, _⟩ => SqL.of (q _ _ p3 (ne_of p3 (s3 _ _ dl2) (by intro z; cases z)))) ?_ ?_
    · rintro i x σ H' hx ⟨v4, v5, v6, v7, kl, rfl, sH, d4, ls⟩
      obtain ⟨q, hqi, rfl⟩ := get_map hx
      have ilt : i < (Vbxlaf.surveyedNames st).length := by rw [← qlen]; exact (List.getElem?_eq_some_iff.mp hqi).1
      let n := (Vbxlaf.surveyedNames st)[i]
      have hn : (Vbxlaf.surveyedNames st)[i]? = some n := List.getElem?_eq_getElem ilt
      have nin : n ∈ Vbxlaf.surveyedNames st := List.getElem_mem ilt
      generalize n = n at hn nin
      have kd := name_kind nin
      have eq2 : q.2 = np n.1 := by
        have h1 : (qs.map (·.2))[i]? = some q.2 := by rw [List.getElem?_map, hqi]; rfl
        rw [he, nm_is, List.map_map, List.getElem?_map, hn] at h1
        exact (Option.some.inj h1).symm
      have est : Sl.stI st (np n.1) = some (n.2 : Int) := by
        refine Sl.gets_of_mem (Sl.nm_nodup W.nok) ?_
        rw [nm_is]
        exact List.mem_map.mpr ⟨n, nin, rfl⟩
      have s3' : Same H H' := fun b o e => sH b o (s03 _ _ e) (ne_of_none e dl0)
      have hb : H' q.1 = some (.tup (pt (np n.1))) := by
        rw [← eq2]
        exact sH _ _ (hq3 q (List.mem_of_getElem? hqi)) (ne_of (hq3 q (List.mem_of_getElem? hqi)) (s3 _ _ dl2) (by intro z; cases z))
      have I4 := I.same s3'
      have en4 : H' en = some (.lst xs) := sH _ _ (s3 _ _ e2) (ne_of (s3 _ _ e2) (s3 _ _ dl2) (by intro z; cases z))
      have rx4 : VRs H' xs (entV st) := VRs.keep rx2 fun b zs e => sH b _ (s3 _ _ e) (ne_of (s3 _ _ e) (s3 _ _ dl2) (by intro z; cases z))
      have hd4 := s3' _ _ hd
      have hR4 := hR.keep s3'
      -- rooted
      obtain ⟨e0, z1, L, z2, Ln, Lo, Lf, L0⟩ := hR4.2 0 List.mem_cons_self
      refine ⟨_, rfl, _, rfl, d, _, rfl, (by rw [← z1]; exact DGet.k (k := nkey 0) hd4), e0, _, rfl, DGet.t (k := pk (np n.1)) z2 hb, ?_⟩
      rw [valV_tkv, leads_is Lo Lf kd]
      have er : reachNow st 0 = Vbxlaf.slotsReach st := by unfold reachNow; rw [if_pos rfl]
      rw [er]
      refine ⟨_, rfl, two_vals ?_⟩
      -- others
      refine ⟨_, rfl, en, rfl, ⟨_, SqL.of en4⟩, fun D hD => ?_⟩
      have lenE : st.entries.length ≤ 60 := by
        have h2 := Sl.nm_few W.nok
        unfold Sl.nmOf Sl.enm at h2
        rw [List.length_append, List.length_map] at h2
        omega
      refine lc_list (K := K) (a := en) (xs := xs) (fun i H5 => Same H' H5 ∧ H5 D = some (.lst (intsV (otherThan (st.entries.take i) n.1)))) ⟨Same.fresh hD, upd_same⟩ (fun i H5 _ q => q.1.seq (SqL.of en4)) ?_ ?_
      · rintro j y H5 hy ⟨s5, d5⟩
        obtain ⟨v, hv, b, rfl, hb2⟩ := paired_get rx4 hy
        obtain ⟨e, he2, rfl⟩ := get_map hv
        have hb5 := s5 _ _ hb2
        have hq5 := s5 _ _ hb
        have jlt : j < st.entries.length := (List.getElem?_eq_some_iff.mp he2).1
        have few : (otherThan (st.entries.take j) n.1).length ≤ 60 := by
          unfold otherThan
          rw [List.length_map]
          refine Nat.le_trans (List.length_filter_le _ _) ?_
          rw [List.length_take]; omega
        have tk : otherThan (st.entries.take (j + 1)) n.1 = otherThan (st.entries.take j) n.1 ++ if one e.number = np n.1 then [] else [e.number] := by
          unfold otherThan
          rw [take_snoc he2, List.filter_append, List.map_append]
          by_cases c : one e.number = np n.1
          · simp [c]
          · simp [c]
        refine ⟨rfl, _, rfl, _, rfl, _, _, PR.dp (p := one e.number) ⟨b, rfl, hb5⟩, PR.dp (p := np n.1) ⟨_, rfl, hq5⟩, shaped_pair _, shaped_pair _, _, rfl, ?_⟩
        rw [eqv_pair]
        by_cases c : one e.number = np n.1
        · rw [decide_eq_true c]
          refine iteF ⟨s5, ?_⟩
          rw [d5, tk, if_pos c, List.append_nil]
        · rw [decide_eq_false c]
          refine iteT ⟨_, rfl, b, _, _, _, rfl, rfl, SqT.of hb5, atI_nat (j := 1) rfl, _, d5, by rw [List.length_map]; exact small1000 (by omega), fun b' o eb => ?_, ?_⟩
          · rw [upd_ne (ne_of_none eb hD)]; exact s5 _ _ eb
          · rw [upd_same, tk, if_neg c, ints_snoc]; rfl
      rintro H5 ⟨s5, d5⟩
      rw [show xs.length = st.entries.length from (by rw [VRs.length rx4]; exact List.length_map _), List.take_length] at d5
      have D0 : H' D = none := hD
      -- sources
      refine ⟨_, rfl, D, rfl, ⟨_, SqL.of d5⟩, fun G hG => ?_⟩
      have oth : ∀ m ∈ otherThan st.entries n.1, m ∈ srcs st := fun m hm => by
        obtain ⟨e, he2, rfl⟩ := List.mem_map.mp hm
        exact List.mem_cons_of_mem _ (List.mem_map.mpr ⟨e, (List.mem_filter.mp he2).1, rfl⟩)
      have olen : (otherThan st.entries n.1).length ≤ 60 := by
        unfold otherThan
        rw [List.length_map]
        exact Nat.le_trans (List.length_filter_le _ _) lenE
      refine lc_list (K := K) (a := D) (xs := intsV (otherThan st.entries n.1)) (fun i H6 => Same H5 H6 ∧ H6 G = some (.lst (intsV (((otherThan st.entries n.1).take i).filter fun m => Vbxlaf.leadsTo (Vbxlaf.entryReach st m) n.1)))) ⟨Same.fresh hG, upd_same⟩ (fun i H6 _ q => q.1.seq (SqL.of d5)) ?_ ?_
      · rintro j y H6 hy ⟨s6, d6⟩
        obtain ⟨m, hm, rfl⟩ := get_map hy
        have msrc := oth m (List.mem_of_getElem? hm)
        have m0 : m ≠ 0 := fun z => by
          obtain ⟨e, he2, em⟩ := List.mem_map.mp (List.mem_of_getElem? hm)
          exact entry_pos W (List.mem_filter.mp he2).1 (em.trans z)
        obtain ⟨em, y1, L', y2, Ln', Lo', Lf', L0'⟩ := (hR4.keep (s5.trans s6)).2 m msrc
        have er' : reachNow st m = Vbxlaf.entryReach st m := by unfold reachNow; rw [if_neg m0]
        refine ⟨rfl, _, rfl, _, rfl, _, rfl, d, _, rfl, (by rw [← y1]; exact DGet.k (k := nkey m) ((s5.trans s6) _ _ hd4)), em, _, rfl, DGet.t (k := pk (np n.1)) y2 ((s5.trans s6) _ _ hb), ?_⟩
        rw [valV_tkv, leads_is Lo' Lf' kd, er']
        have tk := take_snoc hm
        have few : (((otherThan st.entries n.1).take j).filter fun m => Vbxlaf.leadsTo (Vbxlaf.entryReach st m) n.1).length ≤ 60 := by
          refine Nat.le_trans (List.length_filter_le _ _) ?_
          rw [List.length_take]; omega
        refine ⟨_, rfl, ?_⟩
        cases c : Vbxlaf.leadsTo (Vbxlaf.entryReach st m) n.1
        · refine iteF ⟨s6, ?_⟩
          rw [d6, tk, List.filter_append]
          simp [c]
        · refine iteT ⟨_, rfl, _, d6, by rw [List.length_map]; exact small1000 (by omega), fun b' o eb => ?_, ?_⟩
          · rw [upd_ne (ne_of_none eb hG)]; exact s6 _ _ eb
          · rw [upd_same, tk, List.filter_append]
            simp [c]
      rintro H6 ⟨s6, d6⟩
      rw [show (intsV (otherThan st.entries n.1)).length = (otherThan st.entries n.1).length from List.length_map _, List.take_length] at d6
      have s46 := s5.trans s6
      have I6 := I4.same s46
      obtain ⟨b1, b2, b3, b4⟩ := sF_get I6 T 0 kS_graph rfl
      refine ⟨_, rfl, B.sv, CS, B.svx, _, _, rfl, b1, b2, b3, b4, A.g, CG, A.gx, _, _, rfl, I6.g.ob, T.cG, T.aG _ (ixG _ kG_stamps), gk_get A _ _ _ kG_stamps rfl, _, rfl, A.sd, _, rfl, (by
        have := DGet.t (k := pk (np n.1)) I6.g.sd (s46 _ _ hb)
        rw [I6.g.stamp W.nok, est] at this
        exact this), _, rfl, _, rfl, fun la dx hla hdx ne => ?_⟩
      refine ⟨la, dx, _, _, _, rfl, upd_same, fun H7 h7 k7 => ⟨rfl, ?_⟩⟩
      have s67 : Same H6 H7 := fun b o e => k7 b o (by rw [upd_ne (ne_of_none e hla), upd_ne (ne_of_none e hdx)]; exact e) (ne_of_none e hla)
      have s47 := s46.trans s67
      have dl7 := s47 _ _ d4
      have kl1 := Paired.length ls
      have kl2 : kl.length ≤ 60 := by
        rw [kl1, List.length_take, scratch_is, List.length_map]
        have h2 := Sl.nm_few W.nok
        rw [nm_is, List.length_map] at h2
        omega
      have hsl : (Vbxlaf.scratchLines st)[i]? = some (lineAt st n) := by rw [scratch_is, List.getElem?_map, hn]; rfl
      have knew : pk (np n.1) ∉ kl.map (·.1) := by
        rw [keys_lines ls]
        intro m
        obtain ⟨l, hl, e⟩ := List.mem_map.mp m
        have e := pk_inj e
        obtain ⟨j, hj⟩ := List.getElem?_of_mem hl
        obtain ⟨jl, hj2⟩ := List.getElem?_eq_some_iff.mp hj
        have ji : j < i := by rw [List.length_take] at jl; omega
        rw [List.getElem_take] at hj2
        have hnd := Sl.nm_nodup W.nok
        rw [nm_is, List.map_map] at hnd
        have e1 : ((Vbxlaf.surveyedNames st).map fun n => np n.1)[j]? = some (np n.1) := by
          have : (Vbxlaf.scratchLines st)[j]? = some l := by rw [← hj2]; exact List.getElem?_eq_getElem _
          rw [scratch_is, List.getElem?_map] at this
          obtain ⟨n', hn', el⟩ := Option.map_eq_some_iff.mp this
          rw [List.getElem?_map, hn', ← e, ← el]; rfl
        have e2 : ((Vbxlaf.surveyedNames st).map fun n => np n.1)[i]? = some (np n.1) := by rw [List.getElem?_map, hn]; rfl
        have := nd_ix hnd e1 e2
        omega
      have la0 : la ∉ feet A B st := I6.new hla
      have G0 : G ∉ feet A B st := (I4.same s5).new hG
      have G7 := s67 _ _ d6
      refine ⟨_, rfl, _, rfl, dl, _, rfl, DPut.t (k := pk (np n.1)) dl7 (s47 _ _ hb) (small1000 (by omega)), ?_⟩
      rw [put_last knew]
      refine ⟨_, _, _, _, _, rfl, fun b o eb nb => by rw [upd_ne nb]; exact s47 _ _ (sH b o eb nb), upd_same, ?_⟩
      rw [take_snoc hsl]
      have keep : ∀ b o, off (feet A B st) H' b = some o → (∀ z, o ≠ .dT z) → off (feet A B st) (upd H7 dl (.dT (kl ++ [(pk (np n.1), V.ref la)]))) b = some o := fun b o e z => by
        obtain ⟨e1, e2⟩ := off_some.mp e
        exact off_some.mpr ⟨e1, by rw [upd_ne (ne_of e2 d4 (z _))]; exact s47 _ _ e2⟩
      refine paired_app (Paired.mapP ls fun _ _ q => q.keepT keep) (.cons ⟨rfl, la, dx, G, rfl, off_some.mpr ⟨la0, ?_⟩, off_some.mpr ⟨G0, ?_⟩⟩ .nil)
      · rw [upd_ne (ne_of h7 dl7 (by intro z; cases z))]; exact h7
      · rw [upd_ne (ne_of G7 dl7 (by intro z; cases z))]
        rw [G7]
        show some (HO.lst (intsV _)) = some (HO.lst (intsV _))
        rw [← sources_is (f := Vbxlaf.entryReach st)]; rfl
    · rintro σ H' ⟨v4, v5, v6, v7, kl, rfl, sH, d4, ls⟩
      rw [List.length_map, qlen] at ls
      rw [List.take_of_length_le (by rw [scratch_is, List.length_map]; exact Nat.le_refl _)] at ls
      have dlf : dl ∉ feet A B st := I.new dl0
      exact ⟨_, rfl, k H' dl (fun b o e => sH b o (s03 _ _ e) (ne_of_none e dl0)) dl0 ⟨dl, kl, rfl, off_some.mpr ⟨dlf, d4⟩, ls⟩⟩
end
end Sv
namespace Sv
open PySem PySem.Spec PyProof.Rows L2
/-! ## what an update comes to -/
theorem updated_slots {st : St0} (I : PInv st) : Vbxlaf.updatedSlots st = Vbxlaf.slotsReach st := by
  unfold Vbxlaf.updatedSlots
  cases c : Vbxlaf.areSlotsAffected st
  · rw [if_neg (by simp)]; exact I.c1 c
  · rw [if_pos rfl]
theorem updated_entries {st : St0} (I : PInv st) : Vbxlaf.updatedEntries st = st.entries.map fun e => (e.number, Vbxlaf.entryReach st e.number) := by
  unfold Vbxlaf.updatedEntries
  refine List.map_congr_left fun e he => ?_
  cases c : Vbxlaf.isAffected st e.number
  · rw [if_neg (by simp), I.c2 e he c]; rfl
  · rw [if_pos rfl]
theorem update_is {st : St0} (I : PInv st) : Vbxlaf.update st = { st with surveys := st.surveys ++ [Vbxlaf.scratchLines st], recordedSlots := Vbxlaf.slotsReach st, recordedEntries := st.entries.map fun e => (e.number, Vbxlaf.entryReach st e.number), changed := [], slotsChanged := false } := by
  unfold Vbxlaf.update
  rw [updated_slots I, updated_entries I]; rfl
theorem update_rec {st : St0} (I : PInv st) {e : Vbxlaf.Named} (he : e ∈ st.entries) : Vbxlaf.recordedReach (Vbxlaf.update st) e.number ≠ none := by
  rw [update_is I]
  unfold Vbxlaf.recordedReach
  intro z
  rw [Option.map_eq_none_iff, List.find?_eq_none] at z
  exact z (e.number, Vbxlaf.entryReach st e.number) (List.mem_map.mpr ⟨e, he, rfl⟩) (beq_self_eq_true _)
section
variable {P : Program} {w : World} {K : PySem.W.Frag} {mg : Str → Option Value} {base : Heap} {CG CL CS : Addr}
/-! ### Surveys.lines_now -/
def spLN (CG CL CS : Addr) : Sp := fun vs H Q _ => ∃ (A : Gr) (B : Su) (st : St0), vs = [.ref B.sv] ∧ SInv CG CL CS H A B st ∧ PInv st ∧
  ∀ H' p, Same H H' → H p = none → SvAt CL (off (feet A B st) H') (.ref p) (Vbxlaf.scratchLines st) → Q (.ref p) H'
theorem scLN : FnScope ["self"] ["self"] (defScope (sm 7)) := ⟨rfl, rfl, rfl, by decide +kernel, rfl, by decide +kernel, by decide +kernel⟩
theorem ok_LN {f : Addr} {fd : FuncData} (F : Fun K "lines_now" "Surveys.lines_now" (sm 7) f fd) (T : Txt K mg CG CL CS) (mR : Metd P w K mg base CS 3 "all_reached" ["self"] (spAllR CG CL CS)) (mL : Metd P w K mg base CS 3 "lines_from" ["self", "reached"] (spLF CG CL CS)) : FnOk P w K mg base CX0 4 f fd ["self"] (spLN CG CL CS) := by
  obtain ⟨fR, fdR, gR, meR, bR⟩ := mR
  obtain ⟨fL, fdL, gL, meL, bL⟩ := mL
  refine F.ok scLN (fun vs H Q E h => ?_) (fun cdv A0 outer s H vs Q E hr h => ?_)
  · obtain ⟨A, B, st, rfl, _⟩ := h
    rfl
  · obtain ⟨A, B, st, rfl, I, PI, k⟩ := h
    refine ⟨_, pss_one (ps_ret (pe_meth (pv 0) T.cS meL gL hr bL .nil pass0 (pa_cons (pe_meth0 (pv 0) T.cS meR gR hr bR .nil pass0) pa_nil))), ?_⟩
    refine ⟨_, rfl, B.sv, B.svx, _, rfl, I.ob, lk_none sK _ (by decide +kernel), _, rfl, B.sv, B.svx, _, rfl, I.ob, lk_none sK _ (by decide +kernel), ?_⟩
    refine ⟨A, B, st, rfl, I, PI, fun H1 d kvs s1 hd hd1 hR => ?_⟩
    refine ⟨A, B, st, d, kvs, rfl, I.same s1, PI.w, hd1, hR.of_off, fun H2 p s2 hp hs => ?_⟩
    exact k H2 p (s1.trans s2) (s1.free hp) hs
/-! ### Surveys.make -/
def spMake (CG CL CS : Addr) : Sp := fun vs H Q _ => ∃ (A : Gr) (B : Su) (st : St0), vs = [.ref B.sv] ∧ SInv CG CL CS H A B st ∧ PInv st ∧ st.surveys.length < 30 ∧
  ∀ H' A' B', B'.sv = B.sv → SInv CG CL CS H' A' B' (Vbxlaf.update st) → Fr (feet A B st) H (feet A' B' (Vbxlaf.update st)) H' → Q (.int (Vbxlaf.lookedAt st : Nat)) H'
theorem scMake : FnScope ["self", "reached", "work"] ["self"] (defScope (sm 9)) := ⟨rfl, rfl, rfl, by decide +kernel, rfl, by decide +kernel, by decide +kernel⟩
theorem ok_make {f : Addr} {fd : FuncData} (F : Fun K "make" "Surveys.make" (sm 9) f fd) (T : Txt K mg CG CL CS) (mR : Metd P w K mg base CS 3 "all_reached" ["self"] (spAllR CG CL CS)) (mW : Metd P w K mg base CS 4 "work_of" ["self", "reached"] (spWork CG CL CS)) (mL : Metd P w K mg base CS 3 "lines_from" ["self", "reached"] (spLF CG CL CS)) (mF : Metd P w K mg base CG 1 "forget_changes" ["self"] (spForget CG)) :
    FnOk P w K mg base CX0 5 f fd ["self"] (spMake CG CL CS) := by
  obtain ⟨fR, fdR, gR, meR, bR⟩ := mR
  obtain ⟨fW, fdW, gW, meW, bW⟩ := mW
  obtain ⟨fL, fdL, gL, meL, bL⟩ := mL
  obtain ⟨fF, fdF, gF, meF, bF⟩ := mF
  refine F.ok scMake (fun vs H Q E h => ?_) (fun cdv A0 outer s H vs Q E hr h => ?_)
  · obtain ⟨A, B, st, rfl, _⟩ := h
    rfl
  · obtain ⟨A, B, st, rfl, I, PI, few, k⟩ := h
    have hr3 : Room 3 _ := hr.mono (by decide)
    have hr1 : Room 1 _ := hr.mono (by decide)
    refine ⟨_, pss_cons (ps_set (i := 1) scMake.nd rfl (.inl rfl) (pe_meth0 (pv 0) T.cS meR gR hr3 bR .nil pass0))
      (pss_cons (ps_set (i := 2) scMake.nd rfl (.inl rfl) (pe_meth (pv 0) T.cS meW gW hr bW .nil pass0 (pa_cons (pv 1) pa_nil)))
      (pss_cons (ps_expr (pe_bm PySem.F.plainAttrs_list PySem.F.slot_list_append PySem.F.type_list_append mt_append (pe_fld (pv 0) rfl) (pa_cons (pe_meth (pv 0) T.cS meL gL hr3 bL .nil pass0 (pa_cons (pv 1) pa_nil)) pa_nil)))
      (pss_cons (ps_fld (pv 0) (pv 1) rfl)
      (pss_cons (ps_expr (pe_meth0 (pe_fld (pv 0) rfl) T.cG meF gF hr1 bF .nil pass0))
      (pss_one (ps_ret (pv 2))))))), ?_⟩
    refine ⟨_, rfl, B.sv, B.svx, _, rfl, I.ob, lk_none sK _ (by decide +kernel), ?_⟩
    refine ⟨A, B, st, rfl, I, PI, fun H1 d kvs s1 hd hd1 hR => ?_⟩
    have I1 := I.same s1
    refine ⟨_, rfl, B.sv, B.svx, _, rfl, I1.ob, lk_none sK _ (by decide +kernel), _, rfl, ?_⟩
    refine ⟨A, B, st, d, kvs, rfl, I1, PI, hd1, hR.of_off, fun H2 s2 => ?_⟩
    have I2 := I1.same s2
    obtain ⟨b1, b2, b3, b4⟩ := sF_get I2 T 1 kS_made rfl
    obtain ⟨xs, hxs, rs⟩ := I2.ml
    refine ⟨_, rfl, B.sv, CS, B.svx, _, _, rfl, b1, b2, b3, b4, .inl ⟨rfl, _, SqL.of hxs⟩, _, rfl, B.sv, B.svx, _, rfl, I2.ob, lk_none sK _ (by decide +kernel), _, rfl, ?_⟩
    refine ⟨A, B, st, d, kvs, rfl, I2, PI.w, s2 _ _ hd1, hR.of_off.keep s2, fun H3 p s3 hp hs => ?_⟩
    have I3 := I2.same s3
    have hxs3 := s3 _ _ hxs
    have G3 := I3.g
    have p0 : p ∉ feet A B st := I2.new hp
    have d0 : d ∉ feet A B st := I.new hd
    have d3 : H3 d = some (.dK kvs) := s3 _ _ (s2 _ _ hd1)
    have mlsv : B.ml ≠ B.sv := ne_of hxs3 I3.ob (by intro z; cases z)
    have xl : xs.length < 30 := by rw [Paired.length rs]; exact few
    refine ⟨B.ml, xs, _, rfl, rfl, hxs3, (by rw [sizeLine_eq]; omega), ?_⟩
    have e4 : ∀ b o, H3 b = some o → b ≠ B.ml → upd H3 B.ml (.lst (xs ++ [.ref p])) b = some o := fun b o e n => by rw [upd_ne n]; exact e
    have m4 : upd H3 B.ml (.lst (xs ++ [.ref p])) B.ml = some (.lst (xs ++ [.ref p])) := upd_same
    have f4 : ∀ b, upd H3 B.ml (.lst (xs ++ [.ref p])) b = none → H3 b = none := fun b e => (upd_free e).2
    generalize upd H3 B.ml (.lst (xs ++ [.ref p])) = H4 at e4 m4 f4 ⊢
    refine ⟨_, rfl, _, rfl, B.sv, CS, B.svx, _, rfl, e4 _ _ I3.ob mlsv.symm, T.cS, T.aS _ (ix_mem _ kS_last), (by show 3 < 1000; decide), ?_⟩
    rw [put_zip sK _ 2 kS_last rfl]
    have e5 : ∀ b o, H4 b = some o → b ≠ B.sv → upd H4 B.sv (.ins CS B.svx (sK.zip ([V.ref A.g, .ref B.ml, .ref B.lr].set 2 (.ref d)))) b = some o := fun b o e n => by rw [upd_ne n]; exact e
    have o5 : upd H4 B.sv (.ins CS B.svx (sK.zip ([V.ref A.g, .ref B.ml, .ref B.lr].set 2 (.ref d)))) B.sv = some (.ins CS B.svx (sK.zip [V.ref A.g, .ref B.ml, .ref d])) := upd_same
    have f5 : ∀ b, upd H4 B.sv (.ins CS B.svx (sK.zip ([V.ref A.g, .ref B.ml, .ref B.lr].set 2 (.ref d)))) b = none → H4 b = none := fun b e => (upd_free e).2
    generalize upd H4 B.sv (.ins CS B.svx (sK.zip ([V.ref A.g, .ref B.ml, .ref B.lr].set 2 (.ref d)))) = H5 at e5 o5 f5 ⊢
    have gsv : A.g ≠ B.sv := fun e => I.sn (e ▸ foot_g)
    have gml : A.g ≠ B.ml := fun e => I.mn (e ▸ foot_g)
    have g5 := e5 _ _ (e4 _ _ G3.ob gml) gsv
    refine ⟨_, rfl, B.sv, CS, B.svx, _, _, rfl, o5, T.cS, T.aS _ (ix_mem _ kS_graph), sk_get _ rfl 0 kS_graph rfl, A.g, A.gx, _, rfl, g5, lk_none gK _ (by decide +kernel), ?_⟩
    refine ⟨A.g, A.gx, _, rfl, g5, (by show 8 < 900; decide), fun H6 cd nd hcd hnd cn h6 c6 n6 k6 => ?_⟩
    rw [put_zip gK _ 5 kG_sc rfl, put_zip gK _ 6 kG_co rfl, put_zip gK _ 7 kG_nn rfl] at h6
    have e6 : ∀ b o, H3 b = some o → b ≠ B.ml → b ≠ B.sv → b ≠ A.g → H6 b = some o := fun b o e n1 n2 n3 => k6 b o (e5 b o (e4 b o e n1) n2) n3
    have cd3 : H3 cd = none := f4 _ (f5 _ hcd)
    have nd3 : H3 nd = none := f4 _ (f5 _ hnd)
    have m6 : H6 B.ml = some (.lst (xs ++ [.ref p])) := k6 _ _ (e5 _ _ m4 mlsv) gml.symm
    have o6 := k6 _ _ o5 gsv.symm
    let A' : Gr := { A with cd := cd, nd := nd, sc := false, cs := [], ms := [] }
    let B' : Su := ⟨B.sv, B.svx, B.ml, d, kvs⟩
    have ff : foot A' (Vbxlaf.update st) = A.g :: A.sl :: A.fd :: A.sd :: cd :: nd :: st.objects.map fun o => A.fa o.number := rfl
    have sub : ∀ b ∈ foot A' (Vbxlaf.update st), b ∈ foot A st ∨ b = cd ∨ b = nd := by
      intro b hb
      rw [ff] at hb
      simp only [List.mem_cons] at hb
      rcases hb with h | h | h | h | h | h | h
      · exact .inl (h ▸ foot_g)
      · exact .inl (h ▸ foot_sl)
      · exact .inl (h ▸ foot_fd)
      · exact .inl (h ▸ foot_sd)
      · exact .inr (.inl h)
      · exact .inr (.inr h)
      · obtain ⟨o, ho, e⟩ := List.mem_map.mp h
        exact .inl (e ▸ foot_fa ho)
    have fr : Fr (feet A B st) H3 (feet A' B' (Vbxlaf.update st)) H6 := by
      refine Fr.of (fun b o e n => ?_) (fun b hb => ?_)
      · have n1 : b ≠ B.sv := fun z => n (z ▸ List.mem_cons_self)
        have n2 : b ≠ B.ml := fun z => n (z ▸ List.mem_cons_of_mem _ List.mem_cons_self)
        have n3 : b ≠ A.g := fun z => n (z ▸ List.mem_cons_of_mem _ (List.mem_cons_of_mem _ foot_g))
        exact e6 b o e n2 n1 n3
      · rcases List.mem_cons.mp hb with h | hb
        · exact .inl (h ▸ List.mem_cons_self)
        · rcases List.mem_cons.mp hb with h | hb
          · exact .inl (h ▸ List.mem_cons_of_mem _ List.mem_cons_self)
          · rcases sub b hb with h | h | h
            · exact .inl (List.mem_cons_of_mem _ (List.mem_cons_of_mem _ h))
            · exact .inr (h ▸ cd3)
            · exact .inr (h ▸ nd3)
    have keepf : ∀ b o, H3 b = some o → b ∈ foot A st → b ≠ A.g → H6 b = some o := fun b o e m n => e6 b o e (fun z => I.mn (z ▸ m)) (fun z => I.sn (z ▸ m)) n
    have tups : Tups H3 H6 := fun b zs e => e6 b _ e (ne_of e hxs3 (by intro z; cases z)) (ne_of e I3.ob (by intro z; cases z)) (ne_of e G3.ob (by intro z; cases z))
    have g6 : GInv CG H6 A' (Vbxlaf.update st) := {
      ob := h6
      slots := G3.slots.keep (fun zs e => keepf _ _ e foot_sl (ne_of e G3.ob (by intro z; cases z))) tups
      fd := keepf _ _ G3.fd foot_fd (ne_of G3.fd G3.ob (by intro z; cases z))
      fl := fun o ho => (G3.fl o ho).keep (fun zs e => keepf _ _ e (foot_fa ho) (ne_of e G3.ob (by intro z; cases z))) tups
      inj := G3.inj
      fs := G3.fs
      sd := keepf _ _ G3.sd foot_sd (ne_of G3.sd G3.ob (by intro z; cases z))
      sp := G3.sp
      cd := c6
      cn := List.nodup_nil
      cm := fun n => Iff.rfl
      nd := n6
      nn := List.nodup_nil
      nl := fun p hp => nomatch hp
      nm := fun _ e he => ⟨(fun z => nomatch z), fun z => absurd z (update_rec PI he)⟩
      sc := fun _ => rfl
      d1 := ne_of_none G3.sd cd3
      d2 := ne_of_none G3.sd nd3
      d3 := cn }
    refine ⟨_, rfl, k H6 A' B' rfl ?_ ((Fr.same ((s1.trans s2).trans s3)).trans fr)⟩
    exact {
      g := g6
      ob := o6
      sn := fun m => by
        rcases sub _ m with h | h | h
        · exact I.sn h
        · exact ne_of_none I3.ob cd3 h
        · exact ne_of_none I3.ob nd3 h
      ml := ⟨_, m6, by
        have e : (Vbxlaf.update st).surveys = st.surveys ++ [Vbxlaf.scratchLines st] := by rw [update_is PI]
        rw [e]
        exact paired_app (Paired.mapP rs fun _ _ q => (q.keep (Fr.offs s3)).keep fr.off) (.cons (hs.keep fr.off) .nil)⟩
      mn := fun m => by
        rcases sub _ m with h | h | h
        · exact I.mn h
        · exact ne_of_none hxs3 cd3 h
        · exact ne_of_none hxs3 nd3 h
      lr := fr.off _ _ (off_some.mpr ⟨d0, d3⟩)
      last := fun _ => by
        have hR3 : RK (off (feet A' B' (Vbxlaf.update st)) H6) kvs st := (hR.keep (Fr.offs (s2.trans s3))).keep fr.off
        rw [update_is PI]
        refine ⟨?_, fun q hq => ?_⟩
        · obtain ⟨e, e1, e2⟩ := hR3.2 0 List.mem_cons_self
          have er : reachNow st 0 = Vbxlaf.slotsReach st := by unfold reachNow; rw [if_pos rfl]
          rw [er] at e2
          exact ⟨e, e1, e2⟩
        · obtain ⟨en, hen, rfl⟩ := List.mem_map.mp hq
          obtain ⟨e, e1, e2⟩ := hR3.2 en.number (List.mem_cons_of_mem _ (List.mem_map.mpr ⟨en, hen, rfl⟩))
          have er : reachNow st en.number = Vbxlaf.entryReach st en.number := by unfold reachNow; rw [if_neg (entry_pos PI.w hen)]
          rw [er] at e2
          exact ⟨e, e1, e2⟩ }
end
end Sv
namespace Sv
open PySem PySem.Spec PyProof.Rows L2
section
variable {P : Program} {w : World} {K : PySem.W.Frag} {mg : Str → Option Value} {base : Heap} {CG CL CS : Addr}
/-! ### Surveys.lines_of -/
def svOf (st : St0) (i : Int) : Option (List Vbxlaf.Line) := if i < 1 then none else st.surveys[i.toNat - 1]?
def spLO (CG CL CS : Addr) : Sp := fun vs H Q _ => ∃ (A : Gr) (B : Su) (st : St0) (i : Int), vs = [.ref B.sv, .int i] ∧ SInv CG CL CS H A B st ∧
  ((svOf st i = none → Q .non H) ∧ ∀ x ls, svOf st i = some ls → SvAt CL (off (feet A B st) H) x ls → Q x H)
theorem scLO : FnScope ["self", "index"] ["self", "index"] (defScope (sm 10)) := ⟨rfl, rfl, rfl, by decide +kernel, rfl, by decide +kernel, by decide +kernel⟩
theorem ok_LO {f : Addr} {fd : FuncData} (F : Fun K "lines_of" "Surveys.lines_of" (sm 10) f fd) (T : Txt K mg CG CL CS) : FnOk P w K mg base CX0 1 f fd ["self", "index"] (spLO CG CL CS) := by
  refine F.ok scLO (fun vs H Q E h => ?_) (fun cdv A0 outer s H vs Q E hr h => ?_)
  · obtain ⟨A, B, st, i, rfl, _⟩ := h
    rfl
  · obtain ⟨A, B, st, i, rfl, I, k0, k1⟩ := h
    refine ⟨_, pss_cons (ps_if (pt_chain op_le op_le pe_int (pv 1) (pe_callB call_len_seq (by rfl) T.bLen PySem.boot_len (pa_cons (pe_fld (pv 0) rfl) pa_nil)))
      (pss_one (ps_ret (pe_ix ix_list (pe_fld (pv 0) rfl) (pe_op op_sub (pv 1) pe_int) (fun _ _ => rfl)))) pss_nil) (pss_one (ps_ret pe_non)), ?_⟩
    obtain ⟨b1, b2, b3, b4⟩ := sF_get I T 1 kS_made rfl
    obtain ⟨xs, hxs, rs⟩ := I.ml
    have lx := Paired.length rs
    refine ⟨_, rfl, _, _, rfl, rfl, _, rfl, ?_⟩
    by_cases c1 : 1 ≤ i
    · rw [decide_eq_true c1]
      obtain ⟨j, rfl⟩ : ∃ j : Nat, i = ((j + 1 : Nat) : Int) := ⟨i.toNat - 1, by omega⟩
      have es : svOf st ((j + 1 : Nat) : Int) = st.surveys[j]? := by
        unfold svOf
        rw [if_neg (by omega), Int.toNat_natCast, Nat.add_sub_cancel]
      rw [es] at k0 k1
      refine iteT ⟨_, rfl, B.sv, CS, B.svx, _, _, rfl, b1, b2, b3, b4, B.ml, _, rfl, .inl (SqL.of hxs), _, _, rfl, rfl, _, rfl, ?_⟩
      by_cases c2 : ((j + 1 : Nat) : Int) ≤ ((xs.length : Nat) : Int)
      · rw [decide_eq_true c2]
        have jl : j < st.surveys.length := by omega
        obtain ⟨x, hx, rx⟩ := paired_at rs (List.getElem?_eq_getElem jl)
        have ej : ((j + 1 : Nat) : Int) - 1 = (j : Int) := by omega
        refine iteT ⟨_, rfl, B.sv, CS, B.svx, _, _, rfl, b1, b2, b3, b4, _, rfl, _, _, rfl, rfl, B.ml, xs, ((j + 1 : Nat) : Int) - 1, x, rfl, rfl, SqL.of hxs, (by rw [ej]; exact atI_nat hx), k1 x _ (List.getElem?_eq_getElem jl) rx⟩
      · rw [decide_eq_false c2]
        exact iteF (k0 (List.getElem?_eq_none (by omega)))
    · rw [decide_eq_false c1]
      exact iteF ⟨_, rfl, iteF (k0 (by unfold svOf; rw [if_pos (by omega)]))⟩
end
/-! ## a survey's lines -/
structure LsOk (ls : List Vbxlaf.Line) : Prop where
  few : ls.length ≤ 60
  src : ∀ l ∈ ls, ∀ s ∈ l.sources, ∃ l' ∈ ls, l'.name = ⟨1, s⟩
  sl : ∀ l ∈ ls, l.sources.length ≤ 60
theorem np_inj {a b : Vbxlaf.Name} (h : np a = np b) : a = b := by
  have e1 : (a.kind : Int) = (b.kind : Int) := congrArg Prod.fst h
  have e2 : (a.number : Int) = (b.number : Int) := congrArg Prod.snd h
  cases a; cases b
  simp only at e1 e2
  congr 1 <;> omega
theorem lines_get {CL : Addr} {H : Hp} (p : Int × Int) : ∀ {kvs : List (List L2.Key × V)} {ls : List Vbxlaf.Line}, Paired (LineAt CL H) kvs ls →
    ((ls.find? fun l => decide (np l.name = p)) = none ∧ valV kvs (pk p) = none) ∨ ∃ l, (ls.find? fun l => decide (np l.name = p)) = some l ∧ ∃ la dx sa, valV kvs (pk p) = some (.ref la) ∧ H la = some (.ins CL dx (lK.zip [.int (l.stamp : Int), .int ((Vbxlaf.flag l.rooted : Nat) : Int), .ref sa])) ∧ H sa = some (.lst (intsV l.sources))
  | _, _, .nil => .inl ⟨rfl, rfl⟩
  | kv :: kvs, l :: ls, .cons r t => by
    obtain ⟨e, la, dx, sa, e1, h1, h2⟩ := r
    by_cases c : np l.name = p
    · refine .inr ⟨l, by rw [List.find?_cons, decide_eq_true c], la, dx, sa, ?_, h1, h2⟩
      rw [valV_pos (by rw [e, c]), e1]
    · rw [List.find?_cons, decide_eq_false c, valV_neg (by rw [e]; exact fun z => c (pk_inj z))]
      exact lines_get p t
theorem find_np (ls : List Vbxlaf.Line) (nm : Vbxlaf.Name) : (ls.find? fun l => l.name == nm) = ls.find? fun l => decide (np l.name = np nm) := by
  congr 1
  funext l
  rw [Bool.eq_iff_iff, beq_iff_eq, decide_eq_true_eq]
  exact ⟨fun e => by rw [e], np_inj⟩
theorem find_at {α : Type} {f : α → Bool} : ∀ {l : List α} {i : Nat} {a : α}, l[i]? = some a → f a = true → (∀ b ∈ l.take i, f b = false) → l.find? f = some a
  | [], i, a, h, _, _ => by simp at h
  | x :: l, 0, a, h, t, _ => by
    have e : x = a := Option.some.inj h
    rw [List.find?_cons, e, t]
  | x :: l, i + 1, a, h, t, n => by
    have e : f x = false := n x (by rw [List.take_succ_cons]; exact List.mem_cons_self)
    rw [List.find?_cons, e]
    exact find_at (l := l) (i := i) h t fun b hb => n b (by rw [List.take_succ_cons]; exact List.mem_cons_of_mem _ hb)
def outdated (st : St0) (ls : List Vbxlaf.Line) (nm : Vbxlaf.Name) : Bool := Vbxlaf.stampOf st nm != Vbxlaf.stampIn ls nm
section
variable {P : Program} {w : World} {K : PySem.W.Frag} {mg : Str → Option Value} {base : Heap} {CG CL CS : Addr}
/-! ### Surveys.first_outdated -/
def spFO (CG CL CS : Addr) : Sp := fun vs H Q _ => ∃ (A : Gr) (B : Su) (st : St0) (p : Addr) (x : V) (kvs : List (List L2.Key × V)) (ls : List Vbxlaf.Line) (l : Vbxlaf.Line), vs = [.ref B.sv, .ref p, x] ∧ SInv CG CL CS H A B st ∧ Wf st ∧ H p = some (.dT kvs) ∧ Paired (LineAt CL H) kvs ls ∧ LsOk ls ∧ l ∈ ls ∧ (ls.find? fun l' => l'.name == l.name) = some l ∧ (∀ l ∈ ls, l.name.kind = 1 ∨ l.name.kind = 2) ∧ PR H x (np l.name) ∧
  ∀ H' y, Same H H' → (match Vbxlaf.firstUsed st ls (Vbxlaf.namesOf l) with | none => y = .non | some nm => PR H' y (np nm)) → Q y H'
theorem scFO : FnScope ["self", "lines", "name", "relied_on", "source"] ["self", "lines", "name"] (defScope (sm 11)) := ⟨rfl, rfl, rfl, by decide +kernel, rfl, by decide +kernel, by decide +kernel⟩
theorem ok_FO {f : Addr} {fd : FuncData} (F : Fun K "first_outdated" "Surveys.first_outdated" (sm 11) f fd) (T : Txt K mg CG CL CS) : FnOk P w K mg base CX0 1 f fd ["self", "lines", "name"] (spFO CG CL CS) := by
  refine F.ok scFO (fun vs H Q E h => ?_) (fun cdv A0 outer s H vs Q E hr h => ?_)
  · obtain ⟨A, B, st, p, x, kvs, ls, l, rfl, _⟩ := h
    rfl
  · obtain ⟨A, B, st, p, x, kvs, ls, l, rfl, I, W, hp, hls, lok, hl, hfl, kds, ⟨b, rfl, hb⟩, k⟩ := h
    have hu := hu_of hr
    refine ⟨_, pss_cons (ps_for PassesOwn.never rfl (pi_list (pe_op op_cat (pe_lst (pa_cons (pv 2) pa_nil)) (pe_lc (own := [("source", 4)]) (te := tTup (tCons (tC (.int 1)) (tCons (tVar 4) tNil))) rfl scFO.nd (pi_list (pe_fld (pe_dget hu (pv 1) (pv 2) (fun _ _ => rfl)) rfl)) (blkOk_by (N := ["self", "lines", "name", "relied_on", "source"]) (sc := defScope (sm 11)) (by decide +kernel))
        (fun _ _ _ _ _ => pg_name (i := 4) scFO.nd rfl (Or.inl rfl)) (fun _ _ _ _ _ => pts_nil) (fun _ _ _ _ _ => pe_tup (pa_cons (pe_num T.nO) (pa_cons (pv 4) pa_nil)))))) (pg_name (i := 3) scFO.nd rfl (Or.inl rfl))
        (pss_one (ps_if (pt_cmpR op_ne (pe_dget1 hu (pe_fld (pe_fld (pv 0) rfl) rfl) (pv 3) ⟨rfl, rfl, rfl, rfl⟩) (pe_fld (pe_dget hu (pv 1) (pv 3) (fun _ _ => rfl)) rfl) (nomark _)) (pss_one (ps_ret (pv 3))) pss_nil)))
      (pss_one (ps_ret pe_non)), ?_⟩
    obtain ⟨la, dx, sa, v1, hla, hsa⟩ : ∃ la dx sa, valV kvs (pk (np l.name)) = some (.ref la) ∧ H la = some (.ins CL dx (lK.zip [.int (l.stamp : Int), .int ((Vbxlaf.flag l.rooted : Nat) : Int), .ref sa])) ∧ H sa = some (.lst (intsV l.sources)) := by
      rcases lines_get (CL := CL) (np l.name) hls with ⟨z, _⟩ | ⟨l', e, r⟩
      · rw [← find_np, hfl] at z; cases z
      · rw [← find_np, hfl] at e
        cases e; exact r
    have slen := lok.sl l hl
    refine ⟨_, rfl, (by show 1 ≤ sizeLine; decide), fun l0 hl0 => ?_⟩
    have s1 : Same H (upd H l0 (.lst [.ref b])) := Same.fresh hl0
    have l1 : upd H l0 (.lst [.ref b]) l0 = some (.lst [.ref b]) := upd_same
    generalize upd H l0 (.lst [.ref b]) = H1 at s1 l1 ⊢
    refine ⟨_, rfl, _, rfl, p, _, rfl, (by rw [← v1]; exact DGet.t (k := pk (np l.name)) (s1 _ _ hp) (s1 _ _ hb)), la, CL, dx, _, _, rfl, s1 _ _ hla, T.cL, T.aL _ (ix_mem _ kL_sources), lk_get _ rfl 2 kL_sources rfl, sa, rfl, ⟨_, SqL.of (s1 _ _ hsa)⟩, fun D hD => ?_⟩
    refine lc_list (K := K) (a := sa) (xs := intsV l.sources) (fun i H' => Same H1 H' ∧ ∃ ys, H' D = some (.lst ys) ∧ Paired (PR H') ys ((l.sources.take i).map fun s => np ⟨1, s⟩)) ⟨Same.fresh hD, [], upd_same, .nil⟩ (fun i H' _ q => q.1.seq (SqL.of (s1 _ _ hsa))) ?_ ?_
    · rintro i y H' hy ⟨s2, ys, d2, rs⟩
      obtain ⟨n, hn, rfl⟩ := get_map hy
      have yl : ys.length ≤ 60 := by
        rw [Paired.length rs, List.length_map, List.length_take]; omega
      refine ⟨rfl, _, rfl, (by show 2 ≤ sizeLine; decide), fun t ht => ?_⟩
      have tD : D ≠ t := fun z => by rw [← z, d2] at ht; cases ht
      have tu : Tups H' (upd (upd H' t (.tup [.int 1, .int (n : Int)])) D (.lst (ys ++ [.ref t]))) := fun c zs e => by
        rw [upd_ne (ne_of e d2 (by intro z; cases z)), upd_ne (ne_of_none e ht)]; exact e
      refine ⟨ys, by rw [upd_ne tD]; exact d2, small1000 (by omega), fun c o e => ?_, _, upd_same, ?_⟩
      · rw [upd_ne (ne_of_none e hD), upd_ne (ne_of_none (s2 _ _ e) ht)]; exact s2 _ _ e
      · rw [take_snoc hn, List.map_append]
        exact paired_app (Paired.mapP rs fun _ _ q => q.keep tu) (.cons ⟨t, rfl, by rw [upd_ne tD.symm]; exact upd_same⟩ .nil)
    rintro H2 ⟨s2, ys, d2, rs⟩
    rw [show (intsV l.sources).length = l.sources.length from List.length_map _, List.take_length] at rs
    have yl : ys.length ≤ 60 := by rw [Paired.length rs, List.length_map]; exact slen
    refine ⟨l0, D, _, _, rfl, rfl, s2 _ _ l1, d2, (by rw [List.length_singleton, sizeLine_eq]; omega), fun r hr0 => ?_⟩
    have s3 : Same H2 (upd H2 r (.lst ([V.ref b] ++ ys))) := Same.fresh hr0
    have r3 : upd H2 r (.lst ([V.ref b] ++ ys)) r = some (.lst ([V.ref b] ++ ys)) := upd_same
    generalize upd H2 r (.lst ([V.ref b] ++ ys)) = H3 at s3 r3 ⊢
    have s03 : Same H H3 := (s1.trans s2).trans s3
    have all3 : Paired (PR H3) ([V.ref b] ++ ys) ((Vbxlaf.namesOf l).map np) := by
      show Paired (PR H3) ([V.ref b] ++ ys) ([np l.name] ++ (l.sources.map fun number => (⟨1, number⟩ : Vbxlaf.Name)).map np)
      refine paired_app (.cons ⟨b, rfl, s03 _ _ hb⟩ .nil) ?_
      rw [List.map_map]
      exact Paired.mapP rs fun _ _ q => q.keep (Tups.of_same s3)
    have I3 := I.same s03
    obtain ⟨b1, b2, b3, b4⟩ := sF_get I3 T 0 kS_graph rfl
    refine ⟨r, rfl, ⟨_, SqL.of r3⟩, for_list (K := K) (a := r) (xs := [V.ref b] ++ ys) (fun i σ H' => ∃ v3 : Option V, σ = [some (.ref B.sv), some (.ref p), some (.ref b), v3, none] ∧ H' = H3 ∧ ∀ nm ∈ (Vbxlaf.namesOf l).take i, outdated st ls nm = false)
      ⟨none, rfl, rfl, fun nm hnm => nomatch hnm⟩ (fun i σ H' _ ⟨_, _, e, _⟩ => by rw [e]; exact SqL.of r3) ?_ ?_⟩
    · rintro i y σ H' hy ⟨v3, rfl, rfl, hno⟩
      obtain ⟨q, hq, c, rfl, hc⟩ := paired_get all3 hy
      obtain ⟨nm, hnm, rfl⟩ := get_map hq
      have hin : ∃ l' ∈ ls, l'.name = nm := by
        rcases List.mem_cons.mp (List.mem_of_getElem? hnm) with e | m
        · exact ⟨l, hl, e.symm⟩
        · obtain ⟨s0, hs0, rfl⟩ := List.mem_map.mp m
          exact lok.src l hl s0 hs0
      have knd : nm.kind = 1 ∨ nm.kind = 2 := by
        obtain ⟨l', hl', e⟩ := hin
        rw [← e]; exact kds l' hl'
      obtain ⟨l', el, lb, dx', sb, v2, hlb, _⟩ : ∃ l', (ls.find? fun l => decide (np l.name = np nm)) = some l' ∧ ∃ lb dx' sb, valV kvs (pk (np nm)) = some (.ref lb) ∧ H lb = some (.ins CL dx' (lK.zip [.int (l'.stamp : Int), .int ((Vbxlaf.flag l'.rooted : Nat) : Int), .ref sb])) ∧ H sb = some (.lst (intsV l'.sources)) := by
        rcases lines_get (CL := CL) (np nm) hls with ⟨z, _⟩ | r
        · obtain ⟨l', hl', e⟩ := hin
          rw [List.find?_eq_none] at z
          exact absurd (decide_eq_true (by rw [e])) (z l' hl')
        · exact r
      have estamp : Vbxlaf.stampIn ls nm = some l'.stamp := by
        unfold Vbxlaf.stampIn
        rw [find_np, el]; rfl
      have est : Sl.stI st (np nm) = (Vbxlaf.stampOf st nm).map (fun (s : Nat) => (s : Int)) := by
        have := Sl.stI_name st (nm.kind : Int) (by omega) nm.number
        rwa [Int.toNat_natCast] at this
      have dg := DGet.t (k := pk (np nm)) I3.g.sd hc
      rw [I3.g.stamp W.nok, est] at dg
      refine ⟨_, rfl, B.sv, CS, B.svx, _, _, rfl, b1, b2, b3, b4, A.g, CG, A.gx, _, _, rfl, I3.g.ob, T.cG, T.aG _ (ixG _ kG_stamps), gk_get A _ _ _ kG_stamps rfl, A.sd, rfl, .inr ⟨_, .inl I3.g.sd⟩, _, rfl, _, dg, ?_⟩
      refine ⟨_, rfl, _, rfl, p, _, rfl, (by rw [← v2]; exact DGet.t (k := pk (np nm)) (s03 _ _ hp) hc), lb, CL, dx', _, _, rfl, s03 _ _ hlb, T.cL, T.aL _ (ix_mem _ kL_stamp), lk_get _ rfl 0 kL_stamp rfl, ?_⟩
      have bad : (!decide ((((Vbxlaf.stampOf st nm).map (fun (s : Nat) => (s : Int))).map V.int).getD .non = V.int (l'.stamp : Int))) = outdated st ls nm := by
        unfold outdated
        rw [estamp]
        cases e : Vbxlaf.stampOf st nm with
        | none => simp
        | some s0 =>
          by_cases c : s0 = l'.stamp
          · simp [c]
          · have : ¬ (V.int (s0 : Int) = V.int (l'.stamp : Int)) := fun z => c (by injection z with z; omega)
            simp [c, this]
      refine ⟨by cases Vbxlaf.stampOf st nm <;> rfl, _, rfl, ?_⟩
      rw [bad]
      cases cb : outdated st ls nm
      · refine iteF ⟨_, rfl, rfl, fun nm' hnm' => ?_⟩
        rw [take_snoc hnm, List.mem_append, List.mem_singleton] at hnm'
        rcases hnm' with h | h
        · exact hno _ h
        · rw [h]; exact cb
      · refine iteT ⟨_, rfl, k _ _ s03 ?_⟩
        have : Vbxlaf.firstUsed st ls (Vbxlaf.namesOf l) = some nm := find_at hnm cb hno
        rw [this]
        exact ⟨c, rfl, hc⟩
    · rintro σ H' ⟨v3, rfl, rfl, hno⟩
      rw [show ([V.ref b] ++ ys).length = (Vbxlaf.namesOf l).length from (by rw [Paired.length all3, List.length_map]), List.take_length] at hno
      refine k _ _ s03 ?_
      have : Vbxlaf.firstUsed st ls (Vbxlaf.namesOf l) = none := List.find?_eq_none.mpr fun nm hnm => by
        have := hno nm hnm
        unfold outdated at this
        rw [this]; simp
      rw [this]
end
end Sv
namespace Sl
open Vbxlaf
/-! ## the search by a queue -/
abbrev Known := List (Value × List Nat)
abbrev keysOf (ps : Known) : List Value := ps.map (·.1)
def feed1 (st : State) (ps : Known) (s : List Nat × Value) : Known × List Place :=
  if s.2 = .nothing ∨ s.2 ∈ keysOf ps then (ps, []) else (ps ++ [(s.2, s.1)], match s.2 with | .object n => [(s.1, fieldsOf st n)] | _ => [])
def feed (st : State) : List (List Nat × Value) → Known → Known × List Place
  | [], ps => (ps, [])
  | s :: r, ps => ((feed st r (feed1 st ps s).1).1, (feed1 st ps s).2 ++ (feed st r (feed1 st ps s).1).2)
def getp (goal : Value) (ps : Known) : Option (List Nat) := (ps.find? fun e => decide (e.1 = goal)).map (·.2)
def runq (st : State) (goal : Value) : Nat → Known → List Place → Option (List Nat)
  | 0, _, _ => none
  | k + 1, ps, q => if goal ∈ keysOf ps then getp goal ps else match q with
    | [] => none
    | way :: r => runq st goal k (feed st (stepsFrom [way]) ps).1 (r ++ (feed st (stepsFrom [way]) ps).2)
theorem feed_app (st : State) : ∀ (a b : List (List Nat × Value)) (ps : Known), feed st (a ++ b) ps = ((feed st b (feed st a ps).1).1, (feed st a ps).2 ++ (feed st b (feed st a ps).1).2)
  | [], b, ps => rfl
  | s :: a, b, ps => by
    rw [List.cons_append]
    show ((feed st (a ++ b) (feed1 st ps s).1).1, (feed1 st ps s).2 ++ (feed st (a ++ b) (feed1 st ps s).1).2) = ((feed st b (feed st a (feed1 st ps s).1).1).1, ((feed1 st ps s).2 ++ (feed st a (feed1 st ps s).1).2) ++ (feed st b (feed st a (feed1 st ps s).1).1).2)
    rw [feed_app st a b, List.append_assoc]
theorem getp_none {goal : Value} {ps : Known} : getp goal ps = none ↔ goal ∉ keysOf ps := by
  unfold getp
  rw [Option.map_eq_none_iff, List.find?_eq_none]
  constructor
  · intro h m
    obtain ⟨e, he, q⟩ := List.mem_map.mp m
    exact h e he (decide_eq_true q)
  · intro h e he q
    exact h (List.mem_map.mpr ⟨e, he, of_decide_eq_true q⟩)
theorem getp_app {goal : Value} (ps qs : Known) : getp goal (ps ++ qs) = (getp goal ps).or (getp goal qs) := by
  unfold getp
  rw [List.find?_append]
  cases ps.find? fun e => decide (e.1 = goal) <;> rfl
theorem feed1_get {st : State} {goal : Value} (hg : goal ≠ .nothing) {ps : Known} (s : List Nat × Value) : getp goal (feed1 st ps s).1 = (getp goal ps).or (if s.2 = goal then some s.1 else none) := by
  unfold feed1
  split
  · rename_i h
    by_cases c : s.2 = goal
    · have hk : goal ∈ keysOf ps := by
        rcases h with h | h
        · exact absurd (c.symm.trans h) hg
        · rw [← c]; exact h
      cases e : getp goal ps with
      | none => exact absurd hk (getp_none.mp e)
      | some x => rfl
    · rw [if_neg c]
      cases getp goal ps <;> rfl
  · rw [getp_app]
    congr 1
    unfold getp
    by_cases c : s.2 = goal
    · rw [if_pos c, List.find?_cons, decide_eq_true c]; rfl
    · rw [if_neg c, List.find?_cons, decide_eq_false c]; rfl
theorem feed_get {st : State} {goal : Value} (hg : goal ≠ .nothing) : ∀ (S : List (List Nat × Value)) (ps : Known), getp goal (feed st S ps).1 = (getp goal ps).or ((S.find? fun s => s.2 == goal).map (·.1))
  | [], ps => by
    show getp goal ps = _
    cases getp goal ps <;> rfl
  | s :: S, ps => by
    show getp goal (feed st S (feed1 st ps s).1).1 = _
    rw [feed_get hg S, feed1_get hg]
    cases e : getp goal ps with
    | some x => rfl
    | none =>
      show (if s.2 = goal then some s.1 else none).or _ = Option.map _ _
      by_cases c : s.2 = goal
      · rw [if_pos c, List.find?_cons]
        have : (s.2 == goal) = true := beq_iff_eq.mpr c
        rw [this]; rfl
      · rw [if_neg c, List.find?_cons]
        have : (s.2 == goal) = false := by rw [Bool.eq_false_iff]; exact fun z => c (beq_iff_eq.mp z)
        rw [this]; rfl
theorem next_obj (st : State) (p : List Nat) (m : Nat) (rest : List (List Nat × Value)) (found : List Nat) : nextPlaces st ((p, Value.object m) :: rest) found = if found.contains m = true then nextPlaces st rest found else ((p, fieldsOf st m) :: (nextPlaces st rest (m :: found)).1, (nextPlaces st rest (m :: found)).2) := rfl
theorem feed1_next {st : State} {ps : Known} {found : List Nat} (h : ∀ n, n ∈ found ↔ Value.object n ∈ keysOf ps) (s : List Nat × Value) (rest : List (List Nat × Value)) :
    ∃ found', (∀ n, n ∈ found' ↔ Value.object n ∈ keysOf (feed1 st ps s).1) ∧ nextPlaces st (s :: rest) found = ((feed1 st ps s).2 ++ (nextPlaces st rest found').1, (nextPlaces st rest found').2) := by
  obtain ⟨p, v⟩ := s
  cases v with
  | nothing => exact ⟨found, by unfold feed1; rw [if_pos (.inl rfl)]; exact h, by unfold feed1; rw [if_pos (.inl rfl)]; rfl⟩
  | foreign m =>
    refine ⟨found, ?_, ?_⟩
    · unfold feed1
      split
      · exact h
      · intro n
        show n ∈ found ↔ Value.object n ∈ (ps ++ [(Value.foreign m, p)]).map (·.1)
        rw [List.map_append, List.mem_append, h]
        simp
    · unfold feed1
      split <;> rfl
  | object m =>
    by_cases c : m ∈ found
    · have hk := (h m).mp c
      refine ⟨found, by unfold feed1; rw [if_pos (.inr hk)]; exact h, ?_⟩
      unfold feed1; rw [if_pos (.inr hk)]
      rw [next_obj, if_pos (List.contains_iff_mem.mpr c)]
      rfl
    · have hk : Value.object m ∉ keysOf ps := fun z => c ((h m).mpr z)
      have hx : ¬ ((Value.object m = .nothing) ∨ Value.object m ∈ keysOf ps) := fun z => z.elim (fun z => nomatch z) hk
      refine ⟨m :: found, ?_, ?_⟩
      · unfold feed1
        rw [if_neg hx]
        intro n
        show n ∈ m :: found ↔ Value.object n ∈ (ps ++ [(Value.object m, p)]).map (·.1)
        rw [List.map_append, List.mem_append, List.mem_cons, h, or_comm]
        simp
      · unfold feed1
        rw [if_neg hx]
        rw [next_obj, if_neg (fun z => c (List.contains_iff_mem.mp z))]
        rfl
theorem feed_next {st : State} : ∀ (S : List (List Nat × Value)) (ps : Known) (found : List Nat), (∀ n, n ∈ found ↔ Value.object n ∈ keysOf ps) → (nextPlaces st S found).1 = (feed st S ps).2 ∧ ∀ n, n ∈ (nextPlaces st S found).2 ↔ Value.object n ∈ keysOf (feed st S ps).1
  | [], ps, found, h => ⟨rfl, h⟩
  | s :: S, ps, found, h => by
    obtain ⟨found', h', e⟩ := feed1_next (st := st) h s S
    obtain ⟨h1, h2⟩ := feed_next S (feed1 st ps s).1 found' h'
    rw [e]
    exact ⟨congrArg _ h1, h2⟩
theorem steps_cons (w : Place) (L : List Place) : stepsFrom (w :: L) = stepsFrom [w] ++ stepsFrom L := by
  unfold stepsFrom
  rw [List.flatMap_cons, List.flatMap_cons, List.flatMap_nil, List.append_nil]
theorem level {st : State} {goal : Value} (hg : goal ≠ .nothing) : ∀ (L N : List Place) (ps : Known) (k : Nat), 1 ≤ k → goal ∉ keysOf ps →
    runq st goal (k + L.length) ps (L ++ N) = match (stepsFrom L).find? fun s => s.2 == goal with | some s => some s.1 | none => runq st goal k (feed st (stepsFrom L) ps).1 (N ++ (feed st (stepsFrom L) ps).2)
  | [], N, ps, k, hk, hn => by
    show runq st goal k ps N = runq st goal k ps (N ++ [])
    rw [List.append_nil]
  | w :: L, N, ps, k, hk, hn => by
    rw [List.length_cons, ← Nat.add_assoc]
    have hget := feed_get (st := st) hg (stepsFrom [w]) ps
    rw [getp_none.mpr hn, Option.none_or] at hget
    show (if goal ∈ keysOf ps then _ else runq st goal (k + L.length) (feed st (stepsFrom [w]) ps).1 ((L ++ N) ++ (feed st (stepsFrom [w]) ps).2)) = _
    rw [if_neg hn, steps_cons w L, List.find?_append]
    by_cases c : goal ∈ keysOf (feed st (stepsFrom [w]) ps).1
    · obtain ⟨j, hj⟩ : ∃ j, k + L.length = j + 1 := ⟨k + L.length - 1, by omega⟩
      rw [hj]
      show (if goal ∈ keysOf _ then getp goal _ else _) = _
      rw [if_pos c, hget]
      cases e : (stepsFrom [w]).find? fun s => s.2 == goal with
      | none =>
        rw [e] at hget
        exact absurd c (getp_none.mp hget)
      | some s => rfl
    · have e : ((stepsFrom [w]).find? fun s => s.2 == goal) = none := by
        rw [getp_none.mpr c] at hget
        exact Option.map_eq_none_iff.mp hget.symm
      rw [e, Option.none_or, List.append_assoc, level hg L (N ++ (feed st (stepsFrom [w]) ps).2) _ k hk c]
      rw [feed_app]
      cases (stepsFrom L).find? fun s => s.2 == goal with
      | some s => rfl
      | none =>
        show runq _ _ _ _ _ = runq _ _ _ _ _
        rw [List.append_assoc]
/-- the objects' numbers -/
abbrev nums (st : State) : List Nat := st.objects.map (·.number)
theorem feed1_left {st : State} {ps : Known} {s : List Nat × Value} (h : OkV st s.2) : (feed1 st ps s).2.length + left (nums st) (keysOf (feed1 st ps s).1) ≤ left (nums st) (keysOf ps) := by
  unfold feed1
  split
  · show 0 + left (nums st) (keysOf ps) ≤ left (nums st) (keysOf ps)
    omega
  · rename_i c
    obtain ⟨p, v⟩ := s
    have e : keysOf (ps ++ [(v, p)]) = keysOf ps ++ [v] := List.map_append
    show _ + left (nums st) (keysOf (ps ++ [(v, p)])) ≤ _
    rw [e]
    cases v with
    | nothing => exact absurd (.inl rfl) c
    | foreign n =>
      show 0 + _ ≤ _
      have := left_mono (nums st) (keysOf ps) (.foreign n)
      omega
    | object n =>
      show 1 + _ ≤ _
      have := left_drop (U := nums st) (fun z => c (.inr z) : Value.object n ∉ keysOf ps) (mem_numbers.mpr h)
      omega
theorem feed_left {st : State} : ∀ (S : List (List Nat × Value)) (ps : Known), (∀ s ∈ S, OkV st s.2) → (feed st S ps).2.length + left (nums st) (keysOf (feed st S ps).1) ≤ left (nums st) (keysOf ps)
  | [], ps, _ => by show 0 + _ ≤ _; exact Nat.le_of_eq (Nat.zero_add _)
  | s :: S, ps, h => by
    have h1 := feed1_left (st := st) (ps := ps) (h s List.mem_cons_self)
    have h2 := feed_left S (feed1 st ps s).1 fun t ht => h t (List.mem_cons_of_mem _ ht)
    show ((feed1 st ps s).2 ++ (feed st S (feed1 st ps s).1).2).length + left (nums st) (keysOf (feed st S (feed1 st ps s).1).1) ≤ _
    rw [List.length_append]; omega
def PlOk (st : State) (P : List Place) : Prop := ∀ pl ∈ P, ∀ v ∈ pl.2, OkV st v
theorem feed1_ok {st : State} (hc : Closed st) {ps : Known} {s : List Nat × Value} : PlOk st (feed1 st ps s).2 := by
  unfold feed1
  split
  · intro pl h; cases h
  · obtain ⟨p, v⟩ := s
    intro pl h
    cases v with
    | nothing => cases h
    | foreign n => cases h
    | object n =>
      have : pl = (p, fieldsOf st n) := List.mem_singleton.mp h
      rw [this]; exact hc n
theorem feed_ok {st : State} (hc : Closed st) : ∀ (S : List (List Nat × Value)) (ps : Known), PlOk st (feed st S ps).2
  | [], ps => fun pl h => nomatch h
  | s :: S, ps => fun pl h => (List.mem_append.mp h).elim (feed1_ok hc pl) (feed_ok hc S _ pl)
theorem steps_ok {st : State} {P : List Place} (h : PlOk st P) : ∀ s ∈ stepsFrom P, OkV st s.2 := by
  intro s hs
  obtain ⟨pl, hp, hs⟩ := List.mem_flatMap.mp hs
  obtain ⟨e, he, rfl⟩ := List.mem_map.mp hs
  obtain ⟨_, _, hm⟩ := List.mem_zipIdx he
  refine h pl hp e.1 ?_
  rw [hm]; exact List.getElem_mem _
theorem search_is {st : State} (hc : Closed st) {goal : Value} (hg : goal ≠ .nothing) : ∀ (levels : Nat) (P : List Place) (found : List Nat) (ps : Known) (F : Nat), goal ∉ keysOf ps → (∀ n, n ∈ found ↔ Value.object n ∈ keysOf ps) → PlOk st P →
    left (nums st) (keysOf ps) < levels → P.length + left (nums st) (keysOf ps) < F → searchFrom st goal levels P found = runq st goal F ps P
  | 0, _, _, _, _, _, _, _, h, _ => absurd h (Nat.not_lt_zero _)
  | levels + 1, P, found, ps, F, hn, hf, ok, hl, hF => by
    obtain ⟨k, rfl⟩ : ∃ k, F = k + P.length := ⟨F - P.length, by omega⟩
    have lv := level (st := st) hg P [] ps k (by omega) hn
    rw [List.append_nil, List.nil_append] at lv
    obtain ⟨n1, n2⟩ := feed_next (st := st) (stepsFrom P) ps found hf
    have fl := feed_left (st := st) (stepsFrom P) ps (steps_ok ok)
    rw [lv]
    show (match (stepsFrom P).find? fun s => s.2 == goal with
      | some s => some s.1
      | none => if (nextPlaces st (stepsFrom P) found).1 = [] then none else searchFrom st goal levels (nextPlaces st (stepsFrom P) found).1 (nextPlaces st (stepsFrom P) found).2) = _
    have hget := feed_get (st := st) hg (stepsFrom P) ps
    cases e : (stepsFrom P).find? fun s => s.2 == goal with
    | some s => rfl
    | none =>
      rw [getp_none.mpr hn, e] at hget
      have hn2 := getp_none.mp hget
      show (if (nextPlaces st (stepsFrom P) found).1 = [] then none else _) = _
      rw [n1]
      by_cases c : (feed st (stepsFrom P) ps).2 = []
      · rw [if_pos c, c]
        obtain ⟨j, rfl⟩ : ∃ j, k = j + 1 := ⟨k - 1, by omega⟩
        show none = if goal ∈ keysOf _ then _ else none
        rw [if_neg hn2]
      · rw [if_neg c]
        have : 0 < (feed st (stepsFrom P) ps).2.length := List.length_pos_iff.mpr c
        exact search_is hc hg levels _ _ _ k hn2 n2 (feed_ok hc _ _) (by omega) (by omega)
theorem path_is {st : State} (hc : Closed st) {goal : Value} (hg : goal ≠ .nothing) {vals : List Value} (ok : ∀ v ∈ vals, OkV st v) {F : Nat} (hF : st.objects.length + 1 < F) :
    searchFrom st goal (st.objects.length + 1) [([], vals)] [] = runq st goal F [] [([], vals)] := by
  have l := left_le (nums st) []
  have l2 : (nums st).length = st.objects.length := List.length_map _
  refine search_is hc hg _ _ _ _ _ (fun h => nomatch h) (fun n => ⟨(fun h => nomatch h), fun h => nomatch h⟩) (fun pl h => ?_) ?_ ?_
  · rw [List.mem_singleton.mp h]; exact ok
  · show left (nums st) [] < _
    omega
  · show 1 + left (nums st) [] < _
    omega
theorem feed1_obj {st : State} {ps : Known} {p : List Nat} {n : Nat} (h : Value.object n ∉ keysOf ps) : feed1 st ps (p, .object n) = (ps ++ [(.object n, p)], [(p, fieldsOf st n)]) := if_neg (fun z => (z.elim (fun z => nomatch z) h : False))
theorem feed1_for {st : State} {ps : Known} {p : List Nat} {n : Nat} (h : Value.foreign n ∉ keysOf ps) : feed1 st ps (p, .foreign n) = (ps ++ [(.foreign n, p)], []) := if_neg (fun z => (z.elim (fun z => nomatch z) h : False))
end Sl
namespace Sv
open PySem PySem.Spec PyProof.Rows L2
/-! ## the search, in the heap -/
def KnAt (H : Hp) (kv : List L2.Key × V) (e : Val × List Nat) : Prop := kv.1 = pk (vp e.1) ∧ ∃ a, kv.2 = .ref a ∧ H a = some (.lst (intsV e.2))
def WyAt (H : Hp) (x : V) (pl : Vbxlaf.Place) : Prop := ∃ t a b ys, x = .ref t ∧ H t = some (.tup [.ref a, .ref b]) ∧ H a = some (.lst (intsV pl.1)) ∧ H b = some (.lst ys) ∧ VRs H ys pl.2
theorem KnAt.keep {H H' : Hp} {kv : List L2.Key × V} {e : Val × List Nat} (h : KnAt H kv e) (s : Same H H') : KnAt H' kv e := by
  obtain ⟨e1, a, e2, h1⟩ := h
  exact ⟨e1, a, e2, s _ _ h1⟩
theorem WyAt.keep {H H' : Hp} {x : V} {pl : Vbxlaf.Place} (h : WyAt H x pl) (s : Same H H') : WyAt H' x pl := by
  obtain ⟨t, a, b, ys, e, h1, h2, h3, h4⟩ := h
  exact ⟨t, a, b, ys, e, s _ _ h1, s _ _ h2, s _ _ h3, VRs.keep h4 (.of_same s)⟩
theorem kn_get {H : Hp} (v : Val) : ∀ {kvs : List (List L2.Key × V)} {ps : Sl.Known}, Paired (KnAt H) kvs ps → (Sl.getp v ps = none ∧ valV kvs (pk (vp v)) = none) ∨ ∃ p a, Sl.getp v ps = some p ∧ valV kvs (pk (vp v)) = some (.ref a) ∧ H a = some (.lst (intsV p)) ∧ (v, p) ∈ ps
  | _, _, .nil => .inl ⟨rfl, rfl⟩
  | kv :: kvs, e :: ps, .cons r t => by
    obtain ⟨e1, a, e2, h1⟩ := r
    obtain ⟨u, p⟩ := e
    by_cases c : u = v
    · subst c
      refine .inr ⟨p, a, ?_, ?_, h1, List.mem_cons_self⟩
      · unfold Sl.getp; rw [List.find?_cons, decide_eq_true rfl]; rfl
      · rw [valV_pos e1, e2]
    · have g : Sl.getp v ((u, p) :: ps) = Sl.getp v ps := by unfold Sl.getp; rw [List.find?_cons, decide_eq_false c]
      have w : valV (kv :: kvs) (pk (vp v)) = valV kvs (pk (vp v)) := valV_neg (by rw [e1]; exact fun z => c (vp_inj (pk_inj z)))
      rw [g, w]
      rcases kn_get v t with h | ⟨p', a', h1, h2, h3, h4⟩
      · exact .inl h
      · exact .inr ⟨p', a', h1, h2, h3, List.mem_cons_of_mem _ h4⟩
theorem kn_keys {H : Hp} : ∀ {kvs : List (List L2.Key × V)} {ps : Sl.Known}, Paired (KnAt H) kvs ps → kvs.map (·.1) = (Sl.keysOf ps).map fun v => pk (vp v)
  | _, _, .nil => rfl
  | _, _, .cons r t => by
    have := kn_keys t
    rw [List.map_cons, r.1, this]; rfl
structure PIn (st : St0) (dp wl : Addr) (H0 H : Hp) (kvs : List (List L2.Key × V)) (ws : List V) (ps : Sl.Known) (al : List Vbxlaf.Place) (j : Nat) : Prop where
  s : Same H0 (off [dp, wl] H)
  hd : H dp = some (.dT kvs)
  hw : H wl = some (.lst ws)
  kn : Paired (KnAt (off [dp, wl] H)) kvs ps
  wy : Paired (WyAt (off [dp, wl] H)) ws al
  nd : (Sl.keysOf ps).Nodup
  ok : ∀ e ∈ ps, VOk st e.1 ∧ e.1 ≠ .nothing ∧ e.2.length ≤ j
  pl : ∀ p ∈ al, p.1.length ≤ j ∧ p.2.length ≤ 6 ∧ ∀ v ∈ p.2, VOk st v
  ct : al.length + Sl.left (Sl.nums st) (Sl.keysOf ps) ≤ 41
section
variable {st : St0} {dp wl : Addr} {H0 H : Hp} {kvs : List (List L2.Key × V)} {ws : List V} {ps : Sl.Known} {al : List Vbxlaf.Place} {j : Nat}
theorem PIn.ne (I : PIn st dp wl H0 H kvs ws ps al j) : dp ≠ wl := fun e => by
  have := I.hd
  rw [e, I.hw] at this; cases this
theorem PIn.known (I : PIn st dp wl H0 H kvs ws ps al j) (W : Wf st) : kvs.length ≤ 60 := by
  rw [Paired.length I.kn]
  have := Sl.few_names (l := (Sl.keysOf ps).map vp) ?_ fun p hp => ?_
  · rwa [List.length_map, List.length_map] at this
  · exact List.pairwise_map.mpr (I.nd.imp fun {a b} q e => q (vp_inj e))
  · obtain ⟨v, hv, rfl⟩ := List.mem_map.mp hp
    obtain ⟨e, he, rfl⟩ := List.mem_map.mp hv
    obtain ⟨h1, h2, _⟩ := I.ok e he
    exact vok_low W h1 h2
theorem PIn.waits (I : PIn st dp wl H0 H kvs ws ps al j) : ws.length ≤ 41 := by
  rw [Paired.length I.wy]
  have := I.ct
  omega
/-- something new stands elsewhere -/
theorem PIn.grow {H' : Hp} (I : PIn st dp wl H0 H kvs ws ps al j) (s : Same H H') : PIn st dp wl H0 H' kvs ws ps al j :=
  { I with
    s := I.s.trans (Fr.offs s)
    hd := s _ _ I.hd
    hw := s _ _ I.hw
    kn := Paired.mapP I.kn fun _ _ q => q.keep (Fr.offs s)
    wy := Paired.mapP I.wy fun _ _ q => q.keep (Fr.offs s) }
theorem off_upd {F : List Addr} {H : Hp} {a : Addr} {o : HO} (h : a ∈ F) : off F (upd H a o) = off F H := by
  funext b
  unfold off
  by_cases c : b ∈ F
  · rw [if_pos c, if_pos c]
  · rw [if_neg c, if_neg c, upd_ne (fun z => c (by rw [z]; exact h))]
theorem PIn.addK (I : PIn st dp wl H0 H kvs ws ps al j) {v : Val} {p : List Nat} {r : Addr} (hv : v ∉ Sl.keysOf ps) (h0 : v ≠ .nothing) (vo : VOk st v) (hp : p.length ≤ j) (hr : off [dp, wl] H r = some (.lst (intsV p))) :
    PIn st dp wl H0 (upd H dp (.dT (putK kvs (pk (vp v)) (.ref r)))) (putK kvs (pk (vp v)) (.ref r)) ws (ps ++ [(v, p)]) al j := by
  have e : off [dp, wl] (upd H dp (.dT (putK kvs (pk (vp v)) (.ref r)))) = off [dp, wl] H := off_upd List.mem_cons_self
  have ek : Sl.keysOf (ps ++ [(v, p)]) = Sl.keysOf ps ++ [v] := List.map_append
  have nk : pk (vp v) ∉ kvs.map (·.1) := by
    rw [kn_keys I.kn]
    intro m
    obtain ⟨u, hu, q⟩ := List.mem_map.mp m
    exact hv (vp_inj (pk_inj q) ▸ hu)
  have pl := put_last (v := V.ref r) nk
  exact {
    s := by rw [e]; exact I.s
    hd := upd_same
    hw := by rw [upd_ne I.ne.symm]; exact I.hw
    kn := by
      rw [e, pl]
      exact paired_app I.kn (.cons ⟨rfl, r, rfl, hr⟩ .nil)
    wy := by rw [e]; exact I.wy
    nd := by
      rw [ek, List.nodup_append]
      exact ⟨I.nd, List.nodup_cons.mpr ⟨List.not_mem_nil, List.nodup_nil⟩, fun a ha b hb => by rw [List.mem_singleton.mp hb]; exact fun z => hv (z ▸ ha)⟩
    ok := fun e he => by
      rcases List.mem_append.mp he with h | h
      · exact I.ok e h
      · rw [List.mem_singleton.mp h]; exact ⟨vo, h0, hp⟩
    pl := I.pl
    ct := by
      have := I.ct
      have := Sl.left_mono (Sl.nums st) (Sl.keysOf ps) v
      rw [ek]; omega }
theorem PIn.addW (I : PIn st dp wl H0 H kvs ws ps al j) {x : V} {q : Vbxlaf.Place} (hx : WyAt (off [dp, wl] H) x q) (h1 : q.1.length ≤ j) (h2 : q.2.length ≤ 6) (h3 : ∀ v ∈ q.2, VOk st v) (hc : al.length + 1 + Sl.left (Sl.nums st) (Sl.keysOf ps) ≤ 41) :
    PIn st dp wl H0 (upd H wl (.lst (ws ++ [x]))) kvs (ws ++ [x]) ps (al ++ [q]) j := by
  have e : off [dp, wl] (upd H wl (.lst (ws ++ [x]))) = off [dp, wl] H := off_upd (List.mem_cons_of_mem _ List.mem_cons_self)
  exact {
    s := by rw [e]; exact I.s
    hd := by rw [upd_ne I.ne]; exact I.hd
    hw := upd_same
    kn := by rw [e]; exact I.kn
    wy := by rw [e]; exact paired_app I.wy (.cons hx .nil)
    nd := I.nd
    ok := I.ok
    pl := fun p hp => by
      rcases List.mem_append.mp hp with h | h
      · exact I.pl p h
      · rw [List.mem_singleton.mp h]; exact ⟨h1, h2, h3⟩
    ct := by rw [List.length_append, List.length_singleton]; exact hc }
theorem PIn.fresh (I : PIn st dp wl H0 H kvs ws ps al j) {r : Addr} (h : H r = none) : r ∉ [dp, wl] := fun m => by
  rcases List.mem_cons.mp m with z | m
  · rw [z, I.hd] at h; cases h
  · rw [List.mem_singleton.mp m, I.hw] at h; cases h
end
section
variable {P : Program} {w : World} {K : PySem.W.Frag} {mg : Str → Option Value} {base : Heap} {CG CL CS : Addr}
/-! ### first_path -/
def spPath (CG : Addr) : Sp := fun vs H Q _ => ∃ (A : Gr) (st : St0) (l : Addr) (x : V) (xs : List V) (vals : List Val) (goal : Val), vs = [.ref A.g, .ref l, x] ∧ GInv CG H A st ∧ Wf st ∧ H l = some (.lst xs) ∧ VRs H xs vals ∧ (∀ v ∈ vals, VOk st v) ∧ vals.length ≤ 6 ∧ goal ≠ .nothing ∧ VR H x goal ∧
  ∀ H' y, Same H H' → (match Vbxlaf.searchFrom st goal (st.objects.length + 1) [([], vals)] [] with | none => y = .non | some path => ∃ a, y = .ref a ∧ H' a = some (.lst (intsV path)) ∧ path.length ≤ 50) → Q y H'
theorem scPath : FnScope ["graph", "values", "goal", "paths", "waiting", "place", "way", "index", "value"] ["graph", "values", "goal"] (defScope (top 28)) := ⟨rfl, rfl, rfl, by decide +kernel, rfl, by decide +kernel, by decide +kernel⟩
theorem ok_path {f : Addr} {fd : FuncData} (F : Fun K "first_path" "first_path" (top 28) f fd) (T : Txt K mg CG CL CS) : FnOk P w K mg base CX0 1 f fd ["graph", "values", "goal"] (spPath CG) := by
  refine F.ok scPath (fun vs H Q E h => ?_) (fun cdv A0 outer s H vs Q E hr h => ?_)
  · obtain ⟨A, st, l, x, xs, vals, goal, rfl, _⟩ := h
    rfl
  · obtain ⟨A, st, l, x, xs, vals, goal, rfl, I, W, hl, hxs, ok, hlen, hg, ⟨gb, rfl, hgb⟩, k⟩ := h
    have hu := hu_of hr
    refine ⟨_, pss_cons (ps_set (i := 3) scPath.nd rfl (.inl rfl) pe_dnewT) (pss_cons (ps_set (i := 4) scPath.nd rfl (.inl rfl) (pe_lst (pa_cons (pe_tup (pa_cons (pe_lst pa_nil) (pa_cons (pv 1) pa_nil))) pa_nil)))
      (pss_cons (ps_set (i := 5) scPath.nd rfl (.inl rfl) pe_int)
      (pss_cons (ps_while PassesOwn.never (PW.pt (pw_and (pt_cmpR op_lt (pv 5) (pe_callB call_len_seq (by rfl) T.bLen PySem.boot_len (pa_cons (pv 4) pa_nil)) (nomark _)) (pw_and1 (pt_cmp (pc_dnotin hu (pv 2) (pv 3))))))
        (pss_cons (ps_set (i := 6) scPath.nd rfl (.inl rfl) (pe_ix ix_list (pv 4) (pv 5) (fun _ _ => rfl)))
        (pss_cons (ps_aug (i := 5) scPath.nd rfl (.inl rfl) pe_int in_add)
        (pss_one (ps_for PassesOwn.never rfl (pi_enum (by rfl) T.bEnum (pa_cons (pe_ix ix_tup (pv 6) pe_int (fun _ _ => rfl)) pa_nil)) (pg_tup (n := 2) rfl (pgs_cons (pg_name (i := 7) scPath.nd rfl (Or.inl rfl)) (pgs_cons (pg_name (i := 8) scPath.nd rfl (Or.inl rfl)) pgs_nil)))
          (pss_cons (ps_if (PW.pt (pw_or (pt_cmpR op_eq (pe_ix ix_tup (pv 8) pe_int (fun _ _ => rfl)) (pe_num T.nN) (nomark _)) (pw_or1 (pt_cmp (pc_din hu (pv 8) (pv 3)))))) (pss_one ps_continue) pss_nil)
          (pss_cons (ps_dput hu (pv 3) (pv 8) (pe_op op_cat (pe_ix ix_tup (pv 6) pe_int (fun _ _ => rfl)) (pe_lst (pa_cons (pv 7) pa_nil))) rfl)
          (pss_one (ps_if (pt_cmpR op_eq (pe_ix ix_tup (pv 8) pe_int (fun _ _ => rfl)) (pe_num T.nO) (nomark _))
            (pss_one (ps_expr (pe_bm PySem.F.plainAttrs_list PySem.F.slot_list_append PySem.F.type_list_append mt_append (pv 4) (pa_cons (pe_tup (pa_cons (pe_dget hu (pv 3) (pv 8) (fun _ _ => rfl)) (pa_cons (pe_dget hu (pe_fld (pv 0) rfl) (pe_ix ix_tup (pv 8) pe_int (fun _ _ => rfl)) (fun _ _ => rfl)) pa_nil))) pa_nil)))) pss_nil)))))))))
      (pss_one (ps_ret (pe_dget1 hu (pv 3) (pv 2) ⟨rfl, rfl, rfl, rfl⟩)))))), ?_⟩
    intro dp hdp
    refine ⟨Nat.zero_le _, fun e0 he0 => ⟨_, rfl, (by show 2 ≤ sizeLine; decide), fun t0 ht0 => ⟨(by show 1 ≤ sizeLine; decide), fun wl hwl => ?_⟩⟩⟩
    have ld : l ≠ dp := ne_of_none hl hdp
    have e0d : e0 ≠ dp := (upd_free he0).1
    have s1 : Same H (upd (upd (upd (upd H dp (.dT [])) e0 (.lst [])) t0 (.tup [.ref e0, .ref l])) wl (.lst [.ref t0])) := (((Same.fresh hdp).trans (Same.fresh he0)).trans (Same.fresh ht0)).trans (Same.fresh hwl)
    obtain ⟨wt, hwl⟩ := upd_free hwl
    obtain ⟨we, hwl⟩ := upd_free hwl
    obtain ⟨wd, hwl⟩ := upd_free hwl
    obtain ⟨te, ht0⟩ := upd_free ht0
    obtain ⟨td, ht0⟩ := upd_free ht0
    obtain ⟨_, he0⟩ := upd_free he0
    have h1d : upd (upd (upd (upd H dp (.dT [])) e0 (.lst [])) t0 (.tup [.ref e0, .ref l])) wl (.lst [.ref t0]) dp = some (.dT []) := by rw [upd_ne wd.symm, upd_ne td.symm, upd_ne e0d.symm, upd_same]
    have h1w : upd (upd (upd (upd H dp (.dT [])) e0 (.lst [])) t0 (.tup [.ref e0, .ref l])) wl (.lst [.ref t0]) wl = some (.lst [.ref t0]) := upd_same
    have h1t : upd (upd (upd (upd H dp (.dT [])) e0 (.lst [])) t0 (.tup [.ref e0, .ref l])) wl (.lst [.ref t0]) t0 = some (.tup [.ref e0, .ref l]) := by rw [upd_ne wt.symm, upd_same]
    have h1e : upd (upd (upd (upd H dp (.dT [])) e0 (.lst [])) t0 (.tup [.ref e0, .ref l])) wl (.lst [.ref t0]) e0 = some (.lst []) := by rw [upd_ne we.symm, upd_ne te.symm, upd_same]
    generalize upd (upd (upd (upd H dp (.dT [])) e0 (.lst [])) t0 (.tup [.ref e0, .ref l])) wl (.lst [.ref t0]) = H1 at s1 h1d h1w h1t h1e ⊢
    have no : ∀ b o, H b = some o → b ∉ [dp, wl] := fun b o e m => by
      rcases List.mem_cons.mp m with z | m
      · rw [z, hdp] at e; cases e
      · rw [List.mem_singleton.mp m, hwl] at e; cases e
    have so : Same H (off [dp, wl] H1) := fun b o e => off_some.mpr ⟨no b o e, s1 b o e⟩
    have PI0 : PIn st dp wl H H1 [] [.ref t0] [] [([], vals)] 0 := {
      s := so
      hd := h1d
      hw := h1w
      kn := .nil
      wy := .cons ⟨t0, e0, l, xs, rfl, off_some.mpr ⟨by simp [td, wt.symm], h1t⟩, off_some.mpr ⟨by simp [e0d, we.symm], h1e⟩, so _ _ hl, VRs.keep hxs (.of_same so)⟩ .nil
      nd := List.nodup_nil
      ok := fun e h => nomatch h
      pl := fun p hp => by rw [List.mem_singleton.mp hp]; exact ⟨Nat.le_refl _, hlen, ok⟩
      ct := by
        have h1 := Sl.left_le (Sl.nums st) []
        have h2 : (Sl.nums st).length = st.objects.length := List.length_map _
        have h3 := W.nums
        show 1 + Sl.left (Sl.nums st) [] ≤ 41
        omega }
    have l0 : 1 + Sl.left (Sl.nums st) [] < st.objects.length + 2 := by
      have h1 := Sl.left_le (Sl.nums st) []
      have h2 : (Sl.nums st).length = st.objects.length := List.length_map _
      omega
    have run0 := Sl.path_is W.closed hg (fun v hv => (ok v hv).ok) (F := st.objects.length + 2) (by omega)
    rw [run0] at k
    generalize hans : Sl.runq st goal (st.objects.length + 2) [] [([], vals)] = ans at k run0
    refine ⟨fun m σ H' => ∃ (kvs : List (List L2.Key × V)) (ws : List V) (ps : Sl.Known) (al : List Vbxlaf.Place) (j : Nat) (v6 v7 v8 : Option V), σ = [some (.ref A.g), some (.ref l), some (.ref gb), some (.ref dp), some (.ref wl), some (.int (j : Int)), v6, v7, v8] ∧ PIn st dp wl H H' kvs ws ps al j ∧ j ≤ al.length ∧
      m = (al.drop j).length + Sl.left (Sl.nums st) (Sl.keysOf ps) ∧ ∃ F, m < F ∧ Sl.runq st goal F ps (al.drop j) = ans, ⟨_, [], [.ref t0], [], [([], vals)], 0, none, none, none, rfl, PI0, Nat.zero_le _, rfl, _, l0, ?_⟩, ?_⟩
    · exact hans
    rintro m σ H' ⟨kvs, ws, ps, al, j, v6, v7, v8, rfl, PI, hj, hm, F, hF, hrun⟩
    have hgb' := (off_some.mp (PI.s _ _ hgb)).2
    have fin : Sl.getp goal ps = ans → tRet (tDGet1 (tVar 3) (tVar 2)) { nx := fun _ H' => Q .non H', rt := Q } [some (.ref A.g), some (.ref l), some (.ref gb), some (.ref dp), some (.ref wl), some (.int (j : Int)), v6, v7, v8] H' := by
      intro e
      refine ⟨_, rfl, dp, rfl, .inr ⟨_, .inl PI.hd⟩, _, rfl, _, DGet.t (k := pk (vp goal)) PI.hd hgb', ?_⟩
      refine k _ _ (fun b o e => (off_some.mp (PI.s b o e)).2) ?_
      rw [← e]
      rcases kn_get goal PI.kn with ⟨h1, h2⟩ | ⟨p, a, h1, h2, h3, h4⟩
      · rw [h1, h2]; rfl
      · rw [h1, h2]
        have : p.length ≤ j := (PI.ok _ h4).2.2
        have := PI.ct
        exact ⟨a, rfl, (off_some.mp h3).2, by omega⟩
    have wlen := Paired.length PI.wy
    obtain ⟨F', rfl⟩ : ∃ F', F = F' + 1 := ⟨F - 1, by omega⟩
    refine ⟨_, rfl, _, rfl, wl, _, rfl, .inl (SqL.of PI.hw), _, _, rfl, rfl, _, rfl, ?_⟩
    by_cases c1 : j < al.length
    · rw [decide_eq_true (by omega)]
      refine iteT ⟨_, rfl, _, rfl, dp, _, rfl, DGet.t (k := pk (vp goal)) PI.hd hgb', _, rfl, ?_⟩
      rcases kn_get goal PI.kn with ⟨h1, h2⟩ | ⟨p, a, h1, h2, h3, h4⟩
      · rw [h2]
        refine iteT ?_
        have hnk := Sl.getp_none.mp h1
        obtain ⟨x, hx, t, a, b, ys, rfl, ht, ha, hb, hys⟩ := paired_at PI.wy (List.getElem?_eq_getElem c1)
        have hpl := PI.pl _ (List.getElem_mem c1)
        have hal : al[j]? = some al[j] := List.getElem?_eq_getElem c1
        generalize al[j] = pl at ha hys hpl hal
        have ed : al.drop j = pl :: al.drop (j + 1) := by
          obtain ⟨_, e⟩ := List.getElem?_eq_some_iff.mp hal
          rw [← e]; exact List.drop_eq_getElem_cons c1
        rw [ed] at hrun hm
        have hrun : Sl.runq st goal F' (Sl.feed st (Vbxlaf.stepsFrom [pl]) ps).1 (al.drop (j + 1) ++ (Sl.feed st (Vbxlaf.stepsFrom [pl]) ps).2) = ans := by
          rw [← hrun]; exact (if_neg hnk).symm
        refine ⟨fun σ1 H1 => ∃ m', m' < m ∧ ∃ (kvs : List (List L2.Key × V)) (ws : List V) (ps : Sl.Known) (al : List Vbxlaf.Place) (j : Nat) (v6 v7 v8 : Option V), σ1 = [some (.ref A.g), some (.ref l), some (.ref gb), some (.ref dp), some (.ref wl), some (.int (j : Int)), v6, v7, v8] ∧ PIn st dp wl H H1 kvs ws ps al j ∧ j ≤ al.length ∧
          m' = (al.drop j).length + Sl.left (Sl.nums st) (Sl.keysOf ps) ∧ ∃ F, m' < F ∧ Sl.runq st goal F ps (al.drop j) = ans, fun _ _ z => z, ?_⟩
        refine ⟨_, rfl, _, rfl, wl, ws, (j : Int), .ref t, rfl, rfl, SqL.of PI.hw, atI_nat hx, ?_⟩
        refine ⟨_, rfl, _, _, rfl, rfl, ?_⟩
        have hb' := (off_some.mp hb).2
        refine ⟨_, rfl, t, _, _, _, rfl, rfl, SqT.of (off_some.mp ht).2, atI_nat (j := 1) rfl, b, ys, rfl, SqL.of hb', ?_⟩
        -- the base of the inner walk
        have PIb : PIn st dp wl (off [dp, wl] H') H' kvs ws ps al (j + 1) := { PI with
          s := Same.refl _
          ok := fun e he => ⟨(PI.ok e he).1, (PI.ok e he).2.1, Nat.le_succ_of_le (PI.ok e he).2.2⟩
          pl := fun p hp => ⟨Nat.le_succ_of_le (PI.pl p hp).1, (PI.pl p hp).2⟩ }
        have hS : ∀ (i : Nat) (v : Val), pl.2[i]? = some v → (Vbxlaf.stepsFrom [pl])[i]? = some (pl.1 ++ [i], v) := fun i v hv => by
          unfold Vbxlaf.stepsFrom
          rw [List.flatMap_cons, List.flatMap_nil, List.append_nil, List.getElem?_map, List.getElem?_zipIdx, hv]
          show some (pl.1 ++ [0 + i], v) = _
          rw [Nat.zero_add]
        have hSl : (Vbxlaf.stepsFrom [pl]).length = pl.2.length := by
          unfold Vbxlaf.stepsFrom
          rw [List.flatMap_cons, List.flatMap_nil, List.append_nil, List.length_map, List.length_zipIdx]
        have yl := VRs.length hys
        refine for_it (walk_enum (K := K) (a := b) (xs := ys)) (fun i σ1 H1 => ∃ (kvs1 : List (List L2.Key × V)) (ws1 : List V) (v7 v8 : Option V), σ1 = [some (.ref A.g), some (.ref l), some (.ref gb), some (.ref dp), some (.ref wl), some (.int ((j : Int) + 1)), some (.ref t), v7, v8] ∧
            PIn st dp wl (off [dp, wl] H') H1 kvs1 ws1 (Sl.feed st ((Vbxlaf.stepsFrom [pl]).take i) ps).1 (al ++ (Sl.feed st ((Vbxlaf.stepsFrom [pl]).take i) ps).2) (j + 1))
          ⟨kvs, ws, v7, v8, rfl, by
            show PIn st dp wl (off [dp, wl] H') H' kvs ws ps (al ++ []) (j + 1)
            rw [List.append_nil]; exact PIb⟩ (fun i σ1 H1 _ ⟨_, _, _, _, _, q⟩ => SqL.of (off_some.mp (q.s _ _ hb)).2) ?_ ?_
        · rintro i x σ1 H1 H2 hi ⟨kvs1, ws1, v7, v8, rfl, PJ⟩ ⟨T0, x0, y0, rfl, hT0, rfl, ex, hy⟩
          cases ex
          obtain ⟨v, hv, c, rfl, hc⟩ := paired_get hys hy
          have hs := hS i v hv
          have tk := take_snoc hs
          have PK := PJ.grow (Same.fresh (o := .tup [.int (i : Nat), .ref c]) hT0)
          have fa := Sl.feed_app st ((Vbxlaf.stepsFrom [pl]).take i) [(pl.1 ++ [i], v)] ps
          have e1 : Sl.feed st [(pl.1 ++ [i], v)] (Sl.feed st ((Vbxlaf.stepsFrom [pl]).take i) ps).1 = Sl.feed1 st (Sl.feed st ((Vbxlaf.stepsFrom [pl]).take i) ps).1 (pl.1 ++ [i], v) := by
            show (_, _ ++ []) = _
            rw [List.append_nil]; rfl
          rw [← tk, e1] at fa
          refine ⟨T0, _, rfl, SqT.of upd_same, rfl, ?_⟩
          rw [fa]
          rw [← List.append_assoc]
          generalize (Sl.feed st ((Vbxlaf.stepsFrom [pl]).take i) ps).1 = psi at PK ⊢
          generalize al ++ (Sl.feed st ((Vbxlaf.stepsFrom [pl]).take i) ps).2 = ali at PK ⊢
          generalize upd H1 T0 (.tup [.int (i : Nat), .ref c]) = H2 at PK ⊢
          have hc2 := PK.s _ _ hc
          have hc2' := (off_some.mp hc2).2
          have ht2 := (off_some.mp (PK.s _ _ ht)).2
          have vok := hpl.2.2 v (List.mem_of_getElem? hv)
          have ilt : i < 6 := by have := (List.getElem?_eq_some_iff.mp hv).1; omega
          have skip : (v = .nothing ∨ v ∈ Sl.keysOf psi) → ∃ (kvs1 : List (List L2.Key × V)) (ws1 : List V) (v7 v8 : Option V), ([some (.ref A.g), some (.ref l), some (.ref gb), some (.ref dp), some (.ref wl), some (.int ((j : Int) + 1)), some (.ref t), some (.int (i : Nat)), some (.ref c)] : L2.St) = [some (.ref A.g), some (.ref l), some (.ref gb), some (.ref dp), some (.ref wl), some (.int ((j : Int) + 1)), some (.ref t), v7, v8] ∧
              PIn st dp wl (off [dp, wl] H') H2 kvs1 ws1 (Sl.feed1 st psi (pl.1 ++ [i], v)).1 (ali ++ (Sl.feed1 st psi (pl.1 ++ [i], v)).2) (j + 1) := fun h => by
            have : Sl.feed1 st psi (pl.1 ++ [i], v) = (psi, []) := if_pos h
            rw [this, List.append_nil]
            exact ⟨kvs1, ws1, _, _, rfl, PK⟩
          refine ⟨_, _, rfl, _, _, rfl, rfl, ?_⟩
          refine ⟨_, rfl, c, _, _, _, rfl, rfl, SqT.of hc2', atI_nat (j := 0) rfl, rfl, _, rfl, ?_⟩
          rw [dec_int]
          have next : ∀ (b : Bool) (X Y : Prop), (b = true → X) → (b = false → Y) → if b = true then X else Y := fun b X Y h1 h2 => by cases b; exact iteF (h2 rfl); exact iteT (h1 rfl)
          refine next _ _ _ (fun c1 => ?_) (fun c1 => ?_)
          · have c1 : (vp v).1 = 0 := of_decide_eq_true c1
            have : v = .nothing := by cases v with
              | nothing => rfl
              | object n => exact absurd c1 (by show ¬ (1 : Int) = 0; decide)
              | foreign n => exact absurd c1 (by show ¬ (2 : Int) = 0; decide)
            exact iteT (skip (.inl this))
          · have c1 : ¬ (vp v).1 = 0 := of_decide_eq_false c1
            have vn : v ≠ .nothing := fun e => c1 (by rw [e]; rfl)
            refine ⟨_, rfl, _, rfl, dp, _, rfl, DGet.t (k := pk (vp v)) PK.hd hc2', ?_⟩
            rcases kn_get v PK.kn with ⟨g1, g2⟩ | ⟨p', a', g1, g2, g3, g4⟩
            · rw [g2]
              refine ⟨_, rfl, iteF ?_⟩
              have vk := Sl.getp_none.mp g1
              -- paths[value] = way[0] + [index]
              have plen : (pl.1 ++ [i]).length ≤ j + 1 := by rw [List.length_append, List.length_singleton]; exact Nat.succ_le_succ hpl.1
              refine ⟨_, rfl, t, _, _, _, rfl, rfl, SqT.of ht2, atI_nat (j := 0) rfl, _, rfl, (by show 1 ≤ sizeLine; decide), fun q1 hq1 => ?_⟩
              have ha2 := (off_some.mp (PK.s _ _ ha)).2
              have P1 := PK.grow (Same.fresh (o := .lst [V.int (i : Nat)]) hq1)
              have q1s : upd H2 q1 (.lst [V.int (i : Nat)]) q1 = some (.lst [V.int (i : Nat)]) := upd_same
              have ha3 : upd H2 q1 (.lst [V.int (i : Nat)]) a = some (.lst (intsV pl.1)) := by rw [upd_ne (ne_of_none ha2 hq1)]; exact ha2
              generalize upd H2 q1 (.lst [V.int (i : Nat)]) = H3 at P1 q1s ha3 ⊢
              have jl : j ≤ 41 := by have := PI.ct; omega
              refine ⟨a, q1, _, _, rfl, rfl, ha3, q1s, (by rw [List.length_map, List.length_singleton, sizeLine_eq]; have := hpl.1; omega), fun r hr0 => ?_⟩
              rw [← ints_snoc]
              have P2 := P1.grow (Same.fresh (o := .lst (intsV (pl.1 ++ [i]))) hr0)
              have rF := P1.fresh hr0
              have r2 : upd H3 r (.lst (intsV (pl.1 ++ [i]))) r = some (.lst (intsV (pl.1 ++ [i]))) := upd_same
              generalize upd H3 r (.lst (intsV (pl.1 ++ [i]))) = H4 at P2 r2 ⊢
              have hc4 := (off_some.mp (P2.s _ _ hc)).2
              have P3 := P2.addK vk vn vok plen (off_some.mpr ⟨rF, r2⟩)
              refine ⟨_, rfl, _, rfl, dp, _, rfl, DPut.t (k := pk (vp v)) P2.hd hc4 (small1000 (by have := P2.known W; omega)), ?_⟩
              have g5 : valV (putK kvs1 (pk (vp v)) (.ref r)) (pk (vp v)) = some (.ref r) := by rw [valV_put, if_pos rfl]
              have h5 : ∀ b' o', H4 b' = some o' → b' ≠ dp → upd H4 dp (.dT (putK kvs1 (pk (vp v)) (.ref r))) b' = some o' := fun b' o' e n => by rw [upd_ne n]; exact e
              generalize upd H4 dp (.dT (putK kvs1 (pk (vp v)) (.ref r))) = H5 at P3 h5 ⊢
              have hc5 := (off_some.mp (P3.s _ _ hc)).2
              refine ⟨_, rfl, c, _, _, _, rfl, rfl, SqT.of hc5, atI_nat (j := 0) rfl, rfl, _, rfl, ?_⟩
              rw [dec_int]
              cases v with
              | nothing => exact absurd rfl vn
              | foreign n =>
                refine iteF ?_
                rw [Sl.feed1_for vk]
                have P3' : PIn st dp wl (off [dp, wl] H') H5 (putK kvs1 (pk (vp (.foreign n))) (.ref r)) ws1 (psi ++ [(.foreign n, pl.1 ++ [i])]) (ali ++ []) (j + 1) := by
                  rw [List.append_nil]; exact P3
                exact ⟨_, _, _, _, rfl, P3'⟩
              | object n =>
                obtain ⟨o, ho, rfl⟩ := exists_mem vok
                have ff := fieldsOf_mem W ho
                have exo : (decide (0 ≤ (o.number : Int)) && Vbxlaf.exists_ st ((o.number : Int).toNat)) = true := by
                  simp only [Int.toNat_natCast, Bool.and_eq_true, decide_eq_true_eq]
                  exact ⟨by omega, List.any_eq_true.mpr ⟨o, ho, beq_self_eq_true _⟩⟩
                have gv : valV (fkv A st) (Sum.inl (o.number : Int)) = some (.ref (A.fa o.number)) := by
                  rw [valV_fkv W, if_pos exo, Int.toNat_natCast]
                obtain ⟨zs, hzs, rz⟩ := I.fl o ho
                have s5 : Same H H5 := fun b' o' e => (off_some.mp (P3.s _ _ (PI.s _ _ e))).2
                refine iteT ⟨_, rfl, .inl ⟨rfl, _, SqL.of P3.hw⟩, _, rfl, _, rfl, dp, _, rfl, (by rw [← g5]; exact DGet.t (k := pk (vp (.object o.number))) P3.hd hc5), _, rfl, A.g, CG, A.gx, _, _, rfl, s5 _ _ I.ob, T.cG, T.aG _ (ixG _ kG_fields), gk_get A _ _ _ kG_fields rfl, _, rfl, c, _, _, _, rfl, rfl, SqT.of hc5, atI_nat (j := 1) rfl, A.fd, _, rfl,
                  (by rw [← gv]; exact DGet.k (k := Sum.inl (o.number : Int)) (s5 _ _ I.fd)), (by show 2 ≤ sizeLine; decide), fun t1 ht1 => ?_⟩
                have P4 := P3.grow (Same.fresh (o := .tup [.ref r, .ref (A.fa o.number)]) ht1)
                have t1F := P3.fresh ht1
                have t2 : upd H5 t1 (.tup [.ref r, .ref (A.fa o.number)]) t1 = some (.tup [.ref r, .ref (A.fa o.number)]) := upd_same
                have r5 : H5 r = some (.lst (intsV (pl.1 ++ [i]))) := h5 _ _ r2 (fun z => rF (z ▸ List.mem_cons_self))
                have r6 : upd H5 t1 (.tup [.ref r, .ref (A.fa o.number)]) r = some (.lst (intsV (pl.1 ++ [i]))) := by rw [upd_ne (ne_of_none r5 ht1)]; exact r5
                have f6 : upd H5 t1 (.tup [.ref r, .ref (A.fa o.number)]) (A.fa o.number) = some (.lst zs) := by rw [upd_ne (ne_of_none (s5 _ _ hzs) ht1)]; exact s5 _ _ hzs
                have so6 : Same H (off [dp, wl] (upd H5 t1 (.tup [.ref r, .ref (A.fa o.number)]))) := fun b' o' e => P4.s _ _ (PI.s _ _ e)
                generalize upd H5 t1 (.tup [.ref r, .ref (A.fa o.number)]) = H6 at P4 t2 r6 f6 so6 ⊢
                refine ⟨wl, ws1, _, rfl, rfl, P4.hw, small1000 (by have := P4.waits; omega), ?_⟩
                rw [Sl.feed1_obj vk]
                refine ⟨_, _, _, _, rfl, P4.addW ⟨t1, r, A.fa o.number, zs, rfl, off_some.mpr ⟨t1F, t2⟩, off_some.mpr ⟨rF, r6⟩, so6 _ _ hzs, ?_⟩ plen ?_ ?_ ?_⟩
                · show VRs _ zs (Vbxlaf.fieldsOf st o.number)
                  rw [ff]; exact VRs.keep rz (.of_same so6)
                · show (Vbxlaf.fieldsOf st o.number).length ≤ 6
                  rw [ff]; have := W.four o ho; omega
                · show ∀ v ∈ Vbxlaf.fieldsOf st o.number, VOk st v
                  rw [ff]; exact W.fok o ho
                · have ld := Sl.left_drop (U := Sl.nums st) vk (List.mem_map.mpr ⟨o, ho, rfl⟩)
                  have := PK.ct
                  have ek : Sl.keysOf (psi ++ [(Vbxlaf.Value.object o.number, pl.1 ++ [i])]) = Sl.keysOf psi ++ [.object o.number] := List.map_append
                  rw [ek]; omega
            · rw [g2]
              refine ⟨_, rfl, iteT (skip (.inr ?_))⟩
              exact List.mem_map.mpr ⟨_, g4, rfl⟩
        · rintro σ1 H1 ⟨kvs1, ws1, v7, v8, rfl, PJ⟩
          rw [yl, ← hSl, List.take_length] at PJ
          have okS : ∀ s ∈ Vbxlaf.stepsFrom [pl], Sl.OkV st s.2 := Sl.steps_ok (fun p hp v hv => by rw [List.mem_singleton.mp hp] at hv; exact (hpl.2.2 v hv).ok)
          have fl := Sl.feed_left (st := st) (Vbxlaf.stepsFrom [pl]) ps okS
          have dr : (al ++ (Sl.feed st (Vbxlaf.stepsFrom [pl]) ps).2).drop (j + 1) = al.drop (j + 1) ++ (Sl.feed st (Vbxlaf.stepsFrom [pl]) ps).2 := List.drop_append_of_le_length (by omega)
          refine ⟨_, ?_, kvs1, ws1, _, _, j + 1, _, v7, v8, rfl, { PJ with s := fun b o e => PJ.s b o (PI.s b o e) }, (by rw [List.length_append]; omega), rfl, F', ?_, by rw [dr]; exact hrun⟩
          · rw [dr, List.length_append]
            rw [List.length_cons] at hm
            omega
          · rw [dr, List.length_append]
            rw [List.length_cons] at hm
            omega
      · rw [h2]
        refine iteF (fin ?_)
        have hk : goal ∈ Sl.keysOf ps := List.mem_map.mpr ⟨_, h4, rfl⟩
        have e : Sl.runq st goal (F' + 1) ps (al.drop j) = Sl.getp goal ps := if_pos hk
        rw [← hrun, e]
    · rw [decide_eq_false (by omega)]
      refine iteF (iteF (fin ?_))
      have e0 : al.drop j = [] := List.drop_eq_nil_of_le (by omega)
      rw [← hrun, e0]
      show Sl.getp goal ps = if goal ∈ Sl.keysOf ps then Sl.getp goal ps else none
      by_cases hk : goal ∈ Sl.keysOf ps
      · rw [if_pos hk]
      · rw [if_neg hk]; exact Sl.getp_none.mpr hk
end
end Sv
namespace Sv
open PySem PySem.Spec PyProof.Rows L2
/-! ## the questions -/
/-- what holds of every state that a list of calls comes to -/
structure Pst (st : St0) : Prop where
  p : PInv st
  lines : ∀ ls ∈ st.surveys, LsOk ls ∧ ∀ l ∈ ls, l.name.kind = 1 ∨ l.name.kind = 2
def spAsk (CG CL CS : Addr) (K : PySem.W.Frag) (n : Nat) : Sp := fun vs H Q _ => ∃ (A : Gr) (B : Su) (st : St0) (al : Addr) (a : List Int), vs = [.ref B.sv, .ref al] ∧ SInv CG CL CS H A B st ∧ Pst st ∧ H al = some (.lst (a.map V.int)) ∧ al ∉ feet A B st ∧ okArgs n a = true ∧
  ∀ H' A' B' p, B'.sv = B.sv → SInv CG CL CS H' A' B' (specStep st n a).1 → Fr (feet A B st) H (feet A' B' (specStep st n a).1) H' → H' p = some (.lst ((specStep st n a).2.map V.int)) → Q (.ref p) H'
abbrev qa : List Str := ["surveys", "arguments"]
def codes (vals : List Val) : List Int := vals.flatMap Vbxlaf.valueCode
theorem code_vp (v : Val) : Vbxlaf.valueCode v = [(vp v).1, (vp v).2] := by cases v <;> rfl
section
variable {P : Program} {w : World} {K : PySem.W.Frag} {mg : Str → Option Value} {base : Heap} {CG CL CS : Addr}
/-! ### counted, flat_values -/
def spCounted : Sp := fun vs H Q _ => ∃ (a : Addr) (xs : List V), vs = [.ref a] ∧ H a = some (.lst xs) ∧ xs.length ≤ 1000 ∧ ∀ H' p, Same H H' → H p = none → H' p = some (.lst (.int (xs.length : Nat) :: xs)) → Q (.ref p) H'
theorem scCounted : FnScope ["numbers"] ["numbers"] (defScope (top 36)) := ⟨rfl, rfl, rfl, by decide +kernel, rfl, by decide +kernel, by decide +kernel⟩
theorem ok_counted {f : Addr} {fd : FuncData} (F : Fun K "counted" "counted" (top 36) f fd) (T : Txt K mg CG CL CS) : FnOk P w K mg base CX0 1 f fd ["numbers"] spCounted := by
  refine F.ok scCounted (fun vs H Q E h => ?_) (fun cdv A0 outer s H vs Q E hr h => ?_)
  · obtain ⟨a, xs, rfl, _⟩ := h
    rfl
  · obtain ⟨a, xs, rfl, ha, hl, k⟩ := h
    refine ⟨_, pss_one (ps_ret (pe_op op_cat (pe_lst (pa_cons (pe_callB call_len_seq (by rfl) T.bLen PySem.boot_len (pa_cons (pv 0) pa_nil)) pa_nil)) (pv 0))), ?_⟩
    refine ⟨_, rfl, a, _, rfl, .inl (SqL.of ha), (by show 1 ≤ sizeLine; decide), fun l hl0 => ⟨_, rfl, l, a, _, xs, rfl, rfl, upd_same, (by rw [upd_ne (ne_of_none ha hl0)]; exact ha), (by rw [List.length_singleton, sizeLine_eq]; omega), fun p hp => ?_⟩⟩
    exact k _ p ((Same.fresh hl0).trans (Same.fresh hp)) (upd_free hp).2 upd_same
def spFlat : Sp := fun vs H Q _ => ∃ (a : Addr) (xs : List V) (vals : List Val), vs = [.ref a] ∧ H a = some (.lst xs) ∧ VRs H xs vals ∧ vals.length ≤ 100 ∧ ∀ H' p, Same H H' → H p = none → H' p = some (.lst ((codes vals).map V.int)) → Q (.ref p) H'
theorem scFlat : FnScope ["values", "numbers", "value"] ["values"] (defScope (top 37)) := ⟨rfl, rfl, rfl, by decide +kernel, rfl, by decide +kernel, by decide +kernel⟩
theorem codes_len (vals : List Val) : (codes vals).length = 2 * vals.length := by
  induction vals with
  | nil => rfl
  | cons v l ih =>
    unfold codes at ih ⊢
    rw [List.flatMap_cons, List.length_append, ih, code_vp]
    show 2 + 2 * l.length = 2 * (l.length + 1)
    omega
theorem codes_snoc (l : List Val) (v : Val) : codes (l ++ [v]) = codes l ++ [(vp v).1, (vp v).2] := by
  unfold codes
  rw [List.flatMap_append, List.flatMap_cons, List.flatMap_nil, List.append_nil, code_vp]
theorem ok_flat {f : Addr} {fd : FuncData} (F : Fun K "flat_values" "flat_values" (top 37) f fd) (T : Txt K mg CG CL CS) : FnOk P w K mg base CX0 1 f fd ["values"] spFlat := by
  refine F.ok scFlat (fun vs H Q E h => ?_) (fun cdv A0 outer s H vs Q E hr h => ?_)
  · obtain ⟨a, xs, vals, rfl, _⟩ := h
    rfl
  · obtain ⟨a, xs, vals, rfl, ha, rs, hl, k⟩ := h
    refine ⟨_, pss_cons (ps_set (i := 1) scFlat.nd rfl (.inl rfl) (pe_lst pa_nil)) (pss_cons (ps_for PassesOwn.never rfl (pi_list (pv 0)) (pg_name (i := 2) scFlat.nd rfl (Or.inl rfl))
      (pss_one (ps_expr (pe_bm PySem.F.plainAttrs_list PySem.F.slot_list_extend PySem.F.type_list_extend mt_extendT (pv 1) (pa_cons (pv 2) pa_nil))))) (pss_one (ps_ret (pv 1)))), ?_⟩
    refine ⟨Nat.zero_le _, fun p hp => ?_⟩
    have s1 : Same H (upd H p (.lst [])) := Same.fresh hp
    refine ⟨_, rfl, a, rfl, ⟨_, SqL.of (s1 _ _ ha)⟩, for_list (K := K) (a := a) (xs := xs) (fun i σ H' => ∃ v2 : Option V, σ = [some (.ref a), some (.ref p), v2] ∧ Same H H' ∧ H' p = some (.lst ((codes (vals.take i)).map V.int))) ⟨none, rfl, s1, upd_same⟩ (fun i σ H' _ ⟨_, _, s, _⟩ => SqL.of (s _ _ ha)) ?_ ?_⟩
    · rintro i x σ H' hx ⟨v2, rfl, s, hp'⟩
      obtain ⟨v, hv, b, rfl, hb⟩ := paired_get rs hx
      have few : (codes (vals.take i)).length ≤ 200 := by
        rw [codes_len, List.length_take]; omega
      refine ⟨_, rfl, .inl ⟨rfl, _, SqL.of hp'⟩, _, rfl, p, b, _, _, rfl, rfl, hp', SqT.of (s _ _ hb), (by rw [List.length_map, sizeLine_eq]; show _ + 2 ≤ _; omega), ?_⟩
      refine ⟨_, rfl, fun c o e => by rw [upd_ne (ne_of_none e hp)]; exact s _ _ e, ?_⟩
      rw [upd_same, take_snoc hv, codes_snoc, List.map_append]; rfl
    · rintro σ H' ⟨v2, rfl, s, hp'⟩
      rw [VRs.length rs, List.take_length] at hp'
      exact ⟨_, rfl, k H' p s hp hp'⟩
/-! ### tell_stamp -/
theorem stamp_step {st : St0} {k i : Int} (h : Vbxlaf.inRange k 1 2 = true) : specStep st 16 [k, i] = (st, [(Sl.stI st (k, i)).getD (-6)]) := by
  have e0 : specStep st 16 [k, i] = Vbxlaf.withName st k i (fun name => (Vbxlaf.stampOf st name).isSome) fun name => (st, Vbxlaf.toInts [(Vbxlaf.stampOf st name).getD 0]) := rfl
  rw [e0]
  unfold Vbxlaf.withName
  rw [h, if_neg (by simp)]
  obtain ⟨kn, rfl, k1, k2⟩ := range_nat h
  by_cases c : 0 ≤ i
  · obtain ⟨m, rfl⟩ : ∃ m : Nat, i = (m : Int) := ⟨i.toNat, by omega⟩
    have e := Sl.stI_name st (kn : Int) (by omega) m
    rw [Int.toNat_natCast] at e ⊢
    rw [e, Int.toNat_natCast]
    cases s : Vbxlaf.stampOf st ⟨kn, m⟩ with
    | none => rw [if_pos (by simp [s])]; rfl
    | some z =>
      rw [if_neg (by simp [s])]
      show (st, Vbxlaf.toInts [(Vbxlaf.stampOf st ⟨kn, m⟩).getD 0]) = _
      rw [s]; rfl
  · rw [Sl.stI_neg st (_, i) (by show i < 0; omega), decide_eq_false c]
    rfl
theorem scStamp : FnScope ["surveys", "arguments", "stamp"] qa (defScope (top 44)) := ⟨rfl, rfl, rfl, by decide +kernel, rfl, by decide +kernel, by decide +kernel⟩
theorem ok_stamp {f : Addr} {fd : FuncData} (F : Fun K "tell_stamp" "tell_stamp" (top 44) f fd) (T : Txt K mg CG CL CS) : FnOk P w K mg base CX0 1 f fd qa (spAsk CG CL CS K 16) := by
  refine F.ok scStamp (fun vs H Q E h => ?_) (fun cdv A0 outer s H vs Q E hr h => ?_)
  · obtain ⟨A, B, st, al, a, rfl, _⟩ := h
    rfl
  · obtain ⟨A, B, st, al, a, rfl, I, PI, hal, aln, ok, k⟩ := h
    have hu := hu_of hr
    obtain ⟨kd, i, rfl⟩ : ∃ kd i, a = [kd, i] := by
      match a, ok with
      | [kd, i], _ => exact ⟨kd, i, rfl⟩
    rw [stamp_step ok] at k
    refine ⟨_, pss_cons (ps_set (i := 2) scStamp.nd rfl (.inl rfl) (pe_dget1 hu (pe_fld (pe_fld (pv 0) rfl) rfl) (pe_tup (pa_cons (pe_ix ix_list (pv 1) pe_int (fun _ _ => rfl)) (pa_cons (pe_ix ix_list (pv 1) pe_int (fun _ _ => rfl)) pa_nil))) ⟨rfl, rfl, rfl, rfl⟩))
      (pss_one (ps_ret (pe_ifExp (pt_cmp (pc_isN (pv 2))) (pe_lst (pa_cons (pe_num T.n6) pa_nil)) (pe_lst (pa_cons (pv 2) pa_nil))))), ?_⟩
    obtain ⟨b1, b2, b3, b4⟩ := sF_get I T 0 kS_graph rfl
    refine ⟨_, rfl, B.sv, CS, B.svx, _, _, rfl, b1, b2, b3, b4, A.g, CG, A.gx, _, _, rfl, I.g.ob, T.cG, T.aG _ (ixG _ kG_stamps), gk_get A _ _ _ kG_stamps rfl, A.sd, rfl, .inr ⟨_, .inl I.g.sd⟩, _, rfl, al, _, _, _, rfl, rfl, SqL.of hal, atI_nat (j := 0) rfl, _, rfl, al, _, _, _, rfl, rfl, SqL.of hal, atI_nat (j := 1) rfl, (by show 2 ≤ sizeLine; decide), fun t ht => ?_⟩
    have s1 : Same H (upd H t (.tup [.int kd, .int i])) := Same.fresh ht
    refine ⟨_, DGet.t (k := pk (kd, i)) (s1 _ _ I.g.sd) upd_same, ?_⟩
    rw [I.g.stamp PI.p.w.nok]
    cases e : Sl.stI st (kd, i) with
    | none =>
      rw [e] at k
      refine ⟨_, rfl, _, rfl, iteT ⟨(by show 1 ≤ sizeLine; decide), fun p hp => ?_⟩⟩
      exact k _ A B p rfl (I.same (s1.trans (Same.fresh hp))) (Fr.same (s1.trans (Same.fresh hp))) upd_same
    | some z =>
      rw [e] at k
      refine ⟨_, rfl, _, rfl, iteF ⟨_, rfl, (by show 1 ≤ sizeLine; decide), fun p hp => ?_⟩⟩
      exact k _ A B p rfl (I.same (s1.trans (Same.fresh hp))) (Fr.same (s1.trans (Same.fresh hp))) upd_same
end
end Sv
namespace Sv
open PySem PySem.Spec PyProof.Rows L2
section
variable {P : Program} {w : World} {K : PySem.W.Frag} {mg : Str → Option Value} {base : Heap} {CG CL CS : Addr}
/-! ### tell_object -/
theorem object_step (st : St0) (i : Int) : specStep st 17 [i] = if (decide (0 ≤ i) && Vbxlaf.exists_ st i.toNat) = true then (st, ((Vbxlaf.fieldsOf st i.toNat).length : Int) :: codes (Vbxlaf.fieldsOf st i.toNat)) else (st, [-6]) := by
  have e0 : specStep st 17 [i] = if (decide (0 ≤ i) && Vbxlaf.exists_ st i.toNat) = false then Vbxlaf.fail st (-6) else (st, ((Vbxlaf.fieldsOf st i.toNat).length : Int) :: codes (Vbxlaf.fieldsOf st i.toNat)) := rfl
  rw [e0]
  cases (decide (0 ≤ i) && Vbxlaf.exists_ st i.toNat) <;> rfl
theorem scObject : FnScope ["surveys", "arguments", "fields"] qa (defScope (top 45)) := ⟨rfl, rfl, rfl, by decide +kernel, rfl, by decide +kernel, by decide +kernel⟩
theorem ok_object {f : Addr} {fd : FuncData} (F : Fun K "tell_object" "tell_object" (top 45) f fd) (T : Txt K mg CG CL CS) (cF : Callee P w K mg base 1 "flat_values" ["values"] spFlat) : FnOk P w K mg base CX0 2 f fd qa (spAsk CG CL CS K 17) := by
  obtain ⟨fF, fdF, gF, mgF, kpF, bF⟩ := cF
  refine F.ok scObject (fun vs H Q E h => ?_) (fun cdv A0 outer s H vs Q E hr h => ?_)
  · obtain ⟨A, B, st, al, a, rfl, _⟩ := h
    rfl
  · obtain ⟨A, B, st, al, a, rfl, I, PI, hal, aln, ok, k⟩ := h
    have hu := hu_of hr
    obtain ⟨i, rfl⟩ : ∃ i, a = [i] := by
      match a, ok with
      | [i], _ => exact ⟨i, rfl⟩
    rw [object_step] at k
    refine ⟨_, pss_cons (ps_set (i := 2) scObject.nd rfl (.inl rfl) (pe_dget1 hu (pe_fld (pe_fld (pv 0) rfl) rfl) (pe_ix ix_list (pv 1) pe_int (fun _ _ => rfl)) ⟨rfl, rfl, rfl, rfl⟩))
      (pss_cons (ps_if (pt_cmp (pc_isN (pv 2))) (pss_one (ps_ret (pe_lst (pa_cons (pe_num T.n6) pa_nil)))) pss_nil)
      (pss_one (ps_ret (pe_op op_cat (pe_lst (pa_cons (pe_callB call_len_seq (by rfl) T.bLen PySem.boot_len (pa_cons (pv 2) pa_nil)) pa_nil)) (pe_call gF hr rfl mgF kpF bF .nil pass0 (pa_cons (pv 2) pa_nil)))))), ?_⟩
    obtain ⟨b1, b2, b3, b4⟩ := sF_get I T 0 kS_graph rfl
    refine ⟨_, rfl, B.sv, CS, B.svx, _, _, rfl, b1, b2, b3, b4, A.g, CG, A.gx, _, _, rfl, I.g.ob, T.cG, T.aG _ (ixG _ kG_fields), gk_get A _ _ _ kG_fields rfl, A.fd, rfl, .inl ⟨_, .inl I.g.fd⟩, _, rfl, al, _, _, _, rfl, rfl, SqL.of hal, atI_nat (j := 0) rfl, _, DGet.k (k := Sum.inl i) I.g.fd, ?_⟩
    rw [valV_fkv PI.p.w]
    by_cases c : (decide (0 ≤ i) && Vbxlaf.exists_ st i.toNat) = true
    · rw [if_pos c]
      rw [if_pos c] at k
      obtain ⟨o, ho, eo⟩ := exists_mem (Bool.and_eq_true_iff.mp c).2
      rw [← eo] at k ⊢
      rw [fieldsOf_mem PI.p.w ho] at k
      obtain ⟨zs, hz, rz⟩ := I.g.fl o ho
      have four := PI.p.w.four o ho
      refine ⟨_, rfl, _, rfl, iteF ⟨_, rfl, A.fa o.number, _, rfl, .inl (SqL.of hz), (by show 1 ≤ sizeLine; decide), fun l hl => ?_⟩⟩
      have s1 : Same H (upd H l (.lst [.int (zs.length : Nat)])) := Same.fresh hl
      have l1 : upd H l (.lst [.int (zs.length : Nat)]) l = some (.lst [.int (zs.length : Nat)]) := upd_same
      generalize upd H l (.lst [.int (zs.length : Nat)]) = H1 at s1 l1 ⊢
      refine ⟨_, rfl, A.fa o.number, zs, o.fields, rfl, s1 _ _ hz, VRs.keep rz (.of_same s1), by omega, fun H2 p s2 hp hp2 => ?_⟩
      refine ⟨l, p, _, _, rfl, rfl, s2 _ _ l1, hp2, (by rw [List.length_singleton, List.length_map, codes_len, sizeLine_eq]; omega), fun q hq => ?_⟩
      have sA : Same H (upd H2 q (.lst ([V.int (zs.length : Nat)] ++ (codes o.fields).map V.int))) := (s1.trans s2).trans (Same.fresh hq)
      refine k _ A B q rfl (I.same sA) (Fr.same sA) ?_
      rw [upd_same, VRs.length rz]; rfl
    · rw [if_neg c]
      rw [if_neg c] at k
      refine ⟨_, rfl, _, rfl, iteT ⟨(by show 1 ≤ sizeLine; decide), fun p hp => ?_⟩⟩
      exact k _ A B p rfl (I.same (Same.fresh hp)) (Fr.same (Same.fresh hp)) upd_same
/-! ### tell_slots -/
theorem scSlots : FnScope ["surveys", "arguments"] qa (defScope (top 46)) := ⟨rfl, rfl, rfl, by decide +kernel, rfl, by decide +kernel, by decide +kernel⟩
theorem ok_slots {f : Addr} {fd : FuncData} (F : Fun K "tell_slots" "tell_slots" (top 46) f fd) (T : Txt K mg CG CL CS) (cF : Callee P w K mg base 1 "flat_values" ["values"] spFlat) : FnOk P w K mg base CX0 2 f fd qa (spAsk CG CL CS K 18) := by
  obtain ⟨fF, fdF, gF, mgF, kpF, bF⟩ := cF
  refine F.ok scSlots (fun vs H Q E h => ?_) (fun cdv A0 outer s H vs Q E hr h => ?_)
  · obtain ⟨A, B, st, al, a, rfl, _⟩ := h
    rfl
  · obtain ⟨A, B, st, al, a, rfl, I, PI, hal, aln, ok, k⟩ := h
    obtain rfl : a = [] := by
      match a, ok with
      | [], _ => rfl
    refine ⟨_, pss_one (ps_ret (pe_call gF hr rfl mgF kpF bF .nil pass0 (pa_cons (pe_fld (pe_fld (pv 0) rfl) rfl) pa_nil))), ?_⟩
    obtain ⟨b1, b2, b3, b4⟩ := sF_get I T 0 kS_graph rfl
    obtain ⟨xs, hxs, rs⟩ := I.g.slots
    refine ⟨_, rfl, B.sv, CS, B.svx, _, _, rfl, b1, b2, b3, b4, A.g, CG, A.gx, _, _, rfl, I.g.ob, T.cG, T.aG _ (ixG _ kG_slots), gk_get A _ _ _ kG_slots rfl, ?_⟩
    refine ⟨A.sl, xs, st.slots, rfl, hxs, rs, by rw [PI.p.w.six]; decide, fun H1 p s1 hp hp1 => ?_⟩
    exact k H1 A B p rfl (I.same s1) (Fr.same s1) hp1
/-! ### tell_status -/
theorem scStatus : FnScope ["surveys", "arguments", "graph", "names"] qa (defScope (top 47)) := ⟨rfl, rfl, rfl, by decide +kernel, rfl, by decide +kernel, by decide +kernel⟩
theorem ok_status {f : Addr} {fd : FuncData} (F : Fun K "tell_status" "tell_status" (top 47) f fd) (T : Txt K mg CG CL CS) (mE : Metd P w K mg base CG 1 "entries" ["self"] (spNames CG 1 entV)) (mI : Metd P w K mg base CG 1 "imports" ["self"] (spNames CG 2 impV)) : FnOk P w K mg base CX0 2 f fd qa (spAsk CG CL CS K 19) := by
  obtain ⟨fE, fdE, gE, meE, bE⟩ := mE
  obtain ⟨fI, fdI, gI, meI, bI⟩ := mI
  refine F.ok scStatus (fun vs H Q E h => ?_) (fun cdv A0 outer s H vs Q E hr h => ?_)
  · obtain ⟨A, B, st, al, a, rfl, _⟩ := h
    rfl
  · obtain ⟨A, B, st, al, a, rfl, I, PI, hal, aln, ok, k⟩ := h
    obtain rfl : a = [] := by
      match a, ok with
      | [], _ => rfl
    refine ⟨_, pss_cons (ps_set (i := 2) scStatus.nd rfl (.inl rfl) (pe_fld (pv 0) rfl))
      (pss_cons (ps_set (i := 3) scStatus.nd rfl (.inl rfl) (pe_lst (pa_cons (pe_callB call_len_seq (by rfl) T.bLen PySem.boot_len (pa_cons (pe_meth0 (pv 2) T.cG meE gE hr bE .nil pass0) pa_nil)) (pa_cons (pe_callB call_len_seq (by rfl) T.bLen PySem.boot_len (pa_cons (pe_meth0 (pv 2) T.cG meI gI hr bI .nil pass0) pa_nil)) pa_nil))))
      (pss_one (ps_ret (pe_op op_cat (pe_op op_cat (pe_lst (pa_cons (pe_fld (pv 2) rfl) (pa_cons (pe_callB call_lenD (by rfl) T.bLen PySem.boot_len (pa_cons (pe_fld (pv 2) rfl) pa_nil)) pa_nil))) (pv 3)) (pe_lst (pa_cons (pe_fld (pv 2) rfl) (pa_cons (pe_callB call_len_seq (by rfl) T.bLen PySem.boot_len (pa_cons (pe_fld (pv 0) rfl) pa_nil)) pa_nil))))))), ?_⟩
    obtain ⟨b1, b2, b3, b4⟩ := sF_get I T 0 kS_graph rfl
    refine ⟨_, rfl, B.sv, CS, B.svx, _, _, rfl, b1, b2, b3, b4, ?_⟩
    refine ⟨_, rfl, A.g, A.gx, _, rfl, I.g.ob, lk_none gK _ (by decide +kernel), ?_⟩
    refine ⟨A, st, rfl, I.g, PI.p.w.nok, fun H1 p xs s1 hp hp1 rs => ?_⟩
    refine ⟨p, xs, rfl, .inl (SqL.of hp1), ?_⟩
    have I1 := I.same s1
    refine ⟨_, rfl, A.g, A.gx, _, rfl, I1.g.ob, lk_none gK _ (by decide +kernel), ?_⟩
    refine ⟨A, st, rfl, I1.g, PI.p.w.nok, fun H2 p2 ys s2 hp2 hp21 rs2 => ?_⟩
    refine ⟨p2, ys, rfl, .inl (SqL.of hp21), (by show 2 ≤ sizeLine; decide), fun q hq => ?_⟩
    rw [VRs.length rs, VRs.length rs2]
    have e1 : (entV st).length = st.entries.length := List.length_map _
    have e2 : (impV st).length = st.imports.length := List.length_map _
    rw [e1, e2]
    have s3 : Same H2 (upd H2 q (.lst [.int (st.entries.length : Nat), .int (st.imports.length : Nat)])) := Same.fresh hq
    have q3 : upd H2 q (.lst [.int (st.entries.length : Nat), .int (st.imports.length : Nat)]) q = some (.lst [.int (st.entries.length : Nat), .int (st.imports.length : Nat)]) := upd_same
    generalize upd H2 q (.lst [.int (st.entries.length : Nat), .int (st.imports.length : Nat)]) = H3 at s3 q3 ⊢
    have I3 := I1.same (s2.trans s3)
    refine ⟨_, rfl, A.g, CG, A.gx, _, _, rfl, I3.g.ob, T.cG, T.aG _ (ixG _ kG_created), gk_get A _ _ _ kG_created rfl, _, rfl, A.g, CG, A.gx, _, _, rfl, I3.g.ob, T.cG, T.aG _ (ixG _ kG_fields), gk_get A _ _ _ kG_fields rfl, A.fd, _, rfl, I3.g.fd, (by show 2 ≤ sizeLine; decide), fun r hr3 => ?_⟩
    have s4 : Same H3 (upd H3 r (.lst [.int st.made, .int ((fkv A st).length : Nat)])) := Same.fresh hr3
    have r4 : upd H3 r (.lst [.int st.made, .int ((fkv A st).length : Nat)]) r = some (.lst [.int st.made, .int ((fkv A st).length : Nat)]) := upd_same
    generalize upd H3 r (.lst [.int st.made, .int ((fkv A st).length : Nat)]) = H4 at s4 r4 ⊢
    refine ⟨_, rfl, r, q, _, _, rfl, rfl, r4, s4 _ _ q3, (by show 4 ≤ sizeLine; decide), fun u hu4 => ?_⟩
    have s5 : Same H4 (upd H4 u (.lst ([.int st.made, .int ((fkv A st).length : Nat)] ++ [.int (st.entries.length : Nat), .int (st.imports.length : Nat)]))) := Same.fresh hu4
    have u5 : upd H4 u (.lst ([.int st.made, .int ((fkv A st).length : Nat)] ++ [.int (st.entries.length : Nat), .int (st.imports.length : Nat)])) u = some (.lst ([.int st.made, .int ((fkv A st).length : Nat)] ++ [.int (st.entries.length : Nat), .int (st.imports.length : Nat)])) := upd_same
    generalize upd H4 u (.lst ([.int st.made, .int ((fkv A st).length : Nat)] ++ [.int (st.entries.length : Nat), .int (st.imports.length : Nat)])) = H5 at s5 u5 ⊢
    have I5 := I3.same (s4.trans s5)
    obtain ⟨xm, hxm, rm⟩ := I5.ml
    obtain ⟨b1, b2, b3, b4⟩ := sF_get I5 T 1 kS_made rfl
    refine ⟨_, rfl, A.g, CG, A.gx, _, _, rfl, I5.g.ob, T.cG, T.aG _ (ixG _ kG_uses), gk_get A _ _ _ kG_uses rfl, _, rfl, B.sv, CS, B.svx, _, _, rfl, b1, b2, b3, b4, B.ml, xm, rfl, .inl (SqL.of hxm), (by show 2 ≤ sizeLine; decide), fun v hv => ?_⟩
    refine ⟨u, v, _, _, rfl, rfl, (by rw [upd_ne (ne_of_none u5 hv)]; exact u5), upd_same, (by show 6 ≤ sizeLine; decide), fun y hy => ?_⟩
    have sA : Same H (upd (upd H5 v (.lst [.int st.uses, .int (xm.length : Nat)])) y (.lst (([.int st.made, .int ((fkv A st).length : Nat)] ++ [.int (st.entries.length : Nat), .int (st.imports.length : Nat)]) ++ [.int st.uses, .int (xm.length : Nat)]))) :=
      ((s1.trans (s2.trans s3)).trans (s4.trans s5)).trans ((Same.fresh hv).trans (Same.fresh hy))
    refine k _ A B y rfl (I.same sA) (Fr.same sA) ?_
    rw [upd_same, Paired.length rm, show (fkv A st).length = st.objects.length from List.length_map _]
    rfl
end
end Sv
namespace Sv
open PySem PySem.Spec PyProof.Rows L2
theorem walk_itemsT {d : Addr} {o : Obj} {kvs : List (List L2.Key × V)} : Walk (ItiT d o kvs) kvs.length (fun H => H d = some (.frz o (.dT kvs)))
    (fun i H x H' => ∃ (T q : Addr) (k : List L2.Key) (v : V), kvs[i]? = some (k, v) ∧ x = .ref T ∧ H T = none ∧ H q = some (.tup (k.map kV)) ∧ H' = upd H T (.tup [.ref q, v])) :=
  ⟨fun _ _ hi q => ⟨q, hi⟩, fun _ q => ⟨q, rfl⟩, fun _ _ _ _ _ _ y => y⟩
theorem ints_map (l : List Nat) : (Vbxlaf.toInts l).map V.int = intsV l := by
  unfold Vbxlaf.toInts
  rw [List.map_map]; rfl
theorem counted_map (l : List Nat) : (Vbxlaf.counted l).map V.int = V.int (l.length : Nat) :: intsV l := by
  show V.int (l.length : Nat) :: (Vbxlaf.toInts l).map V.int = _
  rw [ints_map]
theorem line_map (l : Vbxlaf.Line) : (Vbxlaf.lineCode l).map V.int = [.int (l.name.kind : Int), .int (l.name.number : Int), .int ((Vbxlaf.flag l.rooted : Nat) : Int)] ++ V.int (l.sources.length : Nat) :: intsV l.sources := by
  unfold Vbxlaf.lineCode Vbxlaf.nameCode
  rw [List.map_append, List.map_append, counted_map, ints_map, ints_map]; rfl
theorem sline_map (l : Vbxlaf.Line) : (Vbxlaf.stampedLineCode l).map V.int = [.int (l.name.kind : Int), .int (l.name.number : Int), .int (l.stamp : Int), .int ((Vbxlaf.flag l.rooted : Nat) : Int)] ++ V.int (l.sources.length : Nat) :: intsV l.sources := by
  unfold Vbxlaf.stampedLineCode Vbxlaf.nameCode
  rw [List.map_append, List.map_append, counted_map, ints_map, ints_map]; rfl
theorem flat_len {f : Vbxlaf.Line → List Int} {ls : List Vbxlaf.Line} (h : ∀ l ∈ ls, (f l).length ≤ 70) : (ls.flatMap f).length ≤ 70 * ls.length := by
  induction ls with
  | nil => exact Nat.le_refl _
  | cons l ls ih =>
    rw [List.flatMap_cons, List.length_append, List.length_cons]
    have := h l List.mem_cons_self
    have := ih fun m hm => h m (List.mem_cons_of_mem _ hm)
    omega
theorem lineCode_len {l : Vbxlaf.Line} (h : l.sources.length ≤ 60) : (Vbxlaf.lineCode l).length ≤ 70 := by
  have e := congrArg List.length (line_map l)
  rw [List.length_map] at e
  rw [e, List.length_append]
  show 3 + ((intsV l.sources).length + 1) ≤ 70
  rw [List.length_map]; omega
theorem slineCode_len {l : Vbxlaf.Line} (h : l.sources.length ≤ 60) : (Vbxlaf.stampedLineCode l).length ≤ 70 := by
  have e := congrArg List.length (sline_map l)
  rw [List.length_map] at e
  rw [e, List.length_append]
  show 4 + ((intsV l.sources).length + 1) ≤ 70
  rw [List.length_map]; omega
theorem scratch_ok {st : St0} (W : Wf st) : LsOk (Vbxlaf.scratchLines st) ∧ ∀ l ∈ Vbxlaf.scratchLines st, l.name.kind = 1 ∨ l.name.kind = 2 := by
  have h2 := Sl.nm_few W.nok
  rw [nm_is, List.length_map] at h2
  have hl : ∀ l ∈ Vbxlaf.scratchLines st, ∃ n ∈ Vbxlaf.surveyedNames st, l = lineAt st n := fun l hl => by
    rw [scratch_is] at hl
    obtain ⟨n, hn, e⟩ := List.mem_map.mp hl
    exact ⟨n, hn, e.symm⟩
  have lenE : st.entries.length ≤ 60 := by
    have h2 := Sl.nm_few W.nok
    unfold Sl.nmOf Sl.enm at h2
    rw [List.length_append, List.length_map] at h2
    omega
  have hs : ∀ n, (lineAt st n).sources = (otherThan st.entries n.1).filter fun m => Vbxlaf.leadsTo (Vbxlaf.entryReach st m) n.1 := fun n => sources_is (f := Vbxlaf.entryReach st) _
  refine ⟨⟨by rw [scratch_is, List.length_map]; exact h2, fun l hl' s hs' => ?_, fun l hl' => ?_⟩, fun l hl' => ?_⟩
  · obtain ⟨n, hn, rfl⟩ := hl l hl'
    rw [hs] at hs'
    obtain ⟨e, he, rfl⟩ := List.mem_map.mp (List.mem_filter.mp hs').1
    have he := (List.mem_filter.mp he).1
    exact ⟨lineAt st (⟨1, e.number⟩, e.stamp), by rw [scratch_is]; exact List.mem_map.mpr ⟨_, List.mem_append.mpr (.inl (List.mem_map.mpr ⟨e, he, rfl⟩)), rfl⟩, rfl⟩
  · obtain ⟨n, hn, rfl⟩ := hl l hl'
    rw [hs]
    refine Nat.le_trans (List.length_filter_le _ _) ?_
    unfold otherThan
    rw [List.length_map]
    exact Nat.le_trans (List.length_filter_le _ _) lenE
  · obtain ⟨n, hn, rfl⟩ := hl l hl'
    exact name_kind hn
section
variable {P : Program} {w : World} {K : PySem.W.Frag} {mg : Str → Option Value} {base : Heap} {CG CL CS : Addr}
/-! ### tell_lines -/
theorem lines_step (st : St0) : specStep st 13 [] = (st, ((Vbxlaf.scratchLines st).length : Int) :: (Vbxlaf.scratchLines st).flatMap Vbxlaf.lineCode) := rfl
theorem scLines : FnScope ["surveys", "arguments", "lines", "answer", "name", "line"] qa (defScope (top 41)) := ⟨rfl, rfl, rfl, by decide +kernel, rfl, by decide +kernel, by decide +kernel⟩
theorem ok_lines {f : Addr} {fd : FuncData} (F : Fun K "tell_lines" "tell_lines" (top 41) f fd) (T : Txt K mg CG CL CS) (mL : Metd P w K mg base CS 4 "lines_now" ["self"] (spLN CG CL CS)) (cC : Callee P w K mg base 1 "counted" ["numbers"] spCounted) : FnOk P w K mg base CX0 5 f fd qa (spAsk CG CL CS K 13) := by
  obtain ⟨fL, fdL, gL, meL, bL⟩ := mL
  obtain ⟨fC, fdC, gC, mgC, kpC, bC⟩ := cC
  refine F.ok scLines (fun vs H Q E h => ?_) (fun cdv A0 outer s H vs Q E hr h => ?_)
  · obtain ⟨A, B, st, al, a, rfl, _⟩ := h
    rfl
  · obtain ⟨A, B, st, al, a, rfl, I, PI, hal, aln, ok, k⟩ := h
    have hr1 : Room 1 _ := hr.mono (by decide)
    obtain rfl : a = [] := by
      match a, ok with
      | [], _ => rfl
    rw [lines_step] at k
    refine ⟨_, pss_cons (ps_set (i := 2) scLines.nd rfl (.inl rfl) (pe_meth0 (pv 0) T.cS meL gL hr bL .nil pass0))
      (pss_cons (ps_set (i := 3) scLines.nd rfl (.inl rfl) (pe_lst (pa_cons (pe_callB call_len_dT (by rfl) T.bLen PySem.boot_len (pa_cons (pv 2) pa_nil)) pa_nil)))
      (pss_cons (ps_lock (ps_for PassesOwn.never rfl (pi_itemsT (pv 2)) (pg_tup (n := 2) rfl (pgs_cons (pg_name (i := 4) scLines.nd rfl (Or.inl rfl)) (pgs_cons (pg_name (i := 5) scLines.nd rfl (Or.inl rfl)) pgs_nil)))
        (pss_one (ps_expr (pe_bm PySem.F.plainAttrs_list PySem.F.slot_list_extend PySem.F.type_list_extend mt_extend (pv 3) (pa_cons (pe_op op_cat (pe_lst (pa_cons (pe_ix ix_tup (pv 4) pe_int (fun _ _ => rfl)) (pa_cons (pe_ix ix_tup (pv 4) pe_int (fun _ _ => rfl)) (pa_cons (pe_fld (pv 5) rfl) pa_nil)))) (pe_call gC hr1 rfl mgC kpC bC .nil pass0 (pa_cons (pe_fld (pv 5) rfl) pa_nil))) pa_nil))))))
      (pss_one (ps_ret (pv 3))))), ?_⟩
    refine ⟨_, rfl, B.sv, B.svx, _, rfl, I.ob, lk_none sK _ (by decide +kernel), ?_⟩
    refine ⟨A, B, st, rfl, I, PI.p, fun H1 p s1 hp hs => ?_⟩
    obtain ⟨d, kvs, e, hd, hls⟩ := hs
    cases e
    obtain ⟨lok, kds⟩ := scratch_ok PI.p.w
    have hd1 := (off_some.mp hd).2
    have hl1 : Paired (LineAt CL H1) kvs (Vbxlaf.scratchLines st) := Paired.mapP hls fun _ _ q => q.keep fun b o e => (off_some.mp e).2
    have kl := Paired.length hl1
    refine ⟨_, rfl, p, kvs, rfl, hd1, (by show 1 ≤ sizeLine; decide), fun an han => ?_⟩
    have s2 : Same H1 (upd H1 an (.lst [.int (kvs.length : Nat)])) := Same.fresh han
    have a2 : upd H1 an (.lst [.int (kvs.length : Nat)]) an = some (.lst [.int (kvs.length : Nat)]) := upd_same
    have pan : p ≠ an := ne_of_none hd1 han
    generalize upd H1 an (.lst [.int (kvs.length : Nat)]) = H2 at s2 a2 ⊢
    refine ⟨p, _, s2 _ _ hd1, True.intro, fun od => ?_⟩
    refine ⟨_, rfl, p, od, kvs, rfl, upd_same, ?_⟩
    have s2' : ∀ b o, H1 b = some o → b ≠ p → upd H2 p (.frz od (.dT kvs)) b = some o := fun b o e n => by rw [upd_ne n]; exact s2 _ _ e
    have a2' : upd H2 p (.frz od (.dT kvs)) an = some (.lst [.int (kvs.length : Nat)]) := by rw [upd_ne pan.symm]; exact a2
    have p2' : upd H2 p (.frz od (.dT kvs)) p = some (.frz od (.dT kvs)) := upd_same
    generalize upd H2 p (.frz od (.dT kvs)) = H3 at s2' a2' p2' ⊢
    refine for_it (walk_itemsT (d := p) (o := od) (kvs := kvs)) (fun i σ H' => ∃ v4 v5 : Option V, σ = [some (.ref B.sv), some (.ref al), some (.ref p), some (.ref an), v4, v5] ∧ (∀ b o, H1 b = some o → b ≠ p → H' b = some o) ∧ H' p = some (.frz od (.dT kvs)) ∧
        H' an = some (.lst (.int (kvs.length : Nat) :: (((Vbxlaf.scratchLines st).take i).flatMap Vbxlaf.lineCode).map V.int))) ⟨none, none, rfl, s2', p2', a2'⟩ (fun i σ H' _ ⟨_, _, _, _, q, _⟩ => q) ?_ ?_
    · rintro i x σ H' H'' hi ⟨v4, v5, rfl, sH, pH, aH⟩ ⟨T0, q, kk, v, hkv, rfl, hT0, hq, rfl⟩
      obtain ⟨l, hl, e1, la, dx, sa, e2, hla, hsa⟩ := paired_get hl1 hkv
      have e1 : kk = pk (np l.name) := e1
      have e2 : v = .ref la := e2
      subst e1 e2
      have lin := List.mem_of_getElem? hl
      have sl := lok.sl l lin
      have hla' := sH _ _ hla (ne_of hla hd1 (by intro z; cases z))
      have hsa' := sH _ _ hsa (ne_of hsa hd1 (by intro z; cases z))
      have hq : H' q = some (.tup (pt (np l.name))) := hq
      have s4 : Same H' (upd H' T0 (.tup [.ref q, .ref la])) := Same.fresh hT0
      have t4 : upd H' T0 (.tup [.ref q, .ref la]) T0 = some (.tup [.ref q, .ref la]) := upd_same
      generalize upd H' T0 (.tup [.ref q, .ref la]) = H4 at s4 t4 ⊢
      refine ⟨T0, _, rfl, SqT.of t4, rfl, _, _, rfl, _, _, rfl, rfl, ?_⟩
      refine ⟨_, rfl, .inl ⟨rfl, _, SqL.of (s4 _ _ aH)⟩, _, rfl, q, _, _, _, rfl, rfl, SqT.of (s4 _ _ hq), atI_nat (j := 0) rfl, _, rfl, q, _, _, _, rfl, rfl, SqT.of (s4 _ _ hq), atI_nat (j := 1) rfl, _, rfl, la, CL, dx, _, _, rfl, s4 _ _ hla', T.cL, T.aL _ (ix_mem _ kL_rooted), lk_get _ rfl 1 kL_rooted rfl, (by show 3 ≤ sizeLine; decide), fun r1 hr1 => ?_⟩
      have s5 : Same H4 (upd H4 r1 (.lst [.int (np l.name).1, .int (np l.name).2, .int ((Vbxlaf.flag l.rooted : Nat) : Int)])) := Same.fresh hr1
      have t5 : upd H4 r1 (.lst [.int (np l.name).1, .int (np l.name).2, .int ((Vbxlaf.flag l.rooted : Nat) : Int)]) r1 = some (.lst [.int (np l.name).1, .int (np l.name).2, .int ((Vbxlaf.flag l.rooted : Nat) : Int)]) := upd_same
      generalize upd H4 r1 (.lst [.int (np l.name).1, .int (np l.name).2, .int ((Vbxlaf.flag l.rooted : Nat) : Int)]) = H5 at s5 t5 ⊢
      refine ⟨_, rfl, la, CL, dx, _, _, rfl, s5 _ _ (s4 _ _ hla'), T.cL, T.aL _ (ix_mem _ kL_sources), lk_get _ rfl 2 kL_sources rfl, ?_⟩
      refine ⟨sa, intsV l.sources, rfl, s5 _ _ (s4 _ _ hsa'), (by rw [List.length_map]; omega), fun H6 r2 s6 hr2 hr26 => ?_⟩
      refine ⟨r1, r2, _, _, rfl, rfl, s6 _ _ t5, hr26, (by show 3 + ((intsV l.sources).length + 1) ≤ sizeLine; rw [List.length_map, sizeLine_eq]; omega), fun r3 hr3 => ?_⟩
      have s7 : Same H6 (upd H6 r3 (.lst ([V.int (np l.name).1, .int (np l.name).2, .int ((Vbxlaf.flag l.rooted : Nat) : Int)] ++ V.int ((intsV l.sources).length : Nat) :: intsV l.sources))) := Same.fresh hr3
      have t7 : upd H6 r3 (.lst ([V.int (np l.name).1, .int (np l.name).2, .int ((Vbxlaf.flag l.rooted : Nat) : Int)] ++ V.int ((intsV l.sources).length : Nat) :: intsV l.sources)) r3 = some (.lst ((Vbxlaf.lineCode l).map V.int)) := by
        rw [upd_same, line_map, List.length_map]; rfl
      generalize upd H6 r3 (.lst ([V.int (np l.name).1, .int (np l.name).2, .int ((Vbxlaf.flag l.rooted : Nat) : Int)] ++ V.int ((intsV l.sources).length : Nat) :: intsV l.sources)) = H7 at s7 t7 ⊢
      have s47 : Same H' H7 := ((s4.trans s5).trans s6).trans s7
      have aH7 := s47 _ _ aH
      have fl1 : (((Vbxlaf.scratchLines st).take i).flatMap Vbxlaf.lineCode).length ≤ 70 * 60 := by
        refine Nat.le_trans (flat_len fun m hm => lineCode_len (lok.sl m (List.mem_of_mem_take hm))) ?_
        have := lok.few
        rw [List.length_take]; omega
      have ll := lineCode_len sl
      refine ⟨an, r3, _, _, rfl, rfl, aH7, t7, (by rw [List.length_cons, List.length_map, List.length_map, sizeLine_eq]; omega), ?_⟩
      refine ⟨_, _, rfl, fun b o e n => ?_, ?_, ?_⟩
      · rw [upd_ne (ne_of_none e han)]; exact s47 _ _ (sH b o e n)
      · rw [upd_ne pan]; exact s47 _ _ pH
      · rw [upd_same, take_snoc hl, List.flatMap_append, List.flatMap_cons, List.flatMap_nil, List.append_nil, List.map_append]; rfl
    · rintro σ H' ⟨v4, v5, rfl, sH, pH, aH⟩
      rw [kl, List.take_length] at aH
      have sA : Same H (upd H' p (.dT kvs)) := fun b o e => by
        have nb : b ≠ p := ne_of_none e hp
        rw [upd_ne nb]; exact sH _ _ (s1 _ _ e) nb
      refine ⟨pH, _, rfl, k _ A B an rfl (I.same sA) (Fr.same sA) ?_⟩
      rw [upd_ne pan.symm, aH]; rfl
end
end Sv
namespace Sv
open PySem PySem.Spec PyProof.Rows L2
theorem survey_step (st : St0) (i : Int) : specStep st 11 [i] = match svOf st i with | none => (st, [-7]) | some ls => (st, (ls.length : Int) :: ls.flatMap Vbxlaf.stampedLineCode) := rfl
theorem sv_mem {st : St0} {i : Int} {ls : List Vbxlaf.Line} (h : svOf st i = some ls) : ls ∈ st.surveys := by
  unfold svOf at h
  split at h
  · cases h
  · exact List.mem_of_getElem? h
section
variable {P : Program} {w : World} {K : PySem.W.Frag} {mg : Str → Option Value} {base : Heap} {CG CL CS : Addr}
/-! ### tell_survey -/
theorem scSurvey : FnScope ["surveys", "arguments", "lines", "answer", "name", "line"] qa (defScope (top 39)) := ⟨rfl, rfl, rfl, by decide +kernel, rfl, by decide +kernel, by decide +kernel⟩
theorem ok_survey {f : Addr} {fd : FuncData} (F : Fun K "tell_survey" "tell_survey" (top 39) f fd) (T : Txt K mg CG CL CS) (mL : Metd P w K mg base CS 1 "lines_of" ["self", "index"] (spLO CG CL CS)) (cC : Callee P w K mg base 1 "counted" ["numbers"] spCounted) : FnOk P w K mg base CX0 2 f fd qa (spAsk CG CL CS K 11) := by
  obtain ⟨fL, fdL, gL, meL, bL⟩ := mL
  obtain ⟨fC, fdC, gC, mgC, kpC, bC⟩ := cC
  refine F.ok scSurvey (fun vs H Q E h => ?_) (fun cdv A0 outer s H vs Q E hr h => ?_)
  · obtain ⟨A, B, st, al, a, rfl, _⟩ := h
    rfl
  · obtain ⟨A, B, st, al, a, rfl, I, PI, hal, aln, ok, k⟩ := h
    obtain ⟨i0, rfl⟩ : ∃ i, a = [i] := by
      match a, ok with
      | [i], _ => exact ⟨i, rfl⟩
    rw [survey_step] at k
    refine ⟨_, pss_cons (ps_set (i := 2) scSurvey.nd rfl (.inl rfl) (pe_meth (pv 0) T.cS meL gL hr bL .nil pass0 (pa_cons (pe_ix ix_list (pv 1) pe_int (fun _ _ => rfl)) pa_nil)))
      (pss_cons (ps_if (pt_cmp (pc_isN (pv 2))) (pss_one (ps_ret (pe_lst (pa_cons (pe_num T.n7) pa_nil)))) pss_nil)
      (pss_cons (ps_set (i := 3) scSurvey.nd rfl (.inl rfl) (pe_lst (pa_cons (pe_callB call_len_dT (by rfl) T.bLen PySem.boot_len (pa_cons (pv 2) pa_nil)) pa_nil)))
      (pss_cons (ps_lock (ps_for PassesOwn.never rfl (pi_itemsT (pv 2)) (pg_tup (n := 2) rfl (pgs_cons (pg_name (i := 4) scSurvey.nd rfl (Or.inl rfl)) (pgs_cons (pg_name (i := 5) scSurvey.nd rfl (Or.inl rfl)) pgs_nil)))
        (pss_one (ps_expr (pe_bm PySem.F.plainAttrs_list PySem.F.slot_list_extend PySem.F.type_list_extend mt_extend (pv 3) (pa_cons (pe_op op_cat (pe_lst (pa_cons (pe_ix ix_tup (pv 4) pe_int (fun _ _ => rfl)) (pa_cons (pe_ix ix_tup (pv 4) pe_int (fun _ _ => rfl)) (pa_cons (pe_fld (pv 5) rfl) (pa_cons (pe_fld (pv 5) rfl) pa_nil))))) (pe_call gC hr rfl mgC kpC bC .nil pass0 (pa_cons (pe_fld (pv 5) rfl) pa_nil))) pa_nil))))))
      (pss_one (ps_ret (pv 3)))))), ?_⟩
    refine ⟨_, rfl, B.sv, B.svx, _, rfl, I.ob, lk_none sK _ (by decide +kernel), _, rfl, al, _, _, _, rfl, rfl, SqL.of hal, atI_nat (j := 0) rfl, ?_⟩
    refine ⟨A, B, st, i0, rfl, I, fun e => ?_, fun x ls e hs => ?_⟩
    · rw [e] at k
      refine ⟨_, rfl, _, rfl, iteT ⟨(by show 1 ≤ sizeLine; decide), fun p hp => ?_⟩⟩
      exact k _ A B p rfl (I.same (Same.fresh hp)) (Fr.same (Same.fresh hp)) upd_same
    rw [e] at k
    obtain ⟨d, kvs, rfl, hd, hls⟩ := hs
    obtain ⟨lok, kds⟩ := PI.lines ls (sv_mem e)
    have hd1 := (off_some.mp hd).2
    have hl1 : Paired (LineAt CL H) kvs ls := Paired.mapP hls fun _ _ q => q.keep fun b o e => (off_some.mp e).2
    have kl := Paired.length hl1
    refine ⟨_, rfl, _, rfl, iteF ⟨_, rfl, d, kvs, rfl, hd1, (by show 1 ≤ sizeLine; decide), fun an han => ?_⟩⟩
    have s2 : Same H (upd H an (.lst [.int (kvs.length : Nat)])) := Same.fresh han
    have a2 : upd H an (.lst [.int (kvs.length : Nat)]) an = some (.lst [.int (kvs.length : Nat)]) := upd_same
    have pan : d ≠ an := ne_of_none hd1 han
    generalize upd H an (.lst [.int (kvs.length : Nat)]) = H2 at s2 a2 ⊢
    refine ⟨d, _, s2 _ _ hd1, True.intro, fun od => ?_⟩
    refine ⟨_, rfl, d, od, kvs, rfl, upd_same, ?_⟩
    have s2' : ∀ b o, H b = some o → b ≠ d → upd H2 d (.frz od (.dT kvs)) b = some o := fun b o e n => by rw [upd_ne n]; exact s2 _ _ e
    have a2' : upd H2 d (.frz od (.dT kvs)) an = some (.lst [.int (kvs.length : Nat)]) := by rw [upd_ne pan.symm]; exact a2
    have p2' : upd H2 d (.frz od (.dT kvs)) d = some (.frz od (.dT kvs)) := upd_same
    generalize upd H2 d (.frz od (.dT kvs)) = H3 at s2' a2' p2' ⊢
    refine for_it (walk_itemsT (d := d) (o := od) (kvs := kvs)) (fun i σ H' => ∃ v4 v5 : Option V, σ = [some (.ref B.sv), some (.ref al), some (.ref d), some (.ref an), v4, v5] ∧ (∀ b o, H b = some o → b ≠ d → H' b = some o) ∧ H' d = some (.frz od (.dT kvs)) ∧
        H' an = some (.lst (.int (kvs.length : Nat) :: ((ls.take i).flatMap Vbxlaf.stampedLineCode).map V.int))) ⟨none, none, rfl, s2', p2', a2'⟩ (fun i σ H' _ ⟨_, _, _, _, q, _⟩ => q) ?_ ?_
    · rintro i x σ H' H'' hi ⟨v4, v5, rfl, sH, pH, aH⟩ ⟨T0, q, kk, v, hkv, rfl, hT0, hq, rfl⟩
      obtain ⟨l, hl, e1, la, dx, sa, e2, hla, hsa⟩ := paired_get hl1 hkv
      have e1 : kk = pk (np l.name) := e1
      have e2 : v = .ref la := e2
      subst e1 e2
      have lin := List.mem_of_getElem? hl
      have sl := lok.sl l lin
      have hla' := sH _ _ hla (ne_of hla hd1 (by intro z; cases z))
      have hsa' := sH _ _ hsa (ne_of hsa hd1 (by intro z; cases z))
      have hq : H' q = some (.tup (pt (np l.name))) := hq
      have s4 : Same H' (upd H' T0 (.tup [.ref q, .ref la])) := Same.fresh hT0
      have t4 : upd H' T0 (.tup [.ref q, .ref la]) T0 = some (.tup [.ref q, .ref la]) := upd_same
      generalize upd H' T0 (.tup [.ref q, .ref la]) = H4 at s4 t4 ⊢
      refine ⟨T0, _, rfl, SqT.of t4, rfl, _, _, rfl, _, _, rfl, rfl, ?_⟩
      refine ⟨_, rfl, .inl ⟨rfl, _, SqL.of (s4 _ _ aH)⟩, _, rfl, q, _, _, _, rfl, rfl, SqT.of (s4 _ _ hq), atI_nat (j := 0) rfl, _, rfl, q, _, _, _, rfl, rfl, SqT.of (s4 _ _ hq), atI_nat (j := 1) rfl, _, rfl, la, CL, dx, _, _, rfl, s4 _ _ hla', T.cL, T.aL _ (ix_mem _ kL_stamp), lk_get _ rfl 0 kL_stamp rfl, _, rfl, la, CL, dx, _, _, rfl, s4 _ _ hla', T.cL, T.aL _ (ix_mem _ kL_rooted), lk_get _ rfl 1 kL_rooted rfl, (by show 4 ≤ sizeLine; decide), fun r1 hr1 => ?_⟩
      have s5 : Same H4 (upd H4 r1 (.lst [.int (np l.name).1, .int (np l.name).2, .int (l.stamp : Int), .int ((Vbxlaf.flag l.rooted : Nat) : Int)])) := Same.fresh hr1
      have t5 : upd H4 r1 (.lst [.int (np l.name).1, .int (np l.name).2, .int (l.stamp : Int), .int ((Vbxlaf.flag l.rooted : Nat) : Int)]) r1 = some (.lst [.int (np l.name).1, .int (np l.name).2, .int (l.stamp : Int), .int ((Vbxlaf.flag l.rooted : Nat) : Int)]) := upd_same
      generalize upd H4 r1 (.lst [.int (np l.name).1, .int (np l.name).2, .int (l.stamp : Int), .int ((Vbxlaf.flag l.rooted : Nat) : Int)]) = H5 at s5 t5 ⊢
      refine ⟨_, rfl, la, CL, dx, _, _, rfl, s5 _ _ (s4 _ _ hla'), T.cL, T.aL _ (ix_mem _ kL_sources), lk_get _ rfl 2 kL_sources rfl, ?_⟩
      refine ⟨sa, intsV l.sources, rfl, s5 _ _ (s4 _ _ hsa'), (by rw [List.length_map]; omega), fun H6 r2 s6 hr2 hr26 => ?_⟩
      refine ⟨r1, r2, _, _, rfl, rfl, s6 _ _ t5, hr26, (by show 4 + ((intsV l.sources).length + 1) ≤ sizeLine; rw [List.length_map, sizeLine_eq]; omega), fun r3 hr3 => ?_⟩
      have s7 : Same H6 (upd H6 r3 (.lst ([V.int (np l.name).1, .int (np l.name).2, .int (l.stamp : Int), .int ((Vbxlaf.flag l.rooted : Nat) : Int)] ++ V.int ((intsV l.sources).length : Nat) :: intsV l.sources))) := Same.fresh hr3
      have t7 : upd H6 r3 (.lst ([V.int (np l.name).1, .int (np l.name).2, .int (l.stamp : Int), .int ((Vbxlaf.flag l.rooted : Nat) : Int)] ++ V.int ((intsV l.sources).length : Nat) :: intsV l.sources)) r3 = some (.lst ((Vbxlaf.stampedLineCode l).map V.int)) := by
        rw [upd_same, sline_map, List.length_map]; rfl
      generalize upd H6 r3 (.lst ([V.int (np l.name).1, .int (np l.name).2, .int (l.stamp : Int), .int ((Vbxlaf.flag l.rooted : Nat) : Int)] ++ V.int ((intsV l.sources).length : Nat) :: intsV l.sources)) = H7 at s7 t7 ⊢
      have s47 : Same H' H7 := ((s4.trans s5).trans s6).trans s7
      have aH7 := s47 _ _ aH
      have fl1 : ((ls.take i).flatMap Vbxlaf.stampedLineCode).length ≤ 70 * 60 := by
        refine Nat.le_trans (flat_len fun m hm => slineCode_len (lok.sl m (List.mem_of_mem_take hm))) ?_
        have := lok.few
        rw [List.length_take]; omega
      have ll := slineCode_len sl
      refine ⟨an, r3, _, _, rfl, rfl, aH7, t7, (by rw [List.length_cons, List.length_map, List.length_map, sizeLine_eq]; omega), ?_⟩
      refine ⟨_, _, rfl, fun b o e n => ?_, ?_, ?_⟩
      · rw [upd_ne (ne_of_none e han)]; exact s47 _ _ (sH b o e n)
      · rw [upd_ne pan]; exact s47 _ _ pH
      · rw [upd_same, take_snoc hl, List.flatMap_append, List.flatMap_cons, List.flatMap_nil, List.append_nil, List.map_append]; rfl
    · rintro σ H' ⟨v4, v5, rfl, sH, pH, aH⟩
      rw [kl, List.take_length] at aH
      have sA : Same H (upd H' d (.dT kvs)) := fun b o e => by
        by_cases nb : b = d
        · rw [nb, upd_same, ← e, nb, hd1]
        · rw [upd_ne nb]; exact sH _ _ e nb
      refine ⟨pH, _, rfl, k _ A B an rfl (I.same sA) (Fr.same sA) ?_⟩
      rw [upd_ne pan.symm, aH]; rfl
end
end Sv
namespace Sv
open PySem PySem.Spec PyProof.Rows L2
theorem at_last {l0 : List V} {x : V} : atI (l0 ++ [x]) (-1) = some x := by
  unfold atI ixN
  rw [if_neg (by decide), if_pos (by rw [List.length_append, List.length_singleton]; omega)]
  show (l0 ++ [x])[((-1 : Int) + ((l0 ++ [x]).length : Nat)).toNat]? = some x
  have : ((-1 : Int) + ((l0 ++ [x]).length : Nat)).toNat = l0.length := by rw [List.length_append, List.length_singleton]; omega
  rw [this, List.getElem?_append_right (Nat.le_refl _), Nat.sub_self]; rfl
section
variable {P : Program} {w : World} {K : PySem.W.Frag} {mg : Str → Option Value} {base : Heap} {CG CL CS : Addr}
/-! ### make_survey -/
theorem make_step (st : St0) : specStep st 10 [] = if 30 ≤ st.surveys.length then (st, [-8]) else (Vbxlaf.update st, Vbxlaf.toInts [st.surveys.length + 1, Vbxlaf.lookedAt st, (Vbxlaf.surveyedNames st).length]) := rfl
theorem scMakeS : FnScope ["surveys", "arguments", "work"] qa (defScope (top 38)) := ⟨rfl, rfl, rfl, by decide +kernel, rfl, by decide +kernel, by decide +kernel⟩
theorem ok_makeS {f : Addr} {fd : FuncData} (F : Fun K "make_survey" "make_survey" (top 38) f fd) (T : Txt K mg CG CL CS) (mM : Metd P w K mg base CS 5 "make" ["self"] (spMake CG CL CS)) : FnOk P w K mg base CX0 6 f fd qa (spAsk CG CL CS K 10) := by
  obtain ⟨fM, fdM, gM, meM, bM⟩ := mM
  refine F.ok scMakeS (fun vs H Q E h => ?_) (fun cdv A0 outer s H vs Q E hr h => ?_)
  · obtain ⟨A, B, st, al, a, rfl, _⟩ := h
    rfl
  · obtain ⟨A, B, st, al, a, rfl, I, PI, hal, aln, ok, k⟩ := h
    obtain rfl : a = [] := by
      match a, ok with
      | [], _ => rfl
    rw [make_step] at k
    refine ⟨_, pss_cons (ps_if (pt_cmpR op_ge (pe_callB call_len_seq (by rfl) T.bLen PySem.boot_len (pa_cons (pe_fld (pv 0) rfl) pa_nil)) (pe_num T.nV) (nomark _)) (pss_one (ps_ret (pe_lst (pa_cons (pe_num T.n8) pa_nil)))) pss_nil)
      (pss_cons (ps_set (i := 2) scMakeS.nd rfl (.inl rfl) (pe_meth0 (pv 0) T.cS meM gM hr bM .nil pass0))
      (pss_one (ps_ret (pe_lst (pa_cons (pe_callB call_len_seq (by rfl) T.bLen PySem.boot_len (pa_cons (pe_fld (pv 0) rfl) pa_nil)) (pa_cons (pv 2) (pa_cons (pe_callB call_len_dT (by rfl) T.bLen PySem.boot_len (pa_cons (pe_ix ix_list (pe_fld (pv 0) rfl) (pe_un un_neg pe_int) (fun _ _ => rfl)) pa_nil)) pa_nil))))))), ?_⟩
    obtain ⟨b1, b2, b3, b4⟩ := sF_get I T 1 kS_made rfl
    obtain ⟨xs, hxs, rs⟩ := I.ml
    have lx := Paired.length rs
    refine ⟨_, rfl, B.sv, CS, B.svx, _, _, rfl, b1, b2, b3, b4, B.ml, xs, rfl, .inl (SqL.of hxs), _, _, rfl, rfl, _, rfl, ?_⟩
    by_cases c : 30 ≤ st.surveys.length
    · rw [if_pos c] at k
      rw [decide_eq_true (by omega)]
      refine iteT ⟨(by show 1 ≤ sizeLine; decide), fun p hp => ?_⟩
      exact k _ A B p rfl (I.same (Same.fresh hp)) (Fr.same (Same.fresh hp)) upd_same
    · rw [if_neg c] at k
      rw [decide_eq_false (by omega)]
      refine iteF ⟨_, rfl, B.sv, B.svx, _, rfl, I.ob, lk_none sK _ (by decide +kernel), ?_⟩
      refine ⟨A, B, st, rfl, I, PI.p, by omega, fun H1 A1 B1 eB I1 fr => ?_⟩
      obtain ⟨b1, b2, b3, b4⟩ := sF_get I1 T 1 kS_made rfl
      obtain ⟨ys, hys, rs1⟩ := I1.ml
      have e : (Vbxlaf.update st).surveys = st.surveys ++ [Vbxlaf.scratchLines st] := by rw [update_is PI.p]
      have ly := Paired.length rs1
      rw [e] at rs1 ly
      rw [List.length_append, List.length_singleton] at ly
      obtain ⟨y0, y, rfl, _, d, kvs, rfl, hd, hls⟩ := paired_last rs1
      have kl := Paired.length hls
      rw [eB] at b1
      refine ⟨_, rfl, B.sv, CS, B1.svx, _, _, rfl, b1, b2, b3, b4, B1.ml, _, rfl, .inl (SqL.of hys), _, rfl, _, rfl, B.sv, CS, B1.svx, _, _, rfl, b1, b2, b3, b4, _, rfl, B1.ml, _, _, _, rfl, rfl, SqL.of hys, at_last, d, kvs, rfl, (off_some.mp hd).2, (by show 3 ≤ sizeLine; decide), fun p hp => ?_⟩
      refine k _ A1 B1 p eB (I1.same (Same.fresh hp)) (fr.trans (Fr.same (Same.fresh hp))) ?_
      rw [upd_same, ly, kl, scratch_is, List.length_map]
      rfl
/-! ### tell_affected -/
theorem affected_step (st : St0) : specStep st 14 [] = (st, Vbxlaf.toInts [Vbxlaf.flag (Vbxlaf.areSlotsAffected st)] ++ (Vbxlaf.counted ((st.entries.filter fun entry => Vbxlaf.isAffected st entry.number).map fun entry => entry.number) ++ Vbxlaf.toInts [Vbxlaf.lookedAt st])) := rfl
theorem aff_rest {st : St0} (W : Wf st) : ((srcs st).filter (affB st)).filter (fun s => decide (s ≠ 0)) = (st.entries.filter fun entry => Vbxlaf.isAffected st entry.number).map fun entry => entry.number := by
  have e1 : ∀ l : List Vbxlaf.Named, (∀ e ∈ l, e ∈ st.entries) → ((l.map fun e => e.number).filter (affB st)).filter (fun s => decide (s ≠ 0)) = (l.filter fun e => Vbxlaf.isAffected st e.number).map fun e => e.number := by
    intro l
    induction l with
    | nil => intro _; rfl
    | cons a l ih =>
      intro h
      have a0 := entry_pos W (h a List.mem_cons_self)
      have ih := ih fun e he => h e (List.mem_cons_of_mem _ he)
      have ea : affB st a.number = Vbxlaf.isAffected st a.number := by unfold affB; rw [if_neg a0]
      rw [List.map_cons, List.filter_cons, List.filter_cons, ea]
      cases c : Vbxlaf.isAffected st a.number
      · rw [if_neg (by simp), if_neg (by simp)]; exact ih
      · rw [if_pos rfl, if_pos rfl, List.map_cons, List.filter_cons, decide_eq_true a0, if_pos rfl, ih]
  unfold srcs
  rw [List.filter_cons]
  split
  · rw [List.filter_cons, if_neg (by simp)]
    exact e1 _ fun e h => h
  · exact e1 _ fun e h => h
theorem aff_slots {st : St0} (W : Wf st) : inV (.int 0) (intsV ((srcs st).filter (affB st))) = Vbxlaf.areSlotsAffected st := by
  have e0 : affB st 0 = Vbxlaf.areSlotsAffected st := by unfold affB; rw [if_pos rfl]
  rw [← e0, Bool.eq_iff_iff]
  unfold inV
  rw [List.any_eq_true]
  constructor
  · rintro ⟨y, hy, e⟩
    obtain ⟨n, hn, rfl⟩ := List.mem_map.mp hy
    have e : ((n : Int) == 0) = true := e
    have : n = 0 := by have := eq_of_beq e; omega
    rw [this] at hn
    exact (List.mem_filter.mp hn).2
  · intro e
    exact ⟨.int ((0 : Nat) : Int), List.mem_map.mpr ⟨0, List.mem_filter.mpr ⟨List.mem_cons_self, e⟩, rfl⟩, rfl⟩
theorem flat_ints (l : List Nat) : (intsV l).all flatV = true := List.all_eq_true.mpr fun x hx => by
  obtain ⟨n, _, rfl⟩ := List.mem_map.mp hx
  rfl
theorem scAffected : FnScope ["surveys", "arguments", "affected", "slots", "entries", "source"] qa (defScope (top 42)) := ⟨rfl, rfl, rfl, by decide +kernel, rfl, by decide +kernel, by decide +kernel⟩
theorem ok_affected {f : Addr} {fd : FuncData} (F : Fun K "tell_affected" "tell_affected" (top 42) f fd) (T : Txt K mg CG CL CS) (mA : Metd P w K mg base CS 3 "affected_sources" ["self"] (spAffs CG CL CS)) (mR : Metd P w K mg base CS 3 "all_reached" ["self"] (spAllR CG CL CS)) (mW : Metd P w K mg base CS 4 "work_of" ["self", "reached"] (spWork CG CL CS)) (cC : Callee P w K mg base 1 "counted" ["numbers"] spCounted) :
    FnOk P w K mg base CX0 5 f fd qa (spAsk CG CL CS K 14) := by
  obtain ⟨fA, fdA, gA, meA, bA⟩ := mA
  obtain ⟨fR, fdR, gR, meR, bR⟩ := mR
  obtain ⟨fW, fdW, gW, meW, bW⟩ := mW
  obtain ⟨fC, fdC, gC, mgC, kpC, bC⟩ := cC
  refine F.ok scAffected (fun vs H Q E h => ?_) (fun cdv A0 outer s H vs Q E hr h => ?_)
  · obtain ⟨A, B, st, al, a, rfl, _⟩ := h
    rfl
  · obtain ⟨A, B, st, al, a, rfl, I, PI, hal, aln, ok, k⟩ := h
    have hr1 : Room 1 _ := hr.mono (by decide)
    have hr3 : Room 3 _ := hr.mono (by decide)
    obtain rfl : a = [] := by
      match a, ok with
      | [], _ => rfl
    rw [affected_step] at k
    refine ⟨_, pss_cons (ps_set (i := 2) scAffected.nd rfl (.inl rfl) (pe_meth0 (pv 0) T.cS meA gA hr3 bA .nil pass0))
      (pss_cons (ps_set (i := 3) scAffected.nd rfl (.inl rfl) (pe_ifExp (pt_cmpR op_in_seq (pe_num T.nS) (pv 2) (by with_unfolding_all rfl)) pe_int pe_int))
      (pss_cons (ps_setLc (i := 4) (own := [("source", 5)]) (te := tVar 5) (tt := tTest (tOp rNe (tVar 5) (tC (.int 0)))) rfl scAffected.nd rfl rfl (sw_true rfl rfl rfl (by decide +kernel)) (pi_list (pv 2))
        (blkOk_by (N := ["surveys", "arguments", "affected", "slots", "entries", "source"]) (sc := defScope (top 42)) (by decide +kernel)) (fun _ _ _ _ _ => pg_name (i := 5) scAffected.nd rfl (Or.inl rfl)) (fun _ _ _ _ _ => pts_one (pt_cmpR op_ne (pv 5) (pe_num T.nS) (nomark _))) (fun _ _ _ _ _ => pv 5))
      (pss_one (ps_ret (pe_op op_cat (pe_op op_cat (pe_lst (pa_cons (pv 3) pa_nil)) (pe_call gC hr1 rfl mgC kpC bC .nil pass0 (pa_cons (pv 4) pa_nil))) (pe_lst (pa_cons (pe_meth (pv 0) T.cS meW gW hr bW .nil pass0 (pa_cons (pe_meth0 (pv 0) T.cS meR gR hr3 bR .nil pass0) pa_nil)) pa_nil))))))), ?_⟩
    refine ⟨_, rfl, B.sv, B.svx, _, rfl, I.ob, lk_none sK _ (by decide +kernel), ?_⟩
    refine ⟨A, B, st, rfl, I, PI.p, fun H1 p s1 hp hp1 => ?_⟩
    have few : ((srcs st).filter (affB st)).length ≤ 61 := Nat.le_trans (List.length_filter_le _ _) (srcs_len PI.p.w)
    refine ⟨_, rfl, p, _, rfl, .inl (SqL.of hp1), rfl, flat_ints _, _, rfl, ?_⟩
    rw [show (if false = true then !inV (V.int 0) (intsV ((srcs st).filter (affB st))) else inV (V.int 0) (intsV ((srcs st).filter (affB st)))) = Vbxlaf.areSlotsAffected st from aff_slots PI.p.w]
    refine two_vals ?_
    refine ⟨_, rfl, p, rfl, ⟨_, SqL.of hp1⟩, fun D hD => ?_⟩
    refine lc_list (K := K) (a := p) (xs := intsV ((srcs st).filter (affB st))) (fun i H' => Same H1 H' ∧ H' D = some (.lst (intsV ((((srcs st).filter (affB st)).take i).filter fun s => decide (s ≠ 0))))) ⟨Same.fresh hD, upd_same⟩ (fun i H' _ q => q.1.seq (SqL.of hp1)) ?_ ?_
    · rintro i x H' hx ⟨s2, d2⟩
      obtain ⟨n, hn, rfl⟩ := get_map hx
      have tk := take_snoc hn
      have fl : ((((srcs st).filter (affB st)).take i).filter fun s => decide (s ≠ 0)).length ≤ 61 := by
        refine Nat.le_trans (List.length_filter_le _ _) ?_
        rw [List.length_take]; omega
      refine ⟨rfl, _, rfl, rfl, _, rfl, ?_⟩
      rw [dec_int]
      by_cases c : n = 0
      · rw [decide_eq_true (by omega)]
        refine iteF ⟨s2, d2.trans ?_⟩
        rw [tk, List.filter_append]
        simp [c]
      · rw [decide_eq_false (by omega)]
        refine iteT ⟨_, rfl, _, d2, by rw [List.length_map]; exact small1000 (by omega), fun b o e => ?_, ?_⟩
        · rw [upd_ne (ne_of_none e hD)]; exact s2 _ _ e
        · rw [upd_same, tk, List.filter_append]
          simp [c]
    rintro H2 ⟨s2, d2⟩
    rw [show (intsV ((srcs st).filter (affB st))).length = ((srcs st).filter (affB st)).length from List.length_map _, List.take_length, aff_rest PI.p.w] at d2
    have elen : ((st.entries.filter fun entry => Vbxlaf.isAffected st entry.number).map fun entry => entry.number).length ≤ 61 := by
      rw [← aff_rest PI.p.w]
      exact Nat.le_trans (List.length_filter_le _ _) few
    generalize ((st.entries.filter fun entry => Vbxlaf.isAffected st entry.number).map fun entry => entry.number) = es at d2 elen k
    refine ⟨_, rfl, (by show 1 ≤ sizeLine; decide), fun q1 hq1 => ?_⟩
    have s3 : Same H2 (upd H2 q1 (.lst [.int ((Vbxlaf.flag (Vbxlaf.areSlotsAffected st) : Nat) : Int)])) := Same.fresh hq1
    have t3 : upd H2 q1 (.lst [.int ((Vbxlaf.flag (Vbxlaf.areSlotsAffected st) : Nat) : Int)]) q1 = some (.lst [.int ((Vbxlaf.flag (Vbxlaf.areSlotsAffected st) : Nat) : Int)]) := upd_same
    generalize upd H2 q1 (.lst [.int ((Vbxlaf.flag (Vbxlaf.areSlotsAffected st) : Nat) : Int)]) = H3 at s3 t3 ⊢
    refine ⟨_, rfl, D, intsV es, rfl, s3 _ _ d2, (by rw [List.length_map]; omega), fun H4 q2 s4 hq2 hq24 => ?_⟩
    refine ⟨q1, q2, _, _, rfl, rfl, s4 _ _ t3, hq24, (by show 1 + ((intsV es).length + 1) ≤ sizeLine; rw [List.length_map, sizeLine_eq]; omega), fun q3 hq3 => ?_⟩
    have s5 : Same H4 (upd H4 q3 (.lst ([V.int ((Vbxlaf.flag (Vbxlaf.areSlotsAffected st) : Nat) : Int)] ++ V.int ((intsV es).length : Nat) :: intsV es))) := Same.fresh hq3
    have t5 : upd H4 q3 (.lst ([V.int ((Vbxlaf.flag (Vbxlaf.areSlotsAffected st) : Nat) : Int)] ++ V.int ((intsV es).length : Nat) :: intsV es)) q3 = some (.lst ([V.int ((Vbxlaf.flag (Vbxlaf.areSlotsAffected st) : Nat) : Int)] ++ V.int ((intsV es).length : Nat) :: intsV es)) := upd_same
    generalize upd H4 q3 (.lst ([V.int ((Vbxlaf.flag (Vbxlaf.areSlotsAffected st) : Nat) : Int)] ++ V.int ((intsV es).length : Nat) :: intsV es)) = H5 at s5 t5 ⊢
    have s05 : Same H H5 := ((((s1.trans s2).trans s3).trans s4).trans s5)
    have I5 := I.same s05
    refine ⟨_, rfl, B.sv, B.svx, _, rfl, I5.ob, lk_none sK _ (by decide +kernel), _, rfl, B.sv, B.svx, _, rfl, I5.ob, lk_none sK _ (by decide +kernel), ?_⟩
    refine ⟨A, B, st, rfl, I5, PI.p, fun H6 d kvs s6 hd hd6 hR => ?_⟩
    refine ⟨A, B, st, d, kvs, rfl, I5.same s6, PI.p, hd6, hR.of_off, fun H7 s7 => ?_⟩
    refine ⟨(by show 1 ≤ sizeLine; decide), fun q4 hq4 => ?_⟩
    have t7 := s7 _ _ (s6 _ _ t5)
    refine ⟨q3, q4, _, _, rfl, rfl, (by rw [upd_ne (ne_of_none t7 hq4)]; exact t7), upd_same, (by
      show (((intsV es).length + 1) + 1) + 1 ≤ sizeLine
      rw [List.length_map, sizeLine_eq]; omega), fun q5 hq5 => ?_⟩
    have sA : Same H (upd (upd H7 q4 (.lst [.int (Vbxlaf.lookedAt st : Nat)])) q5 (.lst (([V.int ((Vbxlaf.flag (Vbxlaf.areSlotsAffected st) : Nat) : Int)] ++ V.int ((intsV es).length : Nat) :: intsV es) ++ [.int (Vbxlaf.lookedAt st : Nat)]))) :=
      (s05.trans (s6.trans s7)).trans ((Same.fresh hq4).trans (Same.fresh hq5))
    refine k _ A B q5 rfl (I.same sA) (Fr.same sA) ?_
    rw [upd_same, List.map_append, List.map_append, counted_map, ints_map, ints_map]
    show some (HO.lst (([V.int ((Vbxlaf.flag (Vbxlaf.areSlotsAffected st) : Nat) : Int)] ++ V.int ((intsV es).length : Nat) :: intsV es) ++ [.int (Vbxlaf.lookedAt st : Nat)])) = some (HO.lst ([V.int ((Vbxlaf.flag (Vbxlaf.areSlotsAffected st) : Nat) : Int)] ++ (V.int (es.length : Nat) :: intsV es ++ [.int (Vbxlaf.lookedAt st : Nat)])))
    rw [List.length_map, List.append_assoc]
end
end Sv
namespace Sv
open PySem PySem.Spec PyProof.Rows L2
section
variable {P : Program} {w : World} {K : PySem.W.Frag} {mg : Str → Option Value} {base : Heap} {CG CL CS : Addr}
/-! ### tell_current -/
theorem find_kn (ls : List Vbxlaf.Line) (k n : Int) : (ls.find? fun line => (line.name.kind : Int) == k && (line.name.number : Int) == n) = ls.find? fun l => decide (np l.name = (k, n)) := by
  congr 1
  funext l
  rw [Bool.eq_iff_iff, Bool.and_eq_true, beq_iff_eq, beq_iff_eq, decide_eq_true_eq]
  unfold np
  exact ⟨fun ⟨a, b⟩ => by rw [a, b], fun e => ⟨congrArg Prod.fst e, congrArg Prod.snd e⟩⟩
theorem current_step {st : St0} {i k n : Int} (h : Vbxlaf.inRange k 1 2 = true) : specStep st 12 [i, k, n] = match svOf st i with
    | none => (st, [-7])
    | some ls => match ls.find? fun l => decide (np l.name = (k, n)) with
      | none => (st, [-6])
      | some line => (st, if line.rooted = true then [0, 1] else match Vbxlaf.firstUsed st ls (Vbxlaf.namesOf line) with
        | none => [1]
        | some name => [0, 2] ++ Vbxlaf.nameCode name) := by
  have e0 : specStep st 12 [i, k, n] = if Vbxlaf.inRange k 1 2 = false then Vbxlaf.fail st (-1) else match svOf st i with
    | none => (st, [-7])
    | some ls => match ls.find? fun line => (line.name.kind : Int) == k && (line.name.number : Int) == n with
      | none => (st, [-6])
      | some line => (st, if line.rooted = true then [0, 1] else match Vbxlaf.firstUsed st ls (Vbxlaf.namesOf line) with
        | none => [1]
        | some name => [0, 2] ++ Vbxlaf.nameCode name) := rfl
  rw [e0, h, if_neg (by simp)]
  cases svOf st i with
  | none => rfl
  | some ls => simp only [find_kn]
theorem scCurrent : FnScope ["surveys", "arguments", "lines", "name", "outdated"] qa (defScope (top 40)) := ⟨rfl, rfl, rfl, by decide +kernel, rfl, by decide +kernel, by decide +kernel⟩
theorem ok_current {f : Addr} {fd : FuncData} (F : Fun K "tell_current" "tell_current" (top 40) f fd) (T : Txt K mg CG CL CS) (mL : Metd P w K mg base CS 1 "lines_of" ["self", "index"] (spLO CG CL CS)) (mF : Metd P w K mg base CS 1 "first_outdated" ["self", "lines", "name"] (spFO CG CL CS)) : FnOk P w K mg base CX0 2 f fd qa (spAsk CG CL CS K 12) := by
  obtain ⟨fL, fdL, gL, meL, bL⟩ := mL
  obtain ⟨fF, fdF, gF, meF, bF⟩ := mF
  refine F.ok scCurrent (fun vs H Q E h => ?_) (fun cdv A0 outer s H vs Q E hr h => ?_)
  · obtain ⟨A, B, st, al, a, rfl, _⟩ := h
    rfl
  · obtain ⟨A, B, st, al, a, rfl, I, PI, hal, aln, ok, k⟩ := h
    have hu := hu_of hr
    obtain ⟨i0, kd, n, rfl⟩ : ∃ i k n, a = [i, k, n] := by
      match a, ok with
      | [i, k, n], _ => exact ⟨i, k, n, rfl⟩
    rw [current_step ok] at k
    refine ⟨_, pss_cons (ps_set (i := 2) scCurrent.nd rfl (.inl rfl) (pe_meth (pv 0) T.cS meL gL hr bL .nil pass0 (pa_cons (pe_ix ix_list (pv 1) pe_int (fun _ _ => rfl)) pa_nil)))
      (pss_cons (ps_set (i := 3) scCurrent.nd rfl (.inl rfl) (pe_tup (pa_cons (pe_ix ix_list (pv 1) pe_int (fun _ _ => rfl)) (pa_cons (pe_ix ix_list (pv 1) pe_int (fun _ _ => rfl)) pa_nil))))
      (pss_cons (ps_if (pt_cmp (pc_isN (pv 2))) (pss_one (ps_ret (pe_lst (pa_cons (pe_num T.n7) pa_nil)))) pss_nil)
      (pss_cons (ps_if (pt_cmp (pc_dnotin hu (pv 3) (pv 2))) (pss_one (ps_ret (pe_lst (pa_cons (pe_num T.n6) pa_nil)))) pss_nil)
      (pss_cons (ps_if (pt_cmpR op_eq (pe_fld (pe_dget hu (pv 2) (pv 3) (fun _ _ => rfl)) rfl) pe_int (nomark _)) (pss_one (ps_ret (pe_lst (pa_cons pe_int (pa_cons pe_int pa_nil))))) pss_nil)
      (pss_cons (ps_set (i := 4) scCurrent.nd rfl (.inl rfl) (pe_meth (pv 0) T.cS meF gF hr bF .nil pass0 (pa_cons (pv 2) (pa_cons (pv 3) pa_nil))))
      (pss_cons (ps_if (pt_cmp (pc_notN (pv 4))) (pss_one (ps_ret (pe_lst (pa_cons pe_int (pa_cons pe_int (pa_cons (pe_ix ix_tup (pv 4) pe_int (fun _ _ => rfl)) (pa_cons (pe_ix ix_tup (pv 4) pe_int (fun _ _ => rfl)) pa_nil))))))) pss_nil)
      (pss_one (ps_ret (pe_lst (pa_cons pe_int pa_nil)))))))))), ?_⟩
    refine ⟨_, rfl, B.sv, B.svx, _, rfl, I.ob, lk_none sK _ (by decide +kernel), _, rfl, al, _, _, _, rfl, rfl, SqL.of hal, atI_nat (j := 0) rfl, ?_⟩
    refine ⟨A, B, st, i0, rfl, I, fun e => ?_, fun x ls e hs => ?_⟩
    · rw [e] at k
      refine ⟨_, rfl, al, _, _, _, rfl, rfl, SqL.of hal, atI_nat (j := 1) rfl, _, rfl, al, _, _, _, rfl, rfl, SqL.of hal, atI_nat (j := 2) rfl, (by show 2 ≤ sizeLine; decide), fun t ht => ?_⟩
      refine ⟨_, rfl, _, rfl, iteT ⟨(by show 1 ≤ sizeLine; decide), fun p hp => ?_⟩⟩
      exact k _ A B p rfl (I.same ((Same.fresh ht).trans (Same.fresh hp))) (Fr.same ((Same.fresh ht).trans (Same.fresh hp))) upd_same
    rw [e] at k
    obtain ⟨d, kvs, rfl, hd, hls⟩ := hs
    obtain ⟨lok, kds⟩ := PI.lines ls (sv_mem e)
    have hd1 := (off_some.mp hd).2
    have hl1 : Paired (LineAt CL H) kvs ls := Paired.mapP hls fun _ _ q => q.keep fun b o e => (off_some.mp e).2
    refine ⟨_, rfl, al, _, _, _, rfl, rfl, SqL.of hal, atI_nat (j := 1) rfl, _, rfl, al, _, _, _, rfl, rfl, SqL.of hal, atI_nat (j := 2) rfl, (by show 2 ≤ sizeLine; decide), fun t ht => ?_⟩
    have s1 : Same H (upd H t (.tup [.int kd, .int n])) := Same.fresh ht
    have t1 : upd H t (.tup [.int kd, .int n]) t = some (.tup [.int kd, .int n]) := upd_same
    generalize upd H t (.tup [.int kd, .int n]) = H1 at s1 t1 ⊢
    refine ⟨_, rfl, _, rfl, iteF ⟨_, rfl, _, rfl, d, _, rfl, DGet.t (k := pk (kd, n)) (s1 _ _ hd1) t1, ?_⟩⟩
    rcases lines_get (CL := CL) (kd, n) hl1 with ⟨g1, g2⟩ | ⟨l, g1, la, dx, sa, g2, hla, hsa⟩
    · simp only [g1] at k
      rw [g2]
      refine ⟨_, rfl, iteT ⟨(by show 1 ≤ sizeLine; decide), fun p hp => ?_⟩⟩
      exact k _ A B p rfl (I.same (s1.trans (Same.fresh hp))) (Fr.same (s1.trans (Same.fresh hp))) upd_same
    · simp only [g1] at k
      rw [g2]
      have lin := List.mem_of_find?_eq_some g1
      have h0 := List.find?_some g1
      have lnm : np l.name = (kd, n) := of_decide_eq_true h0
      refine ⟨_, rfl, iteF ⟨_, rfl, _, rfl, d, _, rfl, (by rw [← g2]; exact DGet.t (k := pk (kd, n)) (s1 _ _ hd1) t1), la, CL, dx, _, _, rfl, s1 _ _ hla, T.cL, T.aL _ (ix_mem _ kL_rooted), lk_get _ rfl 1 kL_rooted rfl, rfl, _, rfl, ?_⟩⟩
      rw [dec_int]
      cases r : l.rooted
      · rw [r] at k
        rw [decide_eq_false (by decide)]
        refine iteF ⟨_, rfl, B.sv, B.svx, _, rfl, s1 _ _ I.ob, lk_none sK _ (by decide +kernel), _, rfl, _, rfl, ?_⟩
        refine ⟨A, B, st, d, .ref t, kvs, ls, l, rfl, I.same s1, PI.p.w, s1 _ _ hd1, Paired.mapP hl1 fun _ _ q => q.keep s1, lok, lin, ?_, kds, ⟨t, rfl, by rw [lnm]; exact t1⟩, fun H2 y s2 hy => ?_⟩
        · rw [find_np, lnm]; exact g1
        · cases u : Vbxlaf.firstUsed st ls (Vbxlaf.namesOf l) with
          | none =>
            rw [u] at hy k
            have hy : y = .non := hy
            subst hy
            refine ⟨_, rfl, _, rfl, iteF ⟨(by show 1 ≤ sizeLine; decide), fun p hp => ?_⟩⟩
            have sA := (s1.trans s2).trans (Same.fresh (o := .lst [.int 1]) hp)
            exact k _ A B p rfl (I.same sA) (Fr.same sA) upd_same
          | some nm =>
            rw [u] at hy k
            obtain ⟨c, rfl, hc⟩ := (show PR H2 y (np nm) from hy)
            refine ⟨_, rfl, _, rfl, iteT ⟨_, rfl, c, _, _, _, rfl, rfl, SqT.of hc, atI_nat (j := 0) rfl, _, rfl, c, _, _, _, rfl, rfl, SqT.of hc, atI_nat (j := 1) rfl, (by show 4 ≤ sizeLine; decide), fun p hp => ?_⟩⟩
            have sA := (s1.trans s2).trans (Same.fresh (o := .lst [.int 0, .int 2, .int (np nm).1, .int (np nm).2]) hp)
            exact k _ A B p rfl (I.same sA) (Fr.same sA) upd_same
      · rw [r] at k
        rw [decide_eq_true (by decide)]
        refine iteT ⟨(by show 2 ≤ sizeLine; decide), fun p hp => ?_⟩
        exact k _ A B p rfl (I.same (s1.trans (Same.fresh hp))) (Fr.same (s1.trans (Same.fresh hp))) upd_same
end
end Sv
namespace Sv
open PySem PySem.Spec PyProof.Rows L2
section
variable {P : Program} {w : World} {K : PySem.W.Frag} {mg : Str → Option Value} {base : Heap} {CG CL CS : Addr}
/-! ### tell_path -/
theorem path_step {st : St0} {s k n : Int} (h : Vbxlaf.inRange k 1 2 = true) : specStep st 15 [s, k, n] =
    if (s == 0 || (decide (0 ≤ s) && Vbxlaf.isEntry st s.toNat)) = false then (st, [-6]) else if hasP st (k, n) = false then (st, [-6]) else
      (st, match Vbxlaf.pathTo st s.toNat ⟨k.toNat, n.toNat⟩ with | none => [0] | some path => 1 :: Vbxlaf.counted path) := by
  have e0 : specStep st 15 [s, k, n] = if Vbxlaf.inRange k 1 2 = false then Vbxlaf.fail st (-1) else if (s == 0 || (decide (0 ≤ s) && Vbxlaf.isEntry st s.toNat)) = false then (st, [-6]) else
    if Vbxlaf.inRange k 1 2 = false then Vbxlaf.fail st (-1) else if (decide (0 ≤ n) && (if k.toNat = 1 then Vbxlaf.exists_ st n.toNat else Vbxlaf.isImport st n.toNat)) = false then (st, [-6]) else
      (st, match Vbxlaf.pathTo st s.toNat ⟨k.toNat, n.toNat⟩ with | none => [0] | some path => 1 :: Vbxlaf.counted path) := rfl
  have e1 : hasP st (k, n) = (decide (0 ≤ n) && (if k.toNat = 1 then Vbxlaf.exists_ st n.toNat else Vbxlaf.isImport st n.toNat)) := by
    obtain ⟨kn, rfl, k1, k2⟩ := range_nat h
    unfold hasP
    by_cases c : kn = 1
    · rw [if_pos (by show (kn : Int) = 1; omega), if_pos (by rw [Int.toNat_natCast]; exact c)]
    · have : kn = 2 := by omega
      subst this
      rw [if_neg (by show ¬ ((2 : Nat) : Int) = 1; decide), if_neg (by rw [Int.toNat_natCast]; exact c)]
      exact Sl.stI_isImport st n
  have nf : ¬ (true = false) := by decide
  rw [e0, h, if_neg nf, if_neg nf, e1]
theorem scTPath : FnScope ["surveys", "arguments", "graph", "source", "goal", "path"] qa (defScope (top 43)) := ⟨rfl, rfl, rfl, by decide +kernel, rfl, by decide +kernel, by decide +kernel⟩
theorem ok_tpath {f : Addr} {fd : FuncData} (F : Fun K "tell_path" "tell_path" (top 43) f fd) (T : Txt K mg CG CL CS) (mC : Metd P w K mg base CG 1 "contains" ["self", "value"] (spContains CG)) (cP : Callee P w K mg base 1 "first_path" ["graph", "values", "goal"] (spPath CG)) (cC : Callee P w K mg base 1 "counted" ["numbers"] spCounted) : FnOk P w K mg base CX0 2 f fd qa (spAsk CG CL CS K 15) := by
  obtain ⟨fM, fdM, gM, meM, bM⟩ := mC
  obtain ⟨fP, fdP, gP, mgP, kpP, bP⟩ := cP
  obtain ⟨fC, fdC, gC, mgC, kpC, bC⟩ := cC
  refine F.ok scTPath (fun vs H Q E h => ?_) (fun cdv A0 outer s H vs Q E hr h => ?_)
  · obtain ⟨A, B, st, al, a, rfl, _⟩ := h
    rfl
  · obtain ⟨A, B, st, al, a, rfl, I, PI, hal, aln, ok, k⟩ := h
    have hu := hu_of hr
    obtain ⟨s0, kd, n, rfl⟩ : ∃ i k n, a = [i, k, n] := by
      match a, ok with
      | [i, k, n], _ => exact ⟨i, k, n, rfl⟩
    rw [path_step ok] at k
    refine ⟨_, pss_cons (ps_set (i := 2) scTPath.nd rfl (.inl rfl) (pe_fld (pv 0) rfl))
      (pss_cons (ps_set (i := 3) scTPath.nd rfl (.inl rfl) (pe_ix ix_list (pv 1) pe_int (fun _ _ => rfl)))
      (pss_cons (ps_set (i := 4) scTPath.nd rfl (.inl rfl) (pe_tup (pa_cons (pe_ix ix_list (pv 1) pe_int (fun _ _ => rfl)) (pa_cons (pe_ix ix_list (pv 1) pe_int (fun _ _ => rfl)) pa_nil))))
      (pss_cons (ps_if (PW.pt (pw_and (pt_cmpR op_ne (pv 3) (pe_num T.nS) (nomark _)) (pw_and1 (pt_cmp (pc_dnotin hu (pe_tup (pa_cons (pe_num T.nO) (pa_cons (pv 3) pa_nil))) (pe_fld (pv 2) rfl)))))) (pss_one (ps_ret (pe_lst (pa_cons (pe_num T.n6) pa_nil)))) pss_nil)
      (pss_cons (ps_if (pt_not (pt_val (pe_meth (pv 2) T.cG meM gM hr bM .nil pass0 (pa_cons (pv 4) pa_nil)))) (pss_one (ps_ret (pe_lst (pa_cons (pe_num T.n6) pa_nil)))) pss_nil)
      (pss_cons (ps_set (i := 5) scTPath.nd rfl (.inl rfl) (pe_call gP hr rfl mgP kpP bP .nil pass0 (pa_cons (pv 2) (pa_cons (pe_ifExp (pt_cmpR op_eq (pv 3) (pe_num T.nS) (nomark _)) (pe_fld (pv 2) rfl) (pe_dget hu (pe_fld (pv 2) rfl) (pv 3) (fun _ _ => rfl))) (pa_cons (pv 4) pa_nil)))))
      (pss_cons (ps_if (pt_cmp (pc_isN (pv 5))) (pss_one (ps_ret (pe_lst (pa_cons pe_int pa_nil)))) pss_nil)
      (pss_one (ps_ret (pe_op op_cat (pe_lst (pa_cons pe_int pa_nil)) (pe_call gC hr rfl mgC kpC bC .nil pass0 (pa_cons (pv 5) pa_nil))))))))))), ?_⟩
    obtain ⟨b1, b2, b3, b4⟩ := sF_get I T 0 kS_graph rfl
    refine ⟨_, rfl, B.sv, CS, B.svx, _, _, rfl, b1, b2, b3, b4, ?_⟩
    refine ⟨_, rfl, al, _, _, _, rfl, rfl, SqL.of hal, atI_nat (j := 0) rfl, ?_⟩
    refine ⟨_, rfl, al, _, _, _, rfl, rfl, SqL.of hal, atI_nat (j := 1) rfl, _, rfl, al, _, _, _, rfl, rfl, SqL.of hal, atI_nat (j := 2) rfl, (by show 2 ≤ sizeLine; decide), fun t ht => ?_⟩
    have s1 : Same H (upd H t (.tup [.int kd, .int n])) := Same.fresh ht
    have t1 : upd H t (.tup [.int kd, .int n]) t = some (.tup [.int kd, .int n]) := upd_same
    generalize upd H t (.tup [.int kd, .int n]) = H1 at s1 t1 ⊢
    have W := PI.p.w
    have I1 := I.same s1
    obtain ⟨kn, hkn, k1, k2⟩ := range_nat (show Vbxlaf.inRange kd 1 2 = true from ok)
    -- from the second test on
    have rest : ∀ H2, Same H1 H2 → (s0 = 0 ∨ (0 ≤ s0 ∧ Vbxlaf.isEntry st s0.toNat = true)) → tSeq (tIfS (tNot (tB (tMeth CG "contains" (spContains CG) [] E0 (tVar 2) (tCons (tVar 4) tNil)))) (tRet (tLst (tCons (tC (.int (-6))) tNil))) tNext)
        (tSeq (tAsg (tCall (spPath CG) [] E0 (tCons (tVar 2) (tCons (tIf (tTest (tOp rEq (tVar 3) (tC (.int 0)))) (tFld K (tVar 2) "slots") (tDGet (tFld K (tVar 2) "fields") (tVar 3))) (tCons (tVar 4) tNil)))) (gName 5))
        (tSeq (tIfS (tB (tIsN (tVar 5))) (tRet (tLst (tCons (tC (.int 0)) tNil))) tNext)
        (tRet (tOp rCat (tLst (tCons (tC (.int 1)) tNil)) (tCall spCounted [] E0 (tCons (tVar 5) tNil))))))
        { nx := fun _ H' => Q .non H', rt := Q } [some (.ref B.sv), some (.ref al), some (.ref A.g), some (.int s0), some (.ref t), none] H2 := by
      intro H2 s2 hs0
      have I2 := I1.same s2
      have t2 := s2 _ _ t1
      have cond : (s0 == 0 || (decide (0 ≤ s0) && Vbxlaf.isEntry st s0.toNat)) = true := by
        rw [Bool.or_eq_true, Bool.and_eq_true, beq_iff_eq, decide_eq_true_eq]; exact hs0
      have nf : ¬ (true = false) := by decide
      rw [cond, if_neg nf] at k
      refine ⟨_, rfl, A.g, A.gx, _, rfl, I2.g.ob, lk_none gK _ (by decide +kernel), _, rfl, A, st, .ref t, (kd, n), rfl, I2.g, W, ⟨t, rfl, t2⟩, _, rfl, ?_⟩
      cases hp : hasP st (kd, n)
      · rw [hp, if_pos rfl] at k
        refine iteT ⟨(by show 1 ≤ sizeLine; decide), fun p hp => ?_⟩
        have sA := (s1.trans s2).trans (Same.fresh (o := .lst [.int (-6)]) hp)
        exact k _ A B p rfl (I.same sA) (Fr.same sA) upd_same
      · rw [hp, if_neg nf] at k
        have fin : ∀ H3 y, Same H2 H3 → (match Vbxlaf.pathTo st s0.toNat ⟨kd.toNat, n.toNat⟩ with | none => y = .non | some path => ∃ a, y = .ref a ∧ H3 a = some (.lst (intsV path)) ∧ path.length ≤ 50) → tSeq (tIfS (tB (tIsN (tVar 5))) (tRet (tLst (tCons (tC (.int 0)) tNil))) tNext)
            (tRet (tOp rCat (tLst (tCons (tC (.int 1)) tNil)) (tCall spCounted [] E0 (tCons (tVar 5) tNil))))
            { nx := fun _ H' => Q .non H', rt := Q } [some (.ref B.sv), some (.ref al), some (.ref A.g), some (.int s0), some (.ref t), some y] H3 := by
          intro H3 y s3 hy
          cases e : Vbxlaf.pathTo st s0.toNat ⟨kd.toNat, n.toNat⟩ with
          | none =>
            rw [e] at hy k
            have hy : y = .non := hy
            subst hy
            refine ⟨_, rfl, _, rfl, iteT ⟨(by show 1 ≤ sizeLine; decide), fun p hp => ?_⟩⟩
            have sA := ((s1.trans s2).trans s3).trans (Same.fresh (o := .lst [.int 0]) hp)
            exact k _ A B p rfl (I.same sA) (Fr.same sA) upd_same
          | some path =>
            rw [e] at hy k
            obtain ⟨a, rfl, ha, plen⟩ := hy
            refine ⟨_, rfl, _, rfl, iteF ⟨(by show 1 ≤ sizeLine; decide), fun q1 hq1 => ?_⟩⟩
            have s4 : Same H3 (upd H3 q1 (.lst [.int 1])) := Same.fresh hq1
            have t4 : upd H3 q1 (.lst [.int 1]) q1 = some (.lst [.int 1]) := upd_same
            generalize upd H3 q1 (.lst [.int 1]) = H4 at s4 t4 ⊢
            refine ⟨_, rfl, a, intsV path, rfl, s4 _ _ ha, (by rw [List.length_map]; omega), fun H5 q2 s5 hq2 hq25 => ?_⟩
            refine ⟨q1, q2, _, _, rfl, rfl, s5 _ _ t4, hq25, (by show 1 + ((intsV path).length + 1) ≤ sizeLine; rw [List.length_map, sizeLine_eq]; omega), fun q3 hq3 => ?_⟩
            have sA := ((((s1.trans s2).trans s3).trans s4).trans s5).trans (Same.fresh (o := .lst ([V.int 1] ++ V.int ((intsV path).length : Nat) :: intsV path)) hq3)
            refine k _ A B q3 rfl (I.same sA) (Fr.same sA) ?_
            rw [upd_same]
            show _ = some (HO.lst (V.int 1 :: (Vbxlaf.counted path).map V.int))
            rw [counted_map, List.length_map]; rfl
        have hgv : VR H2 (.ref t) (Vbxlaf.valueOf ⟨kd.toNat, n.toNat⟩) := by
          refine ⟨t, rfl, ?_⟩
          have n0 : 0 ≤ n := by
            unfold hasP at hp
            by_cases c : 0 ≤ n
            · exact c
            · exfalso
              split at hp
              · rw [show decide (0 ≤ ((kd, n) : Int × Int).2) = false from decide_eq_false c] at hp; cases hp
              · rw [Sl.stI_neg st (kd, n) (by show n < 0; omega)] at hp; cases hp
          have : pt (vp (Vbxlaf.valueOf ⟨kd.toNat, n.toNat⟩)) = [.int kd, .int n] := by
            subst hkn
            unfold Vbxlaf.valueOf
            by_cases c : kn = 1
            · subst c
              show [V.int 1, V.int (n.toNat : Int)] = [V.int 1, V.int n]
              rw [Int.toNat_of_nonneg n0]
            · have : kn = 2 := by omega
              subst this
              show [V.int 2, V.int (n.toNat : Int)] = [V.int 2, V.int n]
              rw [Int.toNat_of_nonneg n0]
          rw [this]; exact t2
        have hgn : Vbxlaf.valueOf ⟨kd.toNat, n.toNat⟩ ≠ .nothing := by
          unfold Vbxlaf.valueOf
          split <;> exact fun z => nomatch z
        refine iteF ⟨_, rfl, ?_⟩
        refine ⟨_, rfl, rfl, _, rfl, ?_⟩
        rw [dec_int]
        by_cases c : s0 = 0
        · rw [decide_eq_true c]
          obtain ⟨xs, hxs, rs⟩ := I2.g.slots
          refine iteT ⟨_, rfl, A.g, CG, A.gx, _, _, rfl, I2.g.ob, T.cG, T.aG _ (ixG _ kG_slots), gk_get A _ _ _ kG_slots rfl, _, rfl, ?_⟩
          refine ⟨A, st, A.sl, .ref t, xs, st.slots, _, rfl, I2.g, W, hxs, rs, W.sok, by rw [W.six]; decide, hgn, hgv, fun H3 y s3 hy => fin H3 y s3 ?_⟩
          rw [c]; exact hy
        · rw [decide_eq_false c]
          obtain ⟨s1', s2'⟩ := hs0.resolve_left c
          obtain ⟨e, he, ee⟩ := List.any_eq_true.mp s2'
          have ee : e.number = s0.toNat := eq_of_beq ee
          have ex := W.eok e he
          rw [ee] at ex
          obtain ⟨o, ho, eo⟩ := exists_mem ex
          have gv : valV (fkv A st) (Sum.inl s0) = some (.ref (A.fa s0.toNat)) := by
            rw [valV_fkv W, if_pos (by rw [Bool.and_eq_true, decide_eq_true_eq]; exact ⟨s1', ex⟩)]
          obtain ⟨zs, hzs, rz⟩ := I2.g.fl o ho
          rw [eo] at hzs
          have ff := fieldsOf_mem W ho
          rw [eo] at ff
          refine iteF ⟨_, rfl, A.g, CG, A.gx, _, _, rfl, I2.g.ob, T.cG, T.aG _ (ixG _ kG_fields), gk_get A _ _ _ kG_fields rfl, _, rfl, A.fd, _, rfl, (by rw [← gv]; exact DGet.k (k := Sum.inl s0) I2.g.fd), _, rfl, ?_⟩
          refine ⟨A, st, A.fa s0.toNat, .ref t, zs, o.fields, _, rfl, I2.g, W, hzs, rz, W.fok o ho, by have := W.four o ho; omega, hgn, hgv, fun H3 y s3 hy => fin H3 y s3 ?_⟩
          rw [← ff] at hy
          have e0 : Vbxlaf.pathTo st s0.toNat ⟨kd.toNat, n.toNat⟩ = Vbxlaf.searchFrom st (Vbxlaf.valueOf ⟨kd.toNat, n.toNat⟩) (st.objects.length + 1) [([], Vbxlaf.fieldsOf st s0.toNat)] [] := by
            unfold Vbxlaf.pathTo
            rw [if_neg (by omega)]
          rw [e0]; exact hy
    refine ⟨_, rfl, rfl, _, rfl, ?_⟩
    rw [dec_int]
    by_cases c : s0 = 0
    · rw [decide_eq_true c]
      exact iteF (iteF (rest H1 (Same.refl _) (.inl c)))
    · rw [decide_eq_false c]
      refine iteT ⟨_, rfl, (by show 2 ≤ sizeLine; decide), fun t2 ht2 => ?_⟩
      have s2 : Same H1 (upd H1 t2 (.tup [.int 1, .int s0])) := Same.fresh ht2
      have I2 := I1.same s2
      refine ⟨_, rfl, A.g, CG, A.gx, _, _, rfl, I2.g.ob, T.cG, T.aG _ (ixG _ kG_stamps), gk_get A _ _ _ kG_stamps rfl, A.sd, _, rfl, DGet.t (k := pk (1, s0)) I2.g.sd upd_same, ?_⟩
      rw [I2.g.stamp W.nok]
      have ei := Sl.stI_isEntry st s0
      cases e : Sl.stI st (1, s0) with
      | none =>
        rw [e] at ei
        have cond : (s0 == 0 || (decide (0 ≤ s0) && Vbxlaf.isEntry st s0.toNat)) = false := by
          rw [← ei]
          have : (s0 == 0) = false := by rw [Bool.eq_false_iff]; exact fun z => c (beq_iff_eq.mp z)
          rw [this]; rfl
        rw [cond, if_pos rfl] at k
        refine ⟨_, rfl, iteT ⟨(by show 1 ≤ sizeLine; decide), fun p hp => ?_⟩⟩
        have sA := (s1.trans s2).trans (Same.fresh (o := .lst [.int (-6)]) hp)
        exact k _ A B p rfl (I.same sA) (Fr.same sA) upd_same
      | some z =>
        rw [e] at ei
        obtain ⟨e1, e2⟩ := Bool.and_eq_true_iff.mp ei.symm
        exact ⟨_, rfl, iteF (rest _ s2 (.inr ⟨of_decide_eq_true e1, e2⟩))⟩
end
end Sv
namespace Sv
open PySem PySem.Spec PyProof.Rows L2
/-! ## what every step keeps -/
theorem led_same {F F' : Nat → List Val} {vals : List Val} (h : ∀ n, Sl.Led F vals (.object n) → F' n = F n) {v : Val} : Sl.Led F' vals v ↔ Sl.Led F vals v := by
  constructor
  · intro l
    induction l with
    | start m n => exact .start m n
    | step _ m n ih => exact .step ih (by rw [← h _ ih]; exact m) n
  · intro l
    induction l with
    | start m n => exact .start m n
    | step a m n ih => exact .step ih (by rw [h _ a]; exact m) n
theorem reach_eq {st st' : St0} (W : Wf st) (W' : Wf st') {vals : List Val} (ok : ∀ v ∈ vals, VOk st v) (ok' : ∀ v ∈ vals, VOk st' v) (h : ∀ n ∈ (Vbxlaf.reachOf st vals).objects, Vbxlaf.fieldsOf st' n = Vbxlaf.fieldsOf st n) : Vbxlaf.reachOf st' vals = Vbxlaf.reachOf st vals := by
  have hl : ∀ n, Sl.Led (Vbxlaf.fieldsOf st) vals (.object n) → Vbxlaf.fieldsOf st' n = Vbxlaf.fieldsOf st n := fun n l => h n ((Sl.reach_objects W.closed fun v hv => (ok v hv).ok).mpr l)
  exact Sl.reach_ext Sl.reach_inc Sl.reach_inc
    (fun n => ((Sl.reach_objects W'.closed fun v hv => (ok' v hv).ok).trans (led_same hl)).trans (Sl.reach_objects W.closed fun v hv => (ok v hv).ok).symm)
    (fun n => ((Sl.reach_foreigns W'.closed fun v hv => (ok' v hv).ok).trans (led_same hl)).trans (Sl.reach_foreigns W.closed fun v hv => (ok v hv).ok).symm)
theorem any_false {l : List Nat} {os : List Nat} : l.any os.contains = false ↔ ∀ n ∈ l, n ∉ os := by
  rw [List.any_eq_false]
  constructor
  · intro h n hn m
    exact h n hn (List.contains_iff_mem.mpr m)
  · intro h n hn m
    exact h n hn (List.contains_iff_mem.mp m)
theorem PInv.keep {st st' : St0} (I : PInv st) (W' : Wf st') (es : st'.surveys = st.surveys) (er : st'.recordedSlots = st.recordedSlots) (hc : ∀ n ∈ st.changed, n ∈ st'.changed) (hs : st'.slotsChanged = false → st.slotsChanged = false ∧ st'.slots = st.slots)
    (hr : ∀ n, Vbxlaf.recordedReach st' n ≠ none → Vbxlaf.recordedReach st' n = Vbxlaf.recordedReach st n) (he : ∀ e ∈ st'.entries, Vbxlaf.recordedReach st' e.number ≠ none → ∃ e0 ∈ st.entries, e0.number = e.number) (hn : st.recordedEntries = [] → st'.recordedEntries = [])
    (hf : ∀ vals, (∀ v ∈ vals, VOk st v) → (vals = st.slots ∨ ∃ e ∈ st.entries, vals = [.object e.number]) → (∀ n ∈ st'.changed, n ∉ (Vbxlaf.reachOf st vals).objects) → ∀ n ∈ (Vbxlaf.reachOf st vals).objects, Vbxlaf.fieldsOf st' n = Vbxlaf.fieldsOf st n) : PInv st' where
  w := W'
  n0 := fun h => by
    rw [es] at h
    obtain ⟨h1, h2⟩ := I.n0 h
    refine ⟨?_, hn h2⟩
    cases c : st'.slotsChanged
    · rw [(hs c).1] at h1; cases h1
    · rfl
  c1 := fun h => by
    obtain ⟨h1, h2⟩ := Bool.or_eq_false_iff.mp h
    rw [er] at h2 ⊢
    obtain ⟨h3, h4⟩ := hs h1
    have h2 := any_false.mp h2
    have ha : Vbxlaf.areSlotsAffected st = false := Bool.or_eq_false_iff.mpr ⟨h3, any_false.mpr fun n m => h2 n (hc n m)⟩
    have e := I.c1 ha
    rw [e]
    have := reach_eq I.w W' (vals := st.slots) I.w.sok (by rw [← h4]; exact W'.sok) (hf _ I.w.sok (.inl rfl) (by
      show ∀ n ∈ st'.changed, n ∉ (Vbxlaf.slotsReach st).objects
      rw [← e]; exact h2))
    unfold Vbxlaf.slotsReach
    rw [h4]; exact this.symm
  c2 := fun e hin h => by
    unfold Vbxlaf.isAffected at h
    cases c : Vbxlaf.recordedReach st' e.number with
    | none => rw [c] at h; cases h
    | some R =>
      rw [c] at h
      have h := any_false.mp h
      have hne : Vbxlaf.recordedReach st' e.number ≠ none := by rw [c]; exact fun z => nomatch z
      have c0 := hr _ hne
      rw [c] at c0
      obtain ⟨e0, he0, en⟩ := he e hin hne
      have ha : Vbxlaf.isAffected st e0.number = false := by
        unfold Vbxlaf.isAffected
        rw [en, ← c0]
        exact any_false.mpr fun n m => h n (hc n m)
      have e2 := I.c2 e0 he0 ha
      rw [en, ← c0] at e2
      have e2 := Option.some.inj e2
      rw [e2]
      have ok : ∀ v ∈ [Vbxlaf.Value.object e.number], VOk st v := fun v hv => by
        rw [List.mem_singleton.mp hv, ← en]; exact I.w.eok e0 he0
      have ok' : ∀ v ∈ [Vbxlaf.Value.object e.number], VOk st' v := fun v hv => by
        rw [List.mem_singleton.mp hv]; exact W'.eok e hin
      have := reach_eq I.w W' ok ok' (hf _ ok (.inr ⟨e0, he0, by rw [en]⟩) (by
        show ∀ n ∈ st'.changed, n ∉ (Vbxlaf.entryReach st e.number).objects
        rw [← e2]; exact h))
      exact congrArg some this.symm
theorem set_same {α : Type} {d : α} : ∀ (l : List α) (i : Nat), l.set i (l.getD i d) = l
  | [], _ => rfl
  | a :: l, 0 => rfl
  | a :: l, i + 1 => by
    show a :: l.set i (l.getD i d) = a :: l
    rw [set_same l i]
theorem PInv.setSlot {st : St0} (I : PInv st) {i : Nat} {v : Val} (h : VOk st v) : PInv (Vbxlaf.setSlot st (i : Int) v) := by
  refine I.keep (I.w.setSlot h) rfl rfl (fun n m => m) (fun q => ?_) (fun _ _ => rfl) (fun e he _ => ⟨e, he, rfl⟩) (fun q => q) (fun _ _ _ _ _ _ => rfl)
  obtain ⟨h1, h2⟩ := Bool.or_eq_false_iff.mp (show (st.slotsChanged || st.slots.getD i .nothing != v) = false from q)
  refine ⟨h1, ?_⟩
  have : st.slots.getD i .nothing = v := by simpa using h2
  show st.slots.set i v = st.slots
  rw [← this]; exact set_same _ _
/-! ### create -/
theorem inc_snoc {l : List Nat} {n : Nat} (h : Sl.Inc l) (hl : ∀ x ∈ l, x < n) : Sl.Inc (l ++ [n]) := by
  unfold Sl.Inc
  rw [List.pairwise_append]
  exact ⟨h, List.pairwise_singleton _ _, fun a ha b hb => by rw [List.mem_singleton.mp hb]; exact hl a ha⟩
theorem exists_create {st : St0} {n m : Nat} (h : Vbxlaf.exists_ st m = true) : Vbxlaf.exists_ (stCreate st n) m = true := by
  obtain ⟨o, ho, e⟩ := List.any_eq_true.mp h
  exact List.any_eq_true.mpr ⟨o, List.mem_append.mpr (.inl ho), e⟩
theorem vok_create {st : St0} {n : Nat} {v : Val} (h : VOk st v) : VOk (stCreate st n) v := by
  cases v with
  | object m => exact exists_create h
  | foreign m => exact h
  | nothing => exact h
theorem Wf.create {st : St0} (W : Wf st) {n : Nat} (hn : n ≤ 4) (hm : st.made < 40) : Wf (stCreate st n) where
  six := W.six
  inc := by
    show Sl.Inc ((st.objects ++ [_]).map _)
    rw [List.map_append]
    exact inc_snoc W.inc fun x hx => by
      obtain ⟨o, ho, rfl⟩ := List.mem_map.mp hx
      have := W.low o ho
      show o.number < st.made + 1
      omega
  low := fun o ho => by
    rcases List.mem_append.mp ho with h | h
    · have := W.low o h
      exact ⟨this.1, Nat.le_succ_of_le this.2⟩
    · rw [List.mem_singleton.mp h]; exact ⟨Nat.succ_le_succ (Nat.zero_le _), Nat.le_refl _⟩
  few := hm
  four := fun o ho => by
    rcases List.mem_append.mp ho with h | h
    · exact W.four o h
    · rw [List.mem_singleton.mp h]
      show (List.replicate n _).length ≤ 4
      rw [List.length_replicate]; exact hn
  sok := fun v hv => vok_create (W.sok v hv)
  fok := fun o ho v hv => by
    rcases List.mem_append.mp ho with h | h
    · exact vok_create (W.fok o h v hv)
    · rw [List.mem_singleton.mp h] at hv
      rw [(List.mem_replicate.mp hv).2]; exact True.intro
  einc := W.einc
  eok := fun e he => exists_create (W.eok e he)
  iinc := W.iinc
  iok := W.iok
  chg := W.chg
  svs := W.svs
  kept := W.kept
theorem fields_create {st : St0} {n m : Nat} (h : Vbxlaf.exists_ st m = true) : Vbxlaf.fieldsOf (stCreate st n) m = Vbxlaf.fieldsOf st m := by
  unfold Vbxlaf.fieldsOf
  show (((st.objects ++ [_]).find? _).map _).getD [] = _
  rw [List.find?_append]
  obtain ⟨o, ho, e⟩ := List.any_eq_true.mp h
  cases c : st.objects.find? fun p => p.number == m with
  | none => exact absurd e (List.find?_eq_none.mp c o ho)
  | some x => rfl
theorem reach_exists {st : St0} (W : Wf st) {vals : List Val} (ok : ∀ v ∈ vals, VOk st v) {n : Nat} (h : n ∈ (Vbxlaf.reachOf st vals).objects) : Vbxlaf.exists_ st n = true :=
  Sl.led_ok W.closed (fun v hv => (ok v hv).ok) ((Sl.reach_objects W.closed fun v hv => (ok v hv).ok).mp h)
theorem PInv.create {st : St0} (I : PInv st) {n : Nat} (hn : n ≤ 4) (hm : st.made < 40) : PInv (stCreate st n) :=
  I.keep (I.w.create hn hm) rfl rfl (fun n m => m) (fun q => ⟨q, rfl⟩) (fun _ _ => rfl) (fun e he _ => ⟨e, he, rfl⟩) (fun q => q) (fun _ ok _ _ _ m => fields_create (reach_exists I.w ok m))
end Sv
namespace Sv
open PySem PySem.Spec PyProof.Rows L2
/-! ### write -/
theorem nums_write (st : St0) (n i : Nat) (v : Val) : (stWrite st n i v).objects.map (·.number) = st.objects.map (·.number) := by
  show (st.objects.map (setF n i v)).map _ = _
  rw [List.map_map]
  exact List.map_congr_left fun o _ => setF_num n i v o
theorem exists_num (st : St0) (m : Nat) : Vbxlaf.exists_ st m = true ↔ m ∈ st.objects.map (·.number) := Sl.mem_numbers.symm
theorem vok_iff {st st' : St0} (h : st'.objects.map (·.number) = st.objects.map (·.number)) {v : Val} : VOk st v → VOk st' v := by
  cases v with
  | object m =>
    intro q
    exact (exists_num st' m).mpr (by rw [h]; exact (exists_num st m).mp q)
  | foreign m => exact fun q => q
  | nothing => exact fun q => q
theorem Wf.write {st : St0} (W : Wf st) {o : Vbxlaf.Object} (ho : o ∈ st.objects) {i : Nat} {v : Val} (hv : VOk st v) : Wf (stWrite st o.number i v) where
  six := W.six
  inc := by rw [nums_write]; exact W.inc
  low := fun p hp => by
    obtain ⟨q, hq, rfl⟩ := List.mem_map.mp hp
    rw [setF_num]; exact W.low q hq
  few := W.few
  four := fun p hp => by
    obtain ⟨q, hq, rfl⟩ := List.mem_map.mp hp
    unfold setF
    split
    · show (q.fields.set i v).length ≤ 4
      rw [List.length_set]; exact W.four q hq
    · exact W.four q hq
  sok := fun u hu => vok_iff (nums_write st _ _ _) (W.sok u hu)
  fok := fun p hp u hu => by
    obtain ⟨q, hq, rfl⟩ := List.mem_map.mp hp
    unfold setF at hu
    split at hu
    · rcases List.mem_or_eq_of_mem_set hu with h | h
      · exact vok_iff (nums_write st _ _ _) (W.fok q hq u h)
      · rw [h]; exact vok_iff (nums_write st _ _ _) hv
    · exact vok_iff (nums_write st _ _ _) (W.fok q hq u hu)
  einc := W.einc
  eok := fun e he => (exists_num _ _).mpr (by rw [nums_write]; exact (exists_num st _).mp (W.eok e he))
  iinc := W.iinc
  iok := W.iok
  chg := fun m hm => by
    rcases Sl.mem_insertNumber.mp (show m ∈ Vbxlaf.insertNumber o.number st.changed from hm) with h | h
    · have := W.low o ho; have := W.few; omega
    · exact W.chg m h
  svs := W.svs
  kept := W.kept
theorem fields_write {st : St0} {n i m : Nat} {v : Val} (h : m ≠ n) : Vbxlaf.fieldsOf (stWrite st n i v) m = Vbxlaf.fieldsOf st m := by
  unfold Vbxlaf.fieldsOf
  show (((st.objects.map (setF n i v)).find? _).map _).getD [] = _
  rw [List.find?_map]
  have e : ((fun object : Vbxlaf.Object => object.number == m) ∘ setF n i v) = fun object => object.number == m := by
    funext o
    show ((setF n i v o).number == m) = _
    rw [setF_num]
  rw [e]
  cases c : st.objects.find? fun p => p.number == m with
  | none => rfl
  | some o =>
    have : o.number = m := eq_of_beq (List.find?_some (p := fun p : Vbxlaf.Object => p.number == m) c)
    show (setF n i v o).fields = o.fields
    unfold setF
    rw [if_neg (by rw [this]; exact h)]
theorem PInv.write {st : St0} (I : PInv st) {o : Vbxlaf.Object} (ho : o ∈ st.objects) {i : Nat} {v : Val} (hv : VOk st v) : PInv (stWrite st o.number i v) :=
  I.keep (I.w.write ho hv) rfl rfl (fun n m => Sl.mem_insertNumber.mpr (.inr m)) (fun q => ⟨q, rfl⟩) (fun _ _ => rfl) (fun e he _ => ⟨e, he, rfl⟩) (fun q => q)
    (fun vals _ _ hno m hm => fields_write fun z => hno o.number (Sl.mem_insertNumber.mpr (.inl rfl)) (z ▸ hm))
/-! ### uses -/
theorem put_nums (x : Vbxlaf.Named) : ∀ l : List Vbxlaf.Named, (Vbxlaf.putNamed x l).map (·.number) = Vbxlaf.insertNumber x.number (l.map (·.number))
  | [] => rfl
  | a :: l => by
    rw [List.map_cons]
    unfold Vbxlaf.putNamed Vbxlaf.insertNumber
    by_cases c : x.number < a.number
    · rw [if_pos c, if_pos c]; rfl
    · rw [if_neg c, if_neg c]
      by_cases d : x.number = a.number
      · rw [if_pos d, if_pos d, List.map_cons, d]
      · rw [if_neg d, if_neg d, List.map_cons, put_nums x l]
theorem put_in {x e : Vbxlaf.Named} {l : List Vbxlaf.Named} (h : e ∈ Vbxlaf.putNamed x l) : e.number = x.number ∨ ∃ e0 ∈ l, e0.number = e.number := by
  have : e.number ∈ (Vbxlaf.putNamed x l).map (·.number) := List.mem_map.mpr ⟨e, h, rfl⟩
  rw [put_nums, Sl.mem_insertNumber] at this
  rcases this with h | h
  · exact .inl h
  · obtain ⟨e0, h0, q⟩ := List.mem_map.mp h
    exact .inr ⟨e0, h0, q⟩
theorem rec_entry {st : St0} (W : Wf st) {n : Nat} (h : Vbxlaf.recordedReach st n ≠ none) : ∃ e ∈ st.entries, e.number = n := by
  obtain ⟨R, hR⟩ := Option.ne_none_iff_exists'.mp h
  unfold Vbxlaf.recordedReach at hR
  obtain ⟨p, hp, _⟩ := Option.map_eq_some_iff.mp hR
  have p1 : p.1 = n := eq_of_beq (List.find?_some (p := fun r : Nat × Vbxlaf.Reach => r.1 == n) hp)
  obtain ⟨e, he, q⟩ := W.kept p (List.mem_of_find?_eq_some hp)
  exact ⟨e, he, q.trans p1⟩
theorem Wf.useE {st : St0} (W : Wf st) {n : Nat} (h : Vbxlaf.exists_ st n = true) : Wf (Vbxlaf.useEntry st n) :=
  { W with
    sok := fun v hv => VOk.of_objs (st := st) rfl (W.sok v hv)
    fok := fun o ho v hv => VOk.of_objs (st := st) rfl (W.fok o ho v hv)
    einc := by
      show Sl.Inc ((Vbxlaf.putNamed _ st.entries).map _)
      rw [put_nums]; exact Sl.inc_insertNumber W.einc
    eok := fun e he => by
      rcases put_in (show e ∈ Vbxlaf.putNamed ⟨n, st.uses + 1⟩ st.entries from he) with q | ⟨e0, h0, q⟩
      · show Vbxlaf.exists_ st e.number = true
        rw [q]; exact h
      · show Vbxlaf.exists_ st e.number = true
        rw [← q]; exact W.eok e0 h0
    kept := fun p hp => by
      obtain ⟨e, he, q⟩ := W.kept p hp
      have : p.1 ∈ (Vbxlaf.putNamed ⟨n, st.uses + 1⟩ st.entries).map (·.number) := by
        rw [put_nums, Sl.mem_insertNumber]
        exact .inr (List.mem_map.mpr ⟨e, he, q⟩)
      obtain ⟨e', h', q'⟩ := List.mem_map.mp this
      exact ⟨e', h', q'⟩ }
theorem Wf.useI {st : St0} (W : Wf st) {n : Nat} (h : 1 ≤ n ∧ n ≤ 20) : Wf (Vbxlaf.useImport st n) :=
  { W with
    sok := fun v hv => VOk.of_objs (st := st) rfl (W.sok v hv)
    fok := fun o ho v hv => VOk.of_objs (st := st) rfl (W.fok o ho v hv)
    iinc := by
      show Sl.Inc ((Vbxlaf.putNamed _ st.imports).map _)
      rw [put_nums]; exact Sl.inc_insertNumber W.iinc
    iok := fun e he => by
      rcases put_in (show e ∈ Vbxlaf.putNamed ⟨n, st.uses + 1⟩ st.imports from he) with q | ⟨e0, h0, q⟩
      · rw [q]; exact h
      · rw [← q]; exact W.iok e0 h0 }
theorem PInv.useE {st : St0} (I : PInv st) {n : Nat} (h : Vbxlaf.exists_ st n = true) : PInv (Vbxlaf.useEntry st n) :=
  I.keep (I.w.useE h) rfl rfl (fun n m => m) (fun q => ⟨q, rfl⟩) (fun _ _ => rfl) (fun e he q => rec_entry I.w (show Vbxlaf.recordedReach st e.number ≠ none from q)) (fun q => q) (fun _ _ _ _ _ _ => rfl)
theorem PInv.useI {st : St0} (I : PInv st) {n : Nat} (h : 1 ≤ n ∧ n ≤ 20) : PInv (Vbxlaf.useImport st n) :=
  I.keep (I.w.useI h) rfl rfl (fun n m => m) (fun q => ⟨q, rfl⟩) (fun _ _ => rfl) (fun e he _ => ⟨e, he, rfl⟩) (fun q => q) (fun _ _ _ _ _ _ => rfl)
/-! ### retire -/
theorem inc_filter {f : Vbxlaf.Named → Bool} {l : List Vbxlaf.Named} (h : Sl.Inc (l.map (·.number))) : Sl.Inc ((l.filter f).map (·.number)) := h.sublist (List.filter_sublist.map _)
theorem Wf.retire {st : St0} (W : Wf st) (n : Nat) : Wf (stRetire st n) :=
  { W with
    sok := fun v hv => VOk.of_objs (st := st) rfl (W.sok v hv)
    fok := fun o ho v hv => VOk.of_objs (st := st) rfl (W.fok o ho v hv)
    einc := inc_filter W.einc
    eok := fun e he => W.eok e (List.mem_filter.mp he).1
    kept := fun p hp => by
      obtain ⟨h1, h2⟩ := List.mem_filter.mp hp
      obtain ⟨e, he, q⟩ := W.kept p h1
      exact ⟨e, List.mem_filter.mpr ⟨he, by rw [q]; exact h2⟩, q⟩ }
theorem PInv.retire {st : St0} (I : PInv st) (n : Nat) : PInv (stRetire st n) := by
  refine I.keep (I.w.retire n) rfl rfl (fun n m => m) (fun q => ⟨q, rfl⟩) (fun m hm => ?_) (fun e he _ => ⟨e, (List.mem_filter.mp he).1, rfl⟩) (fun q => ?_) (fun _ _ _ _ _ _ => rfl)
  · have e : Vbxlaf.recordedReach (stRetire st n) m = (st.recordedEntries.find? fun r => r.1 != n && r.1 == m).map (·.2) := by
      unfold Vbxlaf.recordedReach
      show ((st.recordedEntries.filter _).find? _).map _ = _
      rw [List.find?_filter]
      simp only [Bool.decide_and, Bool.decide_eq_true]
    by_cases c : m = n
    · subst c
      exfalso
      refine hm ?_
      rw [e, Option.map_eq_none_iff, List.find?_eq_none]
      intro r _
      cases d : r.1 == m
      · simp
      · have : r.1 = m := eq_of_beq d
        simp [this]
    · rw [e]
      unfold Vbxlaf.recordedReach
      congr 2
      funext r
      cases d : r.1 == m
      · simp
      · have : r.1 = m := eq_of_beq d
        simp [this, c]
  · show st.recordedEntries.filter _ = []
    rw [q]; rfl
/-! ### collect -/
theorem keeps_roots {st : St0} (W : Wf st) {n : Nat} : n ∈ (Vbxlaf.keptBy st).objects ↔ Sl.Led (Vbxlaf.fieldsOf st) (rootsV st) (.object n) := by
  have ok : ∀ v ∈ rootsV st, Sl.OkV st v := fun v hv => (List.mem_append.mp hv).elim (fun q => (W.sok v q).ok) fun q => by
    obtain ⟨e, he, rfl⟩ := List.mem_map.mp q
    exact W.eok e he
  exact Sl.reach_objects W.closed ok
theorem led_mono {F : Nat → List Val} {vs ws : List Val} (h : ∀ v ∈ vs, v ∈ ws) {v : Val} (l : Sl.Led F vs v) : Sl.Led F ws v := by
  induction l with
  | start m n => exact .start (h _ m) n
  | step _ m n ih => exact .step ih m n
theorem exists_collect {st : St0} {n : Nat} (h : Vbxlaf.exists_ st n = true) (k : n ∈ (Vbxlaf.keptBy st).objects) : Vbxlaf.exists_ (stCollect st) n = true := by
  obtain ⟨o, ho, e⟩ := exists_mem h
  refine List.any_eq_true.mpr ⟨o, List.mem_filter.mpr ⟨ho, ?_⟩, by rw [e]; exact beq_self_eq_true _⟩
  rw [e]; exact List.contains_iff_mem.mpr k
theorem vok_collect {st : St0} (W : Wf st) {v : Val} (h : VOk st v) (l : Sl.Led (Vbxlaf.fieldsOf st) (rootsV st) v ∨ v = .nothing) : VOk (stCollect st) v := by
  cases v with
  | nothing => exact True.intro
  | foreign n => exact h
  | object n => exact exists_collect h ((keeps_roots W).mpr (l.resolve_right fun z => nomatch z))
theorem Wf.collect {st : St0} (W : Wf st) : Wf (stCollect st) where
  six := W.six
  inc := W.inc.sublist (List.filter_sublist.map _)
  low := fun o ho => W.low o (List.mem_filter.mp ho).1
  few := W.few
  four := fun o ho => W.four o (List.mem_filter.mp ho).1
  sok := fun v hv => vok_collect W (W.sok v hv) (by
    by_cases c : v = .nothing
    · exact .inr c
    · exact .inl (.start (List.mem_append.mpr (.inl hv)) c))
  fok := fun o ho v hv => by
    obtain ⟨h1, h2⟩ := List.mem_filter.mp ho
    refine vok_collect W (W.fok o h1 v hv) ?_
    by_cases c : v = .nothing
    · exact .inr c
    · exact .inl (.step ((keeps_roots W).mp (List.contains_iff_mem.mp h2)) (by rw [fieldsOf_mem W h1]; exact hv) c)
  einc := W.einc
  eok := fun e he => exists_collect (W.eok e he) ((keeps_roots W).mpr (.start (List.mem_append.mpr (.inr (List.mem_map.mpr ⟨e, he, rfl⟩))) fun z => nomatch z))
  iinc := inc_filter W.iinc
  iok := fun e he => W.iok e (List.mem_filter.mp he).1
  chg := W.chg
  svs := W.svs
  kept := W.kept
theorem fields_collect {st : St0} {m : Nat} (k : m ∈ (Vbxlaf.keptBy st).objects) : Vbxlaf.fieldsOf (stCollect st) m = Vbxlaf.fieldsOf st m := by
  unfold Vbxlaf.fieldsOf
  show (((st.objects.filter _).find? _).map _).getD [] = _
  rw [List.find?_filter]
  congr 3
  funext o
  cases d : o.number == m
  · simp
  · have : o.number = m := eq_of_beq d
    simp [this, k]
theorem PInv.collect {st : St0} (I : PInv st) : PInv (stCollect st) := by
  refine I.keep I.w.collect rfl rfl (fun n m => m) (fun q => ⟨q, rfl⟩) (fun _ _ => rfl) (fun e he _ => ⟨e, he, rfl⟩) (fun q => q) (fun vals ok hv _ m hm => fields_collect ?_)
  refine (keeps_roots I.w).mpr (led_mono ?_ ((Sl.reach_objects I.w.closed fun v hv => (ok v hv).ok).mp hm))
  rcases hv with rfl | ⟨e, he, rfl⟩
  · exact fun v hv => List.mem_append.mpr (.inl hv)
  · intro v hv
    rw [List.mem_singleton.mp hv]
    exact List.mem_append.mpr (.inr (List.mem_map.mpr ⟨e, he, rfl⟩))
/-! ### update -/
theorem Wf.update {st : St0} (I : PInv st) (h : st.surveys.length < 30) : Wf (Vbxlaf.update st) := by
  have W := I.w
  rw [update_is I]
  exact { W with
    sok := fun v hv => VOk.of_objs (st := st) rfl (W.sok v hv)
    fok := fun o ho v hv => VOk.of_objs (st := st) rfl (W.fok o ho v hv)
    chg := fun n hn => nomatch hn
    svs := by
      show (st.surveys ++ [_]).length ≤ 30
      rw [List.length_append, List.length_singleton]; exact h
    kept := fun p hp => by
      obtain ⟨e, he, rfl⟩ := List.mem_map.mp hp
      exact ⟨e, he, rfl⟩ }
theorem PInv.update {st : St0} (I : PInv st) (h : st.surveys.length < 30) : PInv (Vbxlaf.update st) where
  w := Wf.update I h
  n0 := fun z => by
    rw [update_is I] at z
    exact absurd z (by simp)
  c1 := fun _ => by
    have : Vbxlaf.slotsReach (Vbxlaf.update st) = Vbxlaf.slotsReach st := reach_eq I.w (Wf.update I h) (vals := st.slots) I.w.sok (fun v hv => VOk.of_objs (st := st) rfl (I.w.sok v hv)) fun _ _ => rfl
    rw [this, update_is I]
  c2 := fun e he _ => by
    have he : e ∈ st.entries := he
    have ok : ∀ v ∈ [Vbxlaf.Value.object e.number], VOk st v := fun v hv => by
      rw [List.mem_singleton.mp hv]; exact I.w.eok e he
    have : Vbxlaf.entryReach (Vbxlaf.update st) e.number = Vbxlaf.entryReach st e.number := reach_eq I.w (Wf.update I h) ok (fun v hv => VOk.of_objs (st := st) rfl (ok v hv)) fun _ _ => rfl
    rw [this]
    unfold Vbxlaf.recordedReach
    rw [update_is I]
    show ((st.entries.map _).find? _).map _ = _
    rw [List.find?_map]
    cases c : st.entries.find? ((fun r : Nat × Vbxlaf.Reach => r.1 == e.number) ∘ fun e : Vbxlaf.Named => (e.number, Vbxlaf.entryReach st e.number)) with
    | none => exact absurd (beq_self_eq_true e.number) (List.find?_eq_none.mp c e he)
    | some e' =>
      have h1 : (e'.number == e.number) = true := List.find?_some (p := ((fun r : Nat × Vbxlaf.Reach => r.1 == e.number) ∘ fun e : Vbxlaf.Named => (e.number, Vbxlaf.entryReach st e.number))) c
      have h1 : e'.number = e.number := eq_of_beq h1
      show some (Vbxlaf.entryReach st e'.number) = _
      rw [h1]
theorem pinv_start : PInv Vbxlaf.initialState where
  w := {
    six := rfl
    inc := .nil
    low := fun o ho => nomatch ho
    few := Nat.zero_le _
    four := fun o ho => nomatch ho
    sok := fun v hv => by rw [(List.mem_replicate.mp hv).2]; exact True.intro
    fok := fun o ho => nomatch ho
    einc := .nil
    eok := fun e he => nomatch he
    iinc := .nil
    iok := fun e he => nomatch he
    chg := fun n hn => nomatch hn
    svs := Nat.zero_le _
    kept := fun p hp => nomatch hp }
  n0 := fun _ => ⟨rfl, rfl⟩
  c1 := fun h => by cases h
  c2 := fun e he => nomatch he
end Sv
namespace Sv
open PySem PySem.Spec PyProof.Rows L2
/-- what the calls 0 to 9 keep of the surveys -/
structure Kp (st st' : St0) : Prop where
  p : PInv st'
  sv : st'.surveys = st.surveys
  rs : st'.recordedSlots = st.recordedSlots
  re : ∀ q ∈ st'.recordedEntries, q ∈ st.recordedEntries
theorem Kp.refl {st : St0} (I : PInv st) : Kp st st := ⟨I, rfl, rfl, fun _ h => h⟩
theorem Kp.set {st : St0} (I : PInv st) {i : Nat} {v : Val} (h : VOk st v) : Kp st (Vbxlaf.setSlot st (i : Int) v) := ⟨I.setSlot h, rfl, rfl, fun _ h => h⟩
theorem kp_step {st : St0} (I : PInv st) : ∀ {n : Nat} {a : List Int}, n < 10 → okArgs n a = true → Kp st (specStep st n a).1
  | 0, [s, f], _, ok => by
    obtain ⟨ok1, ok2⟩ := Bool.and_eq_true_iff.mp (show (Vbxlaf.isSlot s && Vbxlaf.inRange f 0 Vbxlaf.maxFields) = true from ok)
    obtain ⟨i, rfl, hi⟩ := slot_nat ok1
    obtain ⟨m, rfl, _, hm⟩ := range_nat ok2
    have e0 : (specStep st 0 [(i : Int), (m : Int)]).1 = if 40 ≤ st.made then st else Vbxlaf.setSlot (stCreate st m) (i : Int) (.object (st.made + 1)) := by
      show (if (Vbxlaf.isSlot (i : Int) && Vbxlaf.inRange (m : Int) 0 Vbxlaf.maxFields) = false then (_ : St0 × List Int) else if 40 ≤ st.made then _ else _).1 = _
      rw [ok1, ok2, if_neg (by decide)]
      by_cases c : 40 ≤ st.made
      · rw [if_pos c, if_pos c]; rfl
      · rw [if_neg c, if_neg c]; rfl
    rw [e0]
    by_cases c : 40 ≤ st.made
    · rw [if_pos c]; exact .refl I
    · rw [if_neg c]
      have I1 := I.create (n := m) hm (by omega)
      exact ⟨I1.setSlot (List.any_eq_true.mpr ⟨_, List.mem_append.mpr (.inr (List.mem_singleton.mpr rfl)), beq_self_eq_true _⟩), rfl, rfl, fun _ h => h⟩
  | 1, [t, s], _, ok => by
    obtain ⟨ok1, ok2⟩ := Bool.and_eq_true_iff.mp (show (Vbxlaf.isSlot t && Vbxlaf.isSlot s) = true from ok)
    obtain ⟨i, rfl, hi⟩ := slot_nat ok1
    obtain ⟨j, rfl, hj⟩ := slot_nat ok2
    have e0 : specStep st 1 [(i : Int), (j : Int)] = (Vbxlaf.setSlot st (i : Int) (st.slots.getD j .nothing), [0]) := by
      show (if (Vbxlaf.isSlot (i : Int) && Vbxlaf.isSlot (j : Int)) = false then _ else _) = _
      rw [ok1, ok2]; rfl
    rw [e0]
    exact .set I (slot_ok I.w hj)
  | 2, [s], _, ok => by
    obtain ⟨i, rfl, hi⟩ := slot_nat (show Vbxlaf.isSlot s = true from ok)
    have e0 : specStep st 2 [(i : Int)] = (Vbxlaf.setSlot st (i : Int) .nothing, [0]) := by
      show (if Vbxlaf.isSlot (i : Int) = false then _ else _) = _
      rw [show Vbxlaf.isSlot (i : Int) = true from ok]; rfl
    rw [e0]
    exact .set I (v := .nothing) True.intro
  | 3, [t, s, f], _, ok => by
    obtain ⟨ok1, ok23⟩ := Bool.and_eq_true_iff.mp (show (Vbxlaf.isSlot t && (Vbxlaf.isSlot s && Vbxlaf.inRange f 0 (Vbxlaf.maxFields - 1))) = true from ok)
    obtain ⟨ok2, ok3⟩ := Bool.and_eq_true_iff.mp ok23
    obtain ⟨i, rfl, hi⟩ := slot_nat ok1
    obtain ⟨j, rfl, hj⟩ := slot_nat ok2
    have e0 : specStep st 3 [(i : Int), (j : Int), f] = Vbxlaf.withField st (j : Int) f fun _ value => (Vbxlaf.setSlot st (i : Int) value, Vbxlaf.valueCode value) := by
      show (if (Vbxlaf.isSlot (i : Int) && (Vbxlaf.isSlot (j : Int) && Vbxlaf.inRange f 0 (Vbxlaf.maxFields - 1))) = false then _ else _) = _
      rw [ok1, ok2, ok3]; rfl
    rw [e0]
    unfold Vbxlaf.withField
    have sv := slot_ok I.w hj
    rw [show Vbxlaf.slotAt st (j : Int) = st.slots.getD j .nothing from rfl]
    cases e : st.slots.getD j .nothing with
    | nothing => exact .refl I
    | foreign m => exact .refl I
    | object m =>
      rw [e] at sv
      obtain ⟨o, ho, rfl⟩ := exists_mem sv
      show Kp st (match (Vbxlaf.fieldsOf st o.number)[f.toNat]? with | none => Vbxlaf.fail st (-5) | some value => (Vbxlaf.setSlot st (i : Int) value, Vbxlaf.valueCode value)).1
      cases g : (Vbxlaf.fieldsOf st o.number)[f.toNat]? with
      | none => exact .refl I
      | some v => exact .set I (I.w.fok o ho v (by rw [← fieldsOf_mem I.w ho]; exact List.mem_of_getElem? g))
  | 4, [t, f, s], _, ok => by
    obtain ⟨ok1, ok23⟩ := Bool.and_eq_true_iff.mp (show (Vbxlaf.isSlot t && (Vbxlaf.isSlot s && Vbxlaf.inRange f 0 (Vbxlaf.maxFields - 1))) = true from ok)
    obtain ⟨ok2, ok3⟩ := Bool.and_eq_true_iff.mp ok23
    obtain ⟨i, rfl, hi⟩ := slot_nat ok1
    obtain ⟨j, rfl, hj⟩ := slot_nat ok2
    obtain ⟨m, rfl, _, hm⟩ := range_nat ok3
    have e0 : specStep st 4 [(i : Int), (m : Int), (j : Int)] = Vbxlaf.withField st (i : Int) (m : Int) fun number old => if st.slots.getD j .nothing = old then (st, [0]) else (stWrite st number m (st.slots.getD j .nothing), [1]) := by
      show (if (Vbxlaf.isSlot (i : Int) && (Vbxlaf.isSlot (j : Int) && Vbxlaf.inRange (m : Int) 0 (Vbxlaf.maxFields - 1))) = false then _ else _) = _
      rw [ok1, ok2, ok3]; rfl
    rw [e0]
    unfold Vbxlaf.withField
    have sv := slot_ok I.w hi
    rw [show Vbxlaf.slotAt st (i : Int) = st.slots.getD i .nothing from rfl]
    cases e : st.slots.getD i .nothing with
    | nothing => exact .refl I
    | foreign m => exact .refl I
    | object q =>
      rw [e] at sv
      obtain ⟨o, ho, rfl⟩ := exists_mem sv
      show Kp st (match (Vbxlaf.fieldsOf st o.number)[m]? with | none => Vbxlaf.fail st (-5) | some old => if st.slots.getD j .nothing = old then (st, [0]) else (stWrite st o.number m (st.slots.getD j .nothing), [1])).1
      cases g : (Vbxlaf.fieldsOf st o.number)[m]? with
      | none => exact .refl I
      | some v =>
        show Kp st (if st.slots.getD j .nothing = v then (st, [0]) else (stWrite st o.number m (st.slots.getD j .nothing), ([1] : List Int))).1
        by_cases c : st.slots.getD j .nothing = v
        · rw [if_pos c]; exact .refl I
        · rw [if_neg c]; exact ⟨I.write ho (slot_ok I.w hj), rfl, rfl, fun _ h => h⟩
  | 5, [s], _, ok => by
    obtain ⟨i, rfl, hi⟩ := slot_nat (show Vbxlaf.isSlot s = true from ok)
    have sv := slot_ok I.w hi
    have e0 : specStep st 5 [(i : Int)] = match st.slots.getD i .nothing with | .nothing => Vbxlaf.fail st (-3) | .object number => (Vbxlaf.useEntry st number, Vbxlaf.toInts [1, number, st.uses + 1]) | .foreign number => (Vbxlaf.useImport st number, Vbxlaf.toInts [2, number, st.uses + 1]) := by
      show (if Vbxlaf.isSlot (i : Int) = false then _ else _) = _
      rw [show Vbxlaf.isSlot (i : Int) = true from ok, if_neg (by decide)]; rfl
    rw [e0]
    cases e : st.slots.getD i .nothing with
    | nothing => exact .refl I
    | object m => rw [e] at sv; exact ⟨I.useE sv, rfl, rfl, fun _ h => h⟩
    | foreign m => rw [e] at sv; exact ⟨I.useI sv, rfl, rfl, fun _ h => h⟩
  | 6, [o, s], _, ok => by
    obtain ⟨i, rfl, hi⟩ := slot_nat (show Vbxlaf.isSlot s = true from ok)
    have e0 : specStep st 6 [o, (i : Int)] = if (decide (0 ≤ o) && Vbxlaf.isEntry st o.toNat) = false then Vbxlaf.fail st (-6) else (Vbxlaf.setSlot (Vbxlaf.useEntry st o.toNat) (i : Int) (.object o.toNat), Vbxlaf.toInts [st.uses + 1]) := by
      show (if Vbxlaf.isSlot (i : Int) = false then _ else _) = _
      rw [show Vbxlaf.isSlot (i : Int) = true from ok, if_neg (by decide)]
    rw [e0]
    cases c : (decide (0 ≤ o) && Vbxlaf.isEntry st o.toNat)
    · exact .refl I
    · obtain ⟨e, he, q⟩ := List.any_eq_true.mp (Bool.and_eq_true_iff.mp c).2
      have q : e.number = o.toNat := eq_of_beq q
      have ex := I.w.eok e he
      rw [q] at ex
      exact ⟨(I.useE ex).setSlot (v := .object o.toNat) ex, rfl, rfl, fun _ h => h⟩
  | 7, [f, s], _, ok => by
    obtain ⟨ok1, ok2⟩ := Bool.and_eq_true_iff.mp (show (Vbxlaf.inRange f 1 Vbxlaf.maxForeign && Vbxlaf.isSlot s) = true from ok)
    obtain ⟨i, rfl, hi⟩ := slot_nat ok2
    obtain ⟨m, rfl, h1, h2⟩ := range_nat ok1
    have e0 : specStep st 7 [(m : Int), (i : Int)] = (Vbxlaf.setSlot (Vbxlaf.useImport st m) (i : Int) (.foreign m), Vbxlaf.toInts [Vbxlaf.flag (!Vbxlaf.isImport st m), st.uses + 1]) := by
      show (if (Vbxlaf.inRange (m : Int) 1 Vbxlaf.maxForeign && Vbxlaf.isSlot (i : Int)) = false then _ else _) = _
      rw [ok1, ok2, if_neg (by decide)]; rfl
    rw [e0]
    exact ⟨(I.useI (n := m) ⟨h1, h2⟩).setSlot (v := .foreign m) ⟨h1, h2⟩, rfl, rfl, fun _ h => h⟩
  | 8, [o], _, ok => by
    have e0 : specStep st 8 [o] = if (decide (0 ≤ o) && Vbxlaf.isEntry st o.toNat) = false then Vbxlaf.fail st (-6) else (stRetire st o.toNat, [0]) := rfl
    rw [e0]
    cases c : (decide (0 ≤ o) && Vbxlaf.isEntry st o.toNat)
    · exact .refl I
    · exact ⟨I.retire _, rfl, rfl, fun _ h => (List.mem_filter.mp h).1⟩
  | 9, [], _, _ => ⟨I.collect, rfl, rfl, fun _ h => h⟩
theorem pst_step {st : St0} (I : Pst st) {n : Nat} {a : List Int} (hn : n < 20) (ok : okArgs n a = true) : Pst (specStep st n a).1 := by
  by_cases c : n < 10
  · have k := kp_step I.p c ok
    exact ⟨k.p, by rw [k.sv]; exact I.lines⟩
  · by_cases c1 : n = 10
    · subst c1
      obtain rfl : a = [] := by
        match a, ok with
        | [], _ => rfl
      rw [make_step]
      by_cases c2 : 30 ≤ st.surveys.length
      · rw [if_pos c2]; exact I
      · rw [if_neg c2]
        refine ⟨I.p.update (by omega), fun ls h => ?_⟩
        have e : (Vbxlaf.update st).surveys = st.surveys ++ [Vbxlaf.scratchLines st] := by rw [update_is I.p]
        rcases List.mem_append.mp (e ▸ h) with h | h
        · exact I.lines ls h
        · rw [List.mem_singleton.mp h]; exact scratch_ok I.p.w
    · have same : (specStep st n a).1 = st := by
        match n, a, hn, c, c1, ok with
        | 11, [i], _, _, _, _ => rw [survey_step]; cases svOf st i <;> rfl
        | 12, [i, k, m], _, _, _, ok =>
          rw [current_step ok]
          cases svOf st i with
          | none => rfl
          | some ls => cases h : ls.find? fun l => decide (np l.name = (k, m)) <;> simp only [h]
        | 13, [], _, _, _, _ => rfl
        | 14, [], _, _, _, _ => rfl
        | 15, [s, k, m], _, _, _, ok =>
          rw [path_step ok]
          split
          · rfl
          · split <;> rfl
        | 16, [k, i], _, _, _, ok => rw [stamp_step ok]
        | 17, [i], _, _, _, _ => rw [object_step]; split <;> rfl
        | 18, [], _, _, _, _ => rfl
        | 19, [], _, _, _, _ => rfl
      rw [same]; exact I
theorem pst_start : Pst Vbxlaf.initialState := ⟨pinv_start, fun ls h => nomatch h⟩
section
variable {CG CL CS : Addr} {H H' : Hp} {A A' : Gr} {B : Su} {st st' : St0}
theorem SInv.change (I : SInv CG CL CS H A B st) (k : Kp st st') (g : GInv CG H' A' st') (hg : A'.g = A.g) (fr : Fr (foot A st) H (foot A' st') H') : SInv CG CL CS H' A' B st' ∧ Fr (feet A B st) H (feet A' B st') H' := by
  have fr' : Fr (feet A B st) H (feet A' B st') H' := fun b o n e => by
    have n1 : b ≠ B.sv := fun z => n (z ▸ List.mem_cons_self)
    have n2 : b ≠ B.ml := fun z => n (z ▸ List.mem_cons_of_mem _ List.mem_cons_self)
    obtain ⟨h1, h2⟩ := fr b o (fun z => n (List.mem_cons_of_mem _ (List.mem_cons_of_mem _ z))) e
    refine ⟨fun z => ?_, h2⟩
    rcases List.mem_cons.mp z with z | z
    · exact n1 z
    · rcases List.mem_cons.mp z with z | z
      · exact n2 z
      · exact h1 z
  obtain ⟨xs, hx, rs⟩ := I.ml
  refine ⟨?_, fr'⟩
  exact {
    g := g
    ob := by rw [hg]; exact (fr _ _ I.sn I.ob).2
    sn := (fr _ _ I.sn I.ob).1
    ml := ⟨xs, (fr _ _ I.mn hx).2, by rw [k.sv]; exact Paired.mapP rs fun _ _ q => q.keep fr'.off⟩
    mn := (fr _ _ I.mn hx).1
    lr := fr'.off _ _ I.lr
    last := fun h => by
      rw [k.sv] at h
      obtain ⟨⟨d, e, q⟩, r⟩ := I.last h
      refine ⟨⟨d, e, by rw [k.rs]; exact q.keep fr'.off⟩, fun p hp => ?_⟩
      obtain ⟨d, e, q⟩ := r p (k.re p hp)
      exact ⟨d, e, q.keep fr'.off⟩ }
end
end Sv
namespace Sv
open PySem PySem.Spec PyProof.Rows L2
/-! ## the tables of the top -/
def Tab (K : PySem.W.Frag) (t : Addr) (vals : List V) : Prop := ∀ H, SqT K H t vals
theorem Tab.of {K : PySem.W.Frag} {t : Addr} {vals : List V} {o : Obj} {its : Array Value} {n : Nat} (h : K.lookup t = some o) (c : o.cls = .type "tuple") (d : o.data = .seq its n) (s : its.size ≤ sizeLine) (r : Vals vals its.toList) : Tab K t vals := fun H => .inr ⟨o, its, n, h, c, d, s, r⟩
def Rg (K : PySem.W.Frag) (d : Addr) (z : Str) : Option (Int × Int) → Prop
  | none => PySem.W.nsIn K d z = some none
  | some r => ∃ t, PySem.W.nsIn K d z = some (some (.ref t)) ∧ Tab K t [.int r.1, .int r.2]
def inR : Option (Int × Int) → Int → Bool
  | none, _ => true
  | some r, x => decide (r.1 ≤ x) && decide (x ≤ r.2)
section
variable (P : Program) (w : World) (K : PySem.W.Frag) (mg : Str → Option Value) (base : Heap)
def Acts (k : Nat) (ps : List Str) (sp : Nat → Sp) (fs : List Addr) : Prop := ∀ i f, fs[i]? = some f → ∃ fd, FnOk P w K mg base CX0 k f fd ps (sp i) ∧ PySem.W.keepIn K (.ref f) = true ∧ Binds K fd ps []
end
section
variable {P : Program} {w : World} {K : PySem.W.Frag} {mg : Str → Option Value} {base : Heap} {CG CL CS : Addr}
/-! ### change, respond -/
def spCh (CG : Addr) (K : PySem.W.Frag) : Sp := fun vs H Q E => ∃ (i : Nat) (g a : V), vs = [g, .int (i : Int), a] ∧ i < 10 ∧ spChange CG K i [g, a] H Q E
theorem scCh : FnScope ["graph", "operation", "arguments", "act"] ["graph", "operation", "arguments"] (defScope (top 26)) := ⟨rfl, rfl, rfl, by decide +kernel, rfl, by decide +kernel, by decide +kernel⟩
theorem ok_ch {f : Addr} {fd : FuncData} (F : Fun K "change" "change" (top 26) f fd) (T : Txt K mg CG CL CS) {t : Addr} {fs : List Addr} (hm : mg "CHANGES" = some (.ref t)) (ht : Tab K t (fs.map V.ref)) (hl : fs.length = 10) (hA : Acts P w K mg base 3 ca (fun i => spChange CG K i) fs) : FnOk P w K mg base CX0 4 f fd ["graph", "operation", "arguments"] (spCh CG K) := by
  refine F.ok scCh (fun vs H Q E h => ?_) (fun cdv A0 outer s H vs Q E hr h => ?_)
  · obtain ⟨i, g, a, rfl, _⟩ := h
    rfl
  · obtain ⟨i, g, a, rfl, hi, h⟩ := h
    have hf : fs[i]? = some fs[i] := List.getElem?_eq_getElem (by omega)
    obtain ⟨fd', gA, kp, bA⟩ := hA i _ hf
    refine ⟨_, pss_cons (ps_set (i := 3) scCh.nd rfl (.inl rfl) (pe_ix ix_tup (pe_glob (v := .ref t) rfl hm rfl) (pv 1) (fun _ _ => rfl)))
      (pss_one (ps_ret (pe_callL (i := 3) gA hr rfl (.inl rfl) kp bA .nil pass0 (pa_cons (pv 0) (pa_cons (pv 2) pa_nil))))), ?_⟩
    refine ⟨_, rfl, t, _, _, _, rfl, rfl, ht H, atI_nat (j := i) (by rw [List.getElem?_map, hf]; rfl), ?_⟩
    exact ⟨rfl, _, rfl, _, rfl, h⟩
def spRe (CG CL CS : Addr) (K : PySem.W.Frag) : Sp := fun vs H Q E => ∃ (i : Nat) (g a : V), vs = [g, .int ((10 + i : Nat) : Int), a] ∧ i < 10 ∧ spAsk CG CL CS K (10 + i) [g, a] H Q E
theorem scRe : FnScope ["surveys", "operation", "arguments", "act"] ["surveys", "operation", "arguments"] (defScope (top 50)) := ⟨rfl, rfl, rfl, by decide +kernel, rfl, by decide +kernel, by decide +kernel⟩
theorem ok_re {f : Addr} {fd : FuncData} (F : Fun K "respond" "respond" (top 50) f fd) (T : Txt K mg CG CL CS) {t : Addr} {fs : List Addr} (hm : mg "QUESTIONS" = some (.ref t)) (ht : Tab K t (fs.map V.ref)) (hl : fs.length = 10) (hA : Acts P w K mg base 6 qa (fun i => spAsk CG CL CS K (10 + i)) fs) : FnOk P w K mg base CX0 7 f fd ["surveys", "operation", "arguments"] (spRe CG CL CS K) := by
  refine F.ok scRe (fun vs H Q E h => ?_) (fun cdv A0 outer s H vs Q E hr h => ?_)
  · obtain ⟨i, g, a, rfl, _⟩ := h
    rfl
  · obtain ⟨i, g, a, rfl, hi, h⟩ := h
    have hf : fs[i]? = some fs[i] := List.getElem?_eq_getElem (by omega)
    obtain ⟨fd', gA, kp, bA⟩ := hA i _ hf
    refine ⟨_, pss_cons (ps_set (i := 3) scRe.nd rfl (.inl rfl) (pe_ix ix_tup (pe_glob (v := .ref t) rfl hm rfl) (pe_op op_sub (pv 1) (pe_num T.nQ)) (fun _ _ => rfl)))
      (pss_one (ps_ret (pe_callL (i := 3) gA hr rfl (.inl rfl) kp bA .nil pass0 (pa_cons (pv 0) (pa_cons (pv 2) pa_nil))))), ?_⟩
    have ei : ((10 + i : Nat) : Int) - 10 = (i : Int) := by omega
    refine ⟨_, rfl, _, _, rfl, rfl, t, fs.map V.ref, ((10 + i : Nat) : Int) - 10, .ref fs[i], rfl, rfl, ht H, (by rw [ei]; exact atI_nat (by rw [List.getElem?_map, hf]; rfl)), ?_⟩
    exact ⟨rfl, _, rfl, _, rfl, h⟩
/-! ### in_range -/
def spIR (K : PySem.W.Frag) (d : Addr) : Sp := fun vs H Q _ => ∃ (z : Str) (x : Int) (r : Option (Int × Int)), vs = [.str z, .int x] ∧ Rg K d z r ∧ Q (.bl (inR r x)) H
theorem scIR : FnScope ["name", "argument", "limits"] ["name", "argument"] (defScope (top 54)) := ⟨rfl, rfl, rfl, by decide +kernel, rfl, by decide +kernel, by decide +kernel⟩
theorem ok_IR {f : Addr} {fd : FuncData} (F : Fun K "in_range" "in_range" (top 54) f fd) {d : Addr} (hm : mg "RANGES" = some (.ref d)) {es : Array DictEntry} {n : Nat} (hd : KDict K w d es n) : FnOk P w K mg base CX0 1 f fd ["name", "argument"] (spIR K d) := by
  refine F.ok scIR (fun vs H Q E h => ?_) (fun cdv A0 outer s H vs Q E hr h => ?_)
  · obtain ⟨z, x, r, rfl, _⟩ := h
    rfl
  · obtain ⟨z, x, r, rfl, hz, k⟩ := h
    refine ⟨_, pss_cons (ps_set (i := 2) scIR.nd rfl (.inl rfl) (pe_kget (pe_glob (v := .ref d) rfl hm rfl) (pv 0) ⟨rfl, rfl, rfl, rfl⟩))
      (pss_one (ps_ret (pe_or (pe_cmp (pc_isN (pv 2)) rfl) (pe_one (pe_chain op_le op_le (pe_ix ix_tup (pv 2) pe_int (fun _ _ => rfl)) (pv 1) (pe_ix ix_tup (pv 2) pe_int (fun _ _ => rfl))))))), ?_⟩
    cases r with
    | none =>
      refine ⟨d, rfl, ⟨es, n, hd⟩, _, rfl, z, .non, rfl, ⟨es, n, none, hd, hz, rfl⟩, ?_⟩
      exact ⟨_, rfl, _, rfl, iteT k⟩
    | some r =>
      obtain ⟨t, h1, h2⟩ := hz
      refine ⟨d, rfl, ⟨es, n, hd⟩, _, rfl, z, .ref t, rfl, ⟨es, n, some (.ref t), hd, h1, rfl⟩, ?_⟩
      refine ⟨_, rfl, _, rfl, iteF ⟨_, rfl, t, _, _, _, rfl, rfl, h2 H, atI_nat (j := 0) rfl, _, rfl, _, _, rfl, rfl, _, rfl, ?_⟩⟩
      have k : Q (.bl (decide (r.1 ≤ x) && decide (x ≤ r.2))) H := k
      cases c : decide (r.1 ≤ x)
      · rw [c] at k
        exact iteF k
      · rw [c] at k
        refine iteT ⟨_, rfl, t, _, _, _, rfl, rfl, h2 H, atI_nat (j := 1) rfl, _, _, rfl, rfl, ?_⟩
        exact k
end
end Sv
namespace Sv
open PySem PySem.Spec PyProof.Rows L2
theorem walk_zipM {K : PySem.W.Frag} {a b : Addr} {xs ys : List V} (he : xs.length = ys.length) : Walk (ItzM K a b) ys.length (fun H => SqT K H a xs ∧ SqL K H b ys) (YPair (fun i => xs[i]?) (fun i => ys[i]?)) :=
  ⟨fun i H hi q => ⟨xs, ys, q.1, q.2, by omega, hi⟩, fun H q => ⟨xs, ys, q.1, q.2, by omega, Nat.le_refl _, .inr rfl⟩, fun i H v H' hi q ⟨T, x, y, h1, h2, h3, h4, h5⟩ => ⟨T, x, y, h1, h2, h3, h4 xs q.1, h5 ys q.2⟩⟩
def sigs : List (List Str) := [["slot", "field_count"], ["target", "source"], ["slot"], ["target", "source", "field"], ["target", "field", "source"], ["slot"], ["object_number", "slot"], ["foreign", "slot"], ["object_number"], [], [], ["index"], ["index", "kind", "number"], [], [], ["path_source", "kind", "number"], ["kind", "number"], ["number"], [], []]
def rngs : List (Str × Int × Int) := [("slot", 0, 5), ("target", 0, 5), ("source", 0, 5), ("field_count", 0, 4), ("field", 0, 3), ("foreign", 1, 20), ("kind", 1, 2)]
def rng (z : Str) : Option (Int × Int) := rngs.lookup z
def allIn (ns : List Str) (a : List Int) : Bool := (ns.zip a).all fun p => inR (rng p.1) p.2
theorem r_slot : rng "slot" = some (0, 5) := by decide +kernel
theorem r_target : rng "target" = some (0, 5) := by decide +kernel
theorem r_source : rng "source" = some (0, 5) := by decide +kernel
theorem r_fc : rng "field_count" = some (0, 4) := by decide +kernel
theorem r_field : rng "field" = some (0, 3) := by decide +kernel
theorem r_foreign : rng "foreign" = some (1, 20) := by decide +kernel
theorem r_kind : rng "kind" = some (1, 2) := by decide +kernel
theorem r_on : rng "object_number" = none := by decide +kernel
theorem r_index : rng "index" = none := by decide +kernel
theorem r_number : rng "number" = none := by decide +kernel
theorem r_ps : rng "path_source" = none := by decide +kernel
theorem inR_some (l h x : Int) : inR (some (l, h)) x = (decide (l ≤ x) && decide (x ≤ h)) := rfl
theorem all_ok : ∀ {n : Nat} {ns : List Str} {a : List Int}, sigs[n]? = some ns → a.length = ns.length → allIn ns a = okArgs n a
  | 0, _, [s, f], rfl, _ => by
    show (inR (rng "slot") s && (inR (rng "field_count") f && true)) = (Vbxlaf.isSlot s && Vbxlaf.inRange f 0 4)
    rw [r_slot, r_fc, Bool.and_true]; rfl
  | 1, _, [t, s], rfl, _ => by
    show (inR (rng "target") t && (inR (rng "source") s && true)) = (Vbxlaf.isSlot t && Vbxlaf.isSlot s)
    rw [r_target, r_source, Bool.and_true]; rfl
  | 2, _, [s], rfl, _ => by
    show (inR (rng "slot") s && true) = Vbxlaf.isSlot s
    rw [r_slot, Bool.and_true]; rfl
  | 3, _, [t, s, f], rfl, _ => by
    show (inR (rng "target") t && (inR (rng "source") s && (inR (rng "field") f && true))) = (Vbxlaf.isSlot t && (Vbxlaf.isSlot s && Vbxlaf.inRange f 0 3))
    rw [r_target, r_source, r_field, Bool.and_true]; rfl
  | 4, _, [t, f, s], rfl, _ => by
    show (inR (rng "target") t && (inR (rng "field") f && (inR (rng "source") s && true))) = (Vbxlaf.isSlot t && (Vbxlaf.isSlot s && Vbxlaf.inRange f 0 3))
    rw [r_target, r_source, r_field, Bool.and_true, Bool.and_comm (inR (some (0, 3)) f)]; rfl
  | 5, _, [s], rfl, _ => by
    show (inR (rng "slot") s && true) = Vbxlaf.isSlot s
    rw [r_slot, Bool.and_true]; rfl
  | 6, _, [o, s], rfl, _ => by
    show (inR (rng "object_number") o && (inR (rng "slot") s && true)) = Vbxlaf.isSlot s
    rw [r_on, r_slot, Bool.and_true]; rfl
  | 7, _, [f, s], rfl, _ => by
    show (inR (rng "foreign") f && (inR (rng "slot") s && true)) = (Vbxlaf.inRange f 1 20 && Vbxlaf.isSlot s)
    rw [r_foreign, r_slot, Bool.and_true]; rfl
  | 8, _, [o], rfl, _ => by
    show (inR (rng "object_number") o && true) = true
    rw [r_on]; rfl
  | 9, _, [], rfl, _ => rfl
  | 10, _, [], rfl, _ => rfl
  | 11, _, [i], rfl, _ => by
    show (inR (rng "index") i && true) = true
    rw [r_index]; rfl
  | 12, _, [i, k, m], rfl, _ => by
    show (inR (rng "index") i && (inR (rng "kind") k && (inR (rng "number") m && true))) = Vbxlaf.inRange k 1 2
    rw [r_index, r_kind, r_number]
    show (true && (inR (some (1, 2)) k && true)) = _
    rw [Bool.and_true, Bool.true_and]; rfl
  | 13, _, [], rfl, _ => rfl
  | 14, _, [], rfl, _ => rfl
  | 15, _, [s, k, m], rfl, _ => by
    show (inR (rng "path_source") s && (inR (rng "kind") k && (inR (rng "number") m && true))) = Vbxlaf.inRange k 1 2
    rw [r_ps, r_kind, r_number]
    show (true && (inR (some (1, 2)) k && true)) = _
    rw [Bool.and_true, Bool.true_and]; rfl
  | 16, _, [k, m], rfl, _ => by
    show (inR (rng "kind") k && (inR (rng "number") m && true)) = Vbxlaf.inRange k 1 2
    rw [r_kind, r_number]
    show (inR (some (1, 2)) k && true) = _
    rw [Bool.and_true]; rfl
  | 17, _, [i], rfl, _ => by
    show (inR (rng "number") i && true) = true
    rw [r_number]; rfl
  | 18, _, [], rfl, _ => rfl
  | 19, _, [], rfl, _ => rfl
theorem not_ok {st : St0} : ∀ {n : Nat} {ns : List Str} {a : List Int}, sigs[n]? = some ns → a.length = ns.length → okArgs n a = false → specStep st n a = (st, [-1])
  | 0, _, [s, f], rfl, _, h => by
    show (if (Vbxlaf.isSlot s && Vbxlaf.inRange f 0 Vbxlaf.maxFields) = false then _ else _) = _
    exact if_pos h
  | 1, _, [t, s], rfl, _, h => by
    show (if (Vbxlaf.isSlot t && Vbxlaf.isSlot s) = false then _ else _) = _
    exact if_pos h
  | 2, _, [s], rfl, _, h => by
    show (if Vbxlaf.isSlot s = false then _ else _) = _
    exact if_pos h
  | 3, _, [t, s, f], rfl, _, h => by
    show (if (Vbxlaf.isSlot t && (Vbxlaf.isSlot s && Vbxlaf.inRange f 0 (Vbxlaf.maxFields - 1))) = false then _ else _) = _
    exact if_pos h
  | 4, _, [t, f, s], rfl, _, h => by
    show (if (Vbxlaf.isSlot t && (Vbxlaf.isSlot s && Vbxlaf.inRange f 0 (Vbxlaf.maxFields - 1))) = false then _ else _) = _
    exact if_pos h
  | 5, _, [s], rfl, _, h => by
    show (if Vbxlaf.isSlot s = false then _ else _) = _
    exact if_pos h
  | 6, _, [o, s], rfl, _, h => by
    show (if Vbxlaf.isSlot s = false then _ else _) = _
    exact if_pos h
  | 7, _, [f, s], rfl, _, h => by
    show (if (Vbxlaf.inRange f 1 Vbxlaf.maxForeign && Vbxlaf.isSlot s) = false then _ else _) = _
    exact if_pos h
  | 8, _, [o], rfl, _, h => by cases h
  | 9, _, [], rfl, _, h => by cases h
  | 10, _, [], rfl, _, h => by cases h
  | 11, _, [i], rfl, _, h => by cases h
  | 12, _, [i, k, m], rfl, _, h => by
    show (if Vbxlaf.inRange k 1 2 = false then _ else _) = _
    exact if_pos h
  | 13, _, [], rfl, _, h => by cases h
  | 14, _, [], rfl, _, h => by cases h
  | 15, _, [s, k, m], rfl, _, h => by
    show (if Vbxlaf.inRange k 1 2 = false then _ else _) = _
    exact if_pos h
  | 16, _, [k, m], rfl, _, h => by
    show (if Vbxlaf.inRange k 1 2 = false then _ else _) = _
    exact if_pos h
  | 17, _, [i], rfl, _, h => by cases h
  | 18, _, [], rfl, _, h => by cases h
  | 19, _, [], rfl, _, h => by cases h
structure SigT (K : PySem.W.Frag) (t : Addr) : Prop where
  ex : ∃ ts : List Addr, Tab K t (ts.map V.ref) ∧ ∀ (i : Nat) (ns : List Str), sigs[i]? = some ns → ∃ a, ts[i]? = some a ∧ Tab K a (ns.map V.str)
section
variable {P : Program} {w : World} {K : PySem.W.Frag} {mg : Str → Option Value} {base : Heap} {CG CL CS : Addr}
/-! ### answer_call -/
def spAC (CG CL CS : Addr) (K : PySem.W.Frag) : Sp := fun vs H Q _ => ∃ (A : Gr) (B : Su) (st : St0) (al : Addr) (n : Nat) (a : List Int) (ns : List Str), vs = [.ref B.sv, .int (n : Int), .ref al] ∧ SInv CG CL CS H A B st ∧ Pst st ∧ H al = some (.lst (a.map V.int)) ∧ al ∉ feet A B st ∧ sigs[n]? = some ns ∧ a.length = ns.length ∧
  ∀ H' A' B' p, B'.sv = B.sv → SInv CG CL CS H' A' B' (specStep st n a).1 → Pst (specStep st n a).1 → Fr (feet A B st) H (feet A' B' (specStep st n a).1) H' → H' p = some (.lst ((specStep st n a).2.map V.int)) → Q (.ref p) H'
theorem scAC : FnScope ["surveys", "operation", "arguments", "name", "argument"] ["surveys", "operation", "arguments"] (defScope (top 55)) := ⟨rfl, rfl, rfl, by decide +kernel, rfl, by decide +kernel, by decide +kernel⟩
theorem ok_AC {f : Addr} {fd : FuncData} (F : Fun K "answer_call" "answer_call" (top 55) f fd) (T : Txt K mg CG CL CS) {t d : Addr} (hm : mg "SIGNATURES" = some (.ref t)) (hS : SigT K t) (hR : ∀ (z : Str) (ns : List Str), ns ∈ sigs → z ∈ ns → Rg K d z (rng z))
    (cI : Callee P w K mg base 1 "in_range" ["name", "argument"] (spIR K d)) (cC : Callee P w K mg base 4 "change" ["graph", "operation", "arguments"] (spCh CG K)) (cR : Callee P w K mg base 7 "respond" ["surveys", "operation", "arguments"] (spRe CG CL CS K)) :
    FnOk P w K mg base CX0 8 f fd ["surveys", "operation", "arguments"] (spAC CG CL CS K) := by
  obtain ⟨fI, fdI, gI, mgI, kpI, bI⟩ := cI
  obtain ⟨fC, fdC, gC, mgC, kpC, bC⟩ := cC
  obtain ⟨fR, fdR, gR, mgR, kpR, bR⟩ := cR
  refine F.ok scAC (fun vs H Q E h => ?_) (fun cdv A0 outer s H vs Q E hr h => ?_)
  · obtain ⟨A, B, st, al, n, a, ns, rfl, _⟩ := h
    rfl
  · obtain ⟨A, B, st, al, n, a, ns, rfl, I, PI, hal, aln, hn, hlen, k⟩ := h
    have hr1 : Room 1 _ := hr.mono (by decide)
    have hr4 : Room 4 _ := hr.mono (by decide)
    obtain ⟨ts, hts, hsig⟩ := hS.ex
    obtain ⟨ta, hta, hta2⟩ := hsig n ns hn
    have nin := List.mem_of_getElem? hn
    have n20 : n < 20 := (List.getElem?_eq_some_iff.mp hn).1
    refine ⟨_, pss_cons (ps_for PassesOwn.never rfl (pi_zipM (by rfl) T.bZip (pa_cons (pe_ix ix_tup (pe_glob (v := .ref t) rfl hm rfl) (pv 1) (fun _ _ => rfl)) (pa_cons (pv 2) pa_nil))) (pg_tup (n := 2) rfl (pgs_cons (pg_name (i := 3) scAC.nd rfl (Or.inl rfl)) (pgs_cons (pg_name (i := 4) scAC.nd rfl (Or.inl rfl)) pgs_nil)))
        (pss_one (ps_if (pt_not (pt_val (pe_call gI hr1 rfl mgI kpI bI .nil pass0 (pa_cons (pv 3) (pa_cons (pv 4) pa_nil))))) (pss_one (ps_ret (pe_lst (pa_cons (pe_num T.n1) pa_nil)))) pss_nil)))
      (pss_cons (ps_if (pt_cmpR op_lt (pv 1) (pe_num T.nQ) (nomark _)) (pss_one (ps_ret (pe_call gC hr4 rfl mgC kpC bC .nil pass0 (pa_cons (pe_fld (pv 0) rfl) (pa_cons (pv 1) (pa_cons (pv 2) pa_nil)))))) pss_nil)
      (pss_one (ps_ret (pe_call gR hr rfl mgR kpR bR .nil pass0 (pa_cons (pv 0) (pa_cons (pv 1) (pa_cons (pv 2) pa_nil))))))), ?_⟩
    refine ⟨_, rfl, t, _, _, _, rfl, rfl, hts H, atI_nat (j := n) (by rw [List.getElem?_map, hta]; rfl), _, rfl, ta, al, ns.map V.str, a.map V.int, rfl, hta2 H, SqL.of hal, ?_⟩
    have es := all_ok hn hlen
    refine for_it (walk_zipM (K := K) (a := ta) (b := al) (xs := ns.map V.str) (ys := a.map V.int) (by rw [List.length_map, List.length_map, hlen])) (fun i σ H' => ∃ v3 v4 : Option V, σ = [some (.ref B.sv), some (.int (n : Int)), some (.ref al), v3, v4] ∧ Same H H' ∧ allIn (ns.take i) (a.take i) = true)
      ⟨none, none, rfl, Same.refl H, rfl⟩ (fun i σ H' _ ⟨_, _, _, s, _⟩ => ⟨hta2 H', SqL.of (s _ _ hal)⟩) ?_ ?_
    · rintro i x σ H' H'' hi ⟨v3, v4, rfl, s1, hall⟩ ⟨T0, x0, y0, rfl, hT0, rfl, hx, hy⟩
      obtain ⟨z, hz, rfl⟩ := get_map hx
      obtain ⟨c, hc, rfl⟩ := get_map hy
      have s2 : Same H' (upd H' T0 (.tup [.str z, .int c])) := Same.fresh hT0
      have zip1 : (ns.take (i + 1)).zip (a.take (i + 1)) = (ns.take i).zip (a.take i) ++ [(z, c)] := by
        have l1 : (ns.take i).length = (a.take i).length := by rw [List.length_take, List.length_take, hlen]
        rw [take_snoc hz, take_snoc hc, List.zip_append l1]; rfl
      refine ⟨T0, _, rfl, SqT.of upd_same, rfl, _, _, rfl, _, _, rfl, rfl, ?_⟩
      refine ⟨_, rfl, _, rfl, z, c, rng z, rfl, hR z ns nin (List.mem_of_getElem? hz), _, rfl, ?_⟩
      cases b : inR (rng z) c
      · have no : okArgs n a = false := by
          rw [← es]
          unfold allIn
          rw [List.all_eq_false]
          have hz2 : (ns.zip a)[i]? = some (z, c) := by rw [List.getElem?_zip_eq_some]; exact ⟨hz, hc⟩
          exact ⟨(z, c), List.mem_of_getElem? hz2, by simp [b]⟩
        rw [not_ok hn hlen no] at k
        refine iteT ⟨(by show 1 ≤ sizeLine; decide), fun p hp => ?_⟩
        have sA := (s1.trans s2).trans (Same.fresh (o := .lst [.int (-1)]) hp)
        exact k _ A B p rfl (I.same sA) PI (Fr.same sA) upd_same
      · refine iteF ⟨_, _, rfl, s1.trans s2, ?_⟩
        unfold allIn at hall ⊢
        rw [zip1, List.all_append, hall]
        simp [b]
    · rintro σ H' ⟨v3, v4, rfl, s1, hall⟩
      rw [List.length_map, List.take_length, hlen, List.take_length, es] at hall
      have I1 := I.same s1
      obtain ⟨b1, b2, b3, b4⟩ := sF_get I1 T 0 kS_graph rfl
      refine ⟨_, rfl, _, _, rfl, rfl, _, rfl, ?_⟩
      by_cases c : n < 10
      · rw [decide_eq_true (by omega)]
        refine iteT ⟨_, rfl, B.sv, CS, B.svx, _, _, rfl, b1, b2, b3, b4, _, rfl, _, rfl, ?_⟩
        refine ⟨n, _, _, rfl, c, A, st, al, a, rfl, I1.g, PI.p.w, s1 _ _ hal, fun m => aln (List.mem_cons_of_mem _ (List.mem_cons_of_mem _ m)), hall, fun H2 A2 p hg g2 fr hp => ?_⟩
        obtain ⟨I2, fr2⟩ := I1.change (kp_step PI.p c hall) g2 hg fr
        exact k H2 A2 B p rfl I2 (pst_step PI n20 hall) ((Fr.same s1).trans fr2) hp
      · rw [decide_eq_false (by omega)]
        refine iteF ⟨_, rfl, _, rfl, _, rfl, ?_⟩
        obtain ⟨m, rfl⟩ : ∃ m, n = 10 + m := ⟨n - 10, by omega⟩
        refine ⟨m, _, _, rfl, by omega, A, B, st, al, a, rfl, I1, PI, s1 _ _ hal, aln, hall, fun H2 A2 B2 p hB I2 fr hp => ?_⟩
        exact k H2 A2 B2 p hB I2 (pst_step PI n20 hall) ((Fr.same s1).trans fr) hp
end
end Sv
namespace Sv
open PySem PySem.Spec PyProof.Rows L2
/-! ## the list of calls, call by call -/
theorem shape_nat {p : Int} {x : Nat × Nat} (h : PyVbxlaf.shape p = some x) : ∃ n : Nat, p = (n : Int) ∧ ∃ ns, sigs[n]? = some ns ∧ x = (ns.length, 0) := by
  by_cases h0 : p = 0
  · subst h0
    have h : some (2, 0) = some x := h
    exact ⟨0, rfl, _, rfl, (Option.some.inj h).symm⟩
  by_cases h1 : p = 1
  · subst h1
    have h : some (2, 0) = some x := h
    exact ⟨1, rfl, _, rfl, (Option.some.inj h).symm⟩
  by_cases h2 : p = 2
  · subst h2
    have h : some (1, 0) = some x := h
    exact ⟨2, rfl, _, rfl, (Option.some.inj h).symm⟩
  by_cases h3 : p = 3
  · subst h3
    have h : some (3, 0) = some x := h
    exact ⟨3, rfl, _, rfl, (Option.some.inj h).symm⟩
  by_cases h4 : p = 4
  · subst h4
    have h : some (3, 0) = some x := h
    exact ⟨4, rfl, _, rfl, (Option.some.inj h).symm⟩
  by_cases h5 : p = 5
  · subst h5
    have h : some (1, 0) = some x := h
    exact ⟨5, rfl, _, rfl, (Option.some.inj h).symm⟩
  by_cases h6 : p = 6
  · subst h6
    have h : some (2, 0) = some x := h
    exact ⟨6, rfl, _, rfl, (Option.some.inj h).symm⟩
  by_cases h7 : p = 7
  · subst h7
    have h : some (2, 0) = some x := h
    exact ⟨7, rfl, _, rfl, (Option.some.inj h).symm⟩
  by_cases h8 : p = 8
  · subst h8
    have h : some (1, 0) = some x := h
    exact ⟨8, rfl, _, rfl, (Option.some.inj h).symm⟩
  by_cases h9 : p = 9
  · subst h9
    have h : some (0, 0) = some x := h
    exact ⟨9, rfl, _, rfl, (Option.some.inj h).symm⟩
  by_cases h10 : p = 10
  · subst h10
    have h : some (0, 0) = some x := h
    exact ⟨10, rfl, _, rfl, (Option.some.inj h).symm⟩
  by_cases h11 : p = 11
  · subst h11
    have h : some (1, 0) = some x := h
    exact ⟨11, rfl, _, rfl, (Option.some.inj h).symm⟩
  by_cases h12 : p = 12
  · subst h12
    have h : some (3, 0) = some x := h
    exact ⟨12, rfl, _, rfl, (Option.some.inj h).symm⟩
  by_cases h13 : p = 13
  · subst h13
    have h : some (0, 0) = some x := h
    exact ⟨13, rfl, _, rfl, (Option.some.inj h).symm⟩
  by_cases h14 : p = 14
  · subst h14
    have h : some (0, 0) = some x := h
    exact ⟨14, rfl, _, rfl, (Option.some.inj h).symm⟩
  by_cases h15 : p = 15
  · subst h15
    have h : some (3, 0) = some x := h
    exact ⟨15, rfl, _, rfl, (Option.some.inj h).symm⟩
  by_cases h16 : p = 16
  · subst h16
    have h : some (2, 0) = some x := h
    exact ⟨16, rfl, _, rfl, (Option.some.inj h).symm⟩
  by_cases h17 : p = 17
  · subst h17
    have h : some (1, 0) = some x := h
    exact ⟨17, rfl, _, rfl, (Option.some.inj h).symm⟩
  by_cases h18 : p = 18
  · subst h18
    have h : some (0, 0) = some x := h
    exact ⟨18, rfl, _, rfl, (Option.some.inj h).symm⟩
  by_cases h19 : p = 19
  · subst h19
    have h : some (0, 0) = some x := h
    exact ⟨19, rfl, _, rfl, (Option.some.inj h).symm⟩
  have e : PyVbxlaf.shape p = none := by
    unfold PyVbxlaf.shape
    rw [if_neg h0, if_neg h1, if_neg h2, if_neg h3, if_neg h4, if_neg h5, if_neg h6, if_neg h7, if_neg h8, if_neg h9, if_neg h10, if_neg h11, if_neg h12, if_neg h13, if_neg h14, if_neg h15, if_neg h16, if_neg h17, if_neg h18, if_neg h19]
  rw [e] at h; cases h
theorem whole_is : ∀ {n : Nat} {ns : List Str} {a : List Int}, sigs[n]? = some ns → a.length = ns.length → PyVbxlaf.whole [(n : Int) :: a] = [(n : Int) :: a]
  | 0, _, [_, _], rfl, _ => rfl
  | 1, _, [_, _], rfl, _ => rfl
  | 2, _, [_], rfl, _ => rfl
  | 3, _, [_, _, _], rfl, _ => rfl
  | 4, _, [_, _, _], rfl, _ => rfl
  | 5, _, [_], rfl, _ => rfl
  | 6, _, [_, _], rfl, _ => rfl
  | 7, _, [_, _], rfl, _ => rfl
  | 8, _, [_], rfl, _ => rfl
  | 9, _, [], rfl, _ => rfl
  | 10, _, [], rfl, _ => rfl
  | 11, _, [_], rfl, _ => rfl
  | 12, _, [_, _, _], rfl, _ => rfl
  | 13, _, [], rfl, _ => rfl
  | 14, _, [], rfl, _ => rfl
  | 15, _, [_, _, _], rfl, _ => rfl
  | 16, _, [_, _], rfl, _ => rfl
  | 17, _, [_], rfl, _ => rfl
  | 18, _, [], rfl, _ => rfl
  | 19, _, [], rfl, _ => rfl
/-- the first call of what is left -/
theorem calls_cons {f : Nat} {p : Int} {r : List Int} {cs : List (List (List Int))} (h : PyFlat.calls PyVbxlaf.shape f (p :: r) = some cs) :
    ∃ (n : Nat) (ns : List Str) (f' : Nat) (cs' : List (List (List Int))), p = (n : Int) ∧ sigs[n]? = some ns ∧ ns.length ≤ r.length ∧ cs = [(n : Int) :: r.take ns.length] :: cs' ∧ PyFlat.calls PyVbxlaf.shape f' (r.drop ns.length) = some cs' := by
  cases f with
  | zero => cases h
  | succ f =>
    unfold PyFlat.calls at h
    cases e : PyFlat.call PyVbxlaf.shape (p :: r) with
    | none => rw [e] at h; cases h
    | some ct =>
      obtain ⟨c, t⟩ := ct
      rw [e] at h
      have h : (match PyFlat.calls PyVbxlaf.shape f t with | none => none | some cs => some (c :: cs)) = some cs := h
      cases e2 : PyFlat.calls PyVbxlaf.shape f t with
      | none => rw [e2] at h; cases h
      | some cs' =>
        rw [e2] at h
        have hcs := Option.some.inj h
        have e : (match PyVbxlaf.shape p with
          | none => none
          | some (n, k) => if r.length < n then none else match PyFlat.rows k (r.drop n) with
            | none => none
            | some (xs, t) => some ((p :: r.take n) :: xs, t)) = some (c, t) := e
        cases e3 : PyVbxlaf.shape p with
        | none => rw [e3] at e; cases e
        | some x =>
          rw [e3] at e
          obtain ⟨n, rfl, ns, hn, rfl⟩ := shape_nat e3
          have e : (if r.length < ns.length then none else some (((n : Int) :: r.take ns.length) :: [], r.drop ns.length)) = some (c, t) := e
          by_cases c0 : r.length < ns.length
          · rw [if_pos c0] at e; cases e
          · rw [if_neg c0] at e
            have e := Option.some.inj e
            injection e with e4 e5
            subst e4 e5
            exact ⟨n, ns, f, cs', rfl, hn, by omega, hcs.symm, e2⟩
theorem cut_is {l : List Int} {j k : Nat} (h : j + k ≤ l.length) : cutV (l.map V.int) (some (j : Int)) (some ((j + k : Nat) : Int)) = ((l.drop j).take k).map V.int := by
  unfold cutV
  rw [HT.sIx_nat, HT.sIx_nat, List.length_map, Nat.min_eq_left (show j ≤ l.length by omega), Nat.min_eq_left h, Nat.add_sub_cancel_left, List.map_take, List.map_drop]
end Sv
namespace Sv
open PySem PySem.Spec PyProof.Rows L2
/-! ## what is marked is not used -/
def NoF (c : HO) : Prop := ∀ od u, c ≠ .frz od u
section
variable {CG CL CS : Addr} {H : Hp} {A : Gr} {B : Su} {st : St0} {g : Addr} {od : Obj} {u o : HO}
theorem mark_keep (h : H g = some (.frz od u)) : ∀ b c, H b = some c → NoF c → upd H g o b = some c := fun b c e n => by
  rw [upd_ne (fun z => by rw [z, h] at e; exact n _ _ (Option.some.inj e).symm)]; exact e
theorem GInv.mark (I : GInv CG H A st) (h : H g = some (.frz od u)) : GInv CG (upd H g o) A st := by
  have k := mark_keep (o := o) h
  have tu : Tups H (upd H g o) := fun b xs e => k b _ e (by intro _ _ z; cases z)
  exact { I with
    ob := k _ _ I.ob (by intro _ _ z; cases z)
    slots := I.slots.keep (fun xs e => k _ _ e (by intro _ _ z; cases z)) tu
    fd := k _ _ I.fd (by intro _ _ z; cases z)
    fl := fun p hp => (I.fl p hp).keep (fun xs e => k _ _ e (by intro _ _ z; cases z)) tu
    sd := k _ _ I.sd (by intro _ _ z; cases z)
    cd := k _ _ I.cd (by intro _ _ z; cases z)
    nd := k _ _ I.nd (by intro _ _ z; cases z) }
theorem SInv.mark (I : SInv CG CL CS H A B st) (h : H g = some (.frz od u)) : SInv CG CL CS (upd H g o) A B st := by
  have k := mark_keep (o := o) h
  have ko : ∀ b c, off (feet A B st) H b = some c → NoF c → off (feet A B st) (upd H g o) b = some c := fun b c e n => by
    obtain ⟨e1, e2⟩ := off_some.mp e
    exact off_some.mpr ⟨e1, k b c e2 n⟩
  have kr : ∀ {d : Addr} {R : Vbxlaf.Reach}, IsReach (off (feet A B st) H) d R → IsReach (off (feet A B st) (upd H g o)) d R := fun ⟨L, h1, h2⟩ => ⟨L, ko _ _ h1 (by intro _ _ z; cases z), h2⟩
  obtain ⟨xs, hx, rs⟩ := I.ml
  exact {
    g := I.g.mark h
    ob := k _ _ I.ob (by intro _ _ z; cases z)
    sn := I.sn
    ml := ⟨xs, k _ _ hx (by intro _ _ z; cases z), Paired.mapP rs fun x ls ⟨d, kvs, e, h1, h2⟩ => ⟨d, kvs, e, ko _ _ h1 (by intro _ _ z; cases z), Paired.mapP h2 fun kv l ⟨e1, la, dx, sa, e2, h3, h4⟩ => ⟨e1, la, dx, sa, e2, ko _ _ h3 (by intro _ _ z; cases z), ko _ _ h4 (by intro _ _ z; cases z)⟩⟩⟩
    mn := I.mn
    lr := ko _ _ I.lr (by intro _ _ z; cases z)
    last := fun hs => by
      obtain ⟨⟨d, e, q⟩, r⟩ := I.last hs
      exact ⟨⟨d, e, kr q⟩, fun p hp => by
        obtain ⟨d, e, q⟩ := r p hp
        exact ⟨d, e, kr q⟩⟩ }
end
section
variable {P : Program} {w : World} {K : PySem.W.Frag} {mg : Str → Option Value} {base : Heap} {CG CL CS : Addr}
/-! ### answers -/
def spAns (K : PySem.W.Frag) : Sp := fun vs H Q _ => ∃ (a : Addr) (l : List Int), vs = [.ref a] ∧ SqL K H a (l.map V.int) ∧ PyVbxlaf.answers_asked l = true ∧ ∀ H' p, H' p = some (.lst ((PyVbxlaf.answers l).map V.int)) → Q (.ref p) H'
theorem asked_raw {l : List Int} (h : PyVbxlaf.answers_asked l = true) : ∃ raw, PyFlat.calls PyVbxlaf.shape l.length l = some raw ∧ PyVbxlaf.answers l = PyFlat.told (PyFlat.played VbxlafNeutral.step VbxlafNeutral.start (raw.map PyVbxlaf.whole)) ∧ (PyVbxlaf.answers l).length ≤ 10000000 := by
  unfold PyVbxlaf.answers_asked at h
  cases e : PyFlat.calls PyVbxlaf.shape l.length l with
  | none => rw [e] at h; cases h
  | some raw =>
    rw [e] at h
    refine ⟨raw, rfl, ?_, ?_⟩
    · unfold PyVbxlaf.answers PyVbxlaf.calls
      rw [e]
    · obtain ⟨_, h2⟩ := Bool.and_eq_true_iff.mp h
      exact of_decide_eq_true h2
theorem scAns : FnScope ["calls", "surveys", "given", "place", "operation", "behind", "answer"] ["calls"] (defScope (top 56)) := ⟨rfl, rfl, rfl, by decide +kernel, rfl, by decide +kernel, by decide +kernel⟩
theorem ok_ans {f : Addr} {fd : FuncData} (F : Fun K "answers" "answers" (top 56) f fd) (T : Txt K mg CG CL CS) {t : Addr} (hm : mg "SIGNATURES" = some (.ref t)) (hS : SigT K t) (mkG : Made P w K mg base CG 2 ["self"] (spGInit CG)) (mkS : Made P w K mg base CS 1 ["self", "graph"] (spSInit CG CL CS)) (cA : Callee P w K mg base 8 "answer_call" ["surveys", "operation", "arguments"] (spAC CG CL CS K)) :
    FnOk P w K mg base CX0 9 f fd ["calls"] (spAns K) := by
  obtain ⟨fG, fdG, gG, MG, bG⟩ := mkG
  obtain ⟨fS, fdS, gS, MS, bS⟩ := mkS
  obtain ⟨fA, fdA, gA, mgA, kpA, bA⟩ := cA
  refine F.ok scAns (fun vs H Q E h => ?_) (fun cdv A0 outer s H vs Q E hr h => ?_)
  · obtain ⟨a, l, rfl, _⟩ := h
    rfl
  · obtain ⟨a, l, rfl, hl, hask, k⟩ := h
    have hr2 : Room 2 _ := hr.mono (by decide)
    have hr3 : Room 3 _ := hr.mono (by decide)
    obtain ⟨ts, hts, hsig⟩ := hS.ex
    obtain ⟨raw, hraw, hans, hshort⟩ := asked_raw hask
    refine ⟨_, pss_cons (ps_set (i := 1) scAns.nd rfl (.inl rfl) (pe_make MS gS hr2 rfl T.gS bS .nil pass0 (pa_cons (pe_make0 MG gG hr3 rfl T.gG bG .nil pass0) pa_nil)))
      (pss_cons (ps_set (i := 2) scAns.nd rfl (.inl rfl) (pe_lst pa_nil))
      (pss_cons (ps_set (i := 3) scAns.nd rfl (.inl rfl) pe_int)
      (pss_cons (ps_while PassesOwn.never (pt_cmpR op_lt (pv 3) (pe_callB call_len_seq (by rfl) T.bLen PySem.boot_len (pa_cons (pv 0) pa_nil)) (nomark _))
        (pss_cons (ps_set (i := 4) scAns.nd rfl (.inl rfl) (pe_ix ix_list (pv 0) (pv 3) (fun _ _ => rfl)))
        (pss_cons (ps_set (i := 5) scAns.nd rfl (.inl rfl) (pe_op op_add (pe_op op_add (pv 3) pe_int) (pe_callB call_len_seq (by rfl) T.bLen PySem.boot_len (pa_cons (pe_ix ix_tup (pe_glob (v := .ref t) rfl hm rfl) (pv 4) (fun _ _ => rfl)) pa_nil))))
        (pss_cons (ps_set (i := 6) scAns.nd rfl (.inl rfl) (pe_lock (pe_call gA hr rfl mgA kpA bA .nil pass0 (pa_cons (pv 1) (pa_cons (pv 4) (pa_cons (pe_slice sl_list (pv 0) (po_some (pe_op op_add (pv 3) pe_int)) (po_some (pv 5))) pa_nil))))))
        (pss_cons (ps_expr (pe_bm PySem.F.plainAttrs_list PySem.F.slot_list_append PySem.F.type_list_append mt_append (pv 2) (pa_cons (pe_callB call_len_seq (by rfl) T.bLen PySem.boot_len (pa_cons (pv 6) pa_nil)) pa_nil)))
        (pss_cons (ps_expr (pe_bm PySem.F.plainAttrs_list PySem.F.slot_list_extend PySem.F.type_list_extend mt_extend (pv 2) (pa_cons (pv 6) pa_nil)))
        (pss_one (ps_set (i := 3) scAns.nd rfl (.inl rfl) (pv 5)))))))))
      (pss_one (ps_ret (pv 2)))))), ?_⟩
    -- surveys = Surveys(Graph())
    intro xg dg hxg hdg ngd
    refine ⟨xg, dg, rfl, upd_same, fun H1 A1 hA1 G1 k1 fresh1 => ⟨rfl, ?_⟩⟩
    have s1 : Same H H1 := Same.made hxg hdg k1
    intro xs dx hxs hdx nsd
    refine ⟨xs, dx, A1, by rw [hA1]; rfl, upd_same, ?_, fun H2 B1 hB1 I2 k2 fresh2 => ⟨rfl, ?_⟩⟩
    · exact G1.same ((Same.fresh hdx).trans (Same.fresh (by rw [upd_ne nsd.symm]; exact hxs)))
    have s2 : Same H1 H2 := Same.made hxs hdx k2
    -- given = []
    refine ⟨Nat.zero_le _, fun gv hgv => ?_⟩
    have s12 := s1.trans s2
    have gv0 : H gv = none := s12.free hgv
    have od0 : Obj := ⟨.none, none, .fields #[], #[]⟩
    have mark0 : SInv CG CL CS (upd (upd H2 gv (.lst [])) gv (.frz od0 (.lst []))) A1 B1 Vbxlaf.initialState := by
      rw [upd_upd]; exact I2.same (Same.fresh hgv)
    have gvn : gv ∉ feet A1 B1 Vbxlaf.initialState := I2.new hgv
    have notin : ∀ b o, H b = some o → b ∉ feet A1 B1 Vbxlaf.initialState := fun b o e m => by
      have up1 : ∀ c, upd (upd H dg (.own xg)) xg (.ins CG dg []) c = none → c ≠ xg → c ≠ dg → H c = none := fun c h1 h2 h3 => by rwa [upd_ne h2, upd_ne h3] at h1
      have e0 : upd (upd H dg (.own xg)) xg (.ins CG dg []) b = some o := by rw [upd_ne (ne_of_none e hxg), upd_ne (ne_of_none e hdg)]; exact e
      have e1 := s1 _ _ e
      have e2 : upd (upd H1 dx (.own xs)) xs (.ins CS dx []) b = some o := by rw [upd_ne (ne_of_none e1 hxs), upd_ne (ne_of_none e1 hdx)]; exact e1
      obtain ⟨q1, q2, q3, q4, q5⟩ := fresh1
      rcases List.mem_cons.mp m with z | m
      · rw [z, hB1, hxs] at e1; cases e1
      · rcases List.mem_cons.mp m with z | m
        · rw [z, fresh2] at e2; cases e2
        · rcases foot_cases m with z | z | z | z | z | z | ⟨p, hp, _⟩
          · rw [z, hA1, hxg] at e; cases e
          · rw [z, q1] at e0; cases e0
          · rw [z, q2] at e0; cases e0
          · rw [z, q3] at e0; cases e0
          · rw [z, q4] at e0; cases e0
          · rw [z, q5] at e0; cases e0
          · cases hp
    refine ⟨fun m σ H' => ∃ (j f : Nat) (cs : List (List (List Int))) (g : List Int) (st : St0) (A : Gr) (B : Su) (od : Obj) (u : HO) (v4 v5 v6 : Option V), σ = [some (.ref a), some (.ref B.sv), some (.ref gv), some (.int (j : Int)), v4, v5, v6] ∧ Same H H' ∧ H' gv = some (.lst (g.map V.int)) ∧
      SInv CG CL CS (upd H' gv (.frz od u)) A B st ∧ Pst st ∧ gv ∉ feet A B st ∧ (∀ b o, H b = some o → b ∉ feet A B st) ∧ j ≤ l.length ∧ PyFlat.calls PyVbxlaf.shape f (l.drop j) = some cs ∧ PyVbxlaf.answers l = g ++ PyFlat.told (PyFlat.played VbxlafNeutral.step st (cs.map PyVbxlaf.whole)) ∧ m = l.length - j,
      ⟨_, 0, l.length, raw, [], Vbxlaf.initialState, A1, B1, od0, .lst [], none, none, none, by rw [hB1]; rfl, s12.trans (Same.fresh hgv), upd_same, mark0, pst_start, gvn, notin, Nat.zero_le _, hraw, hans, rfl⟩, ?_⟩
    rintro m σ H' ⟨j, f, cs, g, st, A, B, od, u, v4, v5, v6, rfl, sH, hg, I, PI, gf, nf, hj, hcs, hrun, rfl⟩
    have hl' := sH.seq hl
    refine ⟨_, rfl, _, rfl, a, _, rfl, .inl hl', _, _, rfl, rfl, _, rfl, ?_⟩
    rw [List.length_map]
    by_cases c : j < l.length
    · rw [decide_eq_true (by omega)]
      have ed : l.drop j = l[j] :: l.drop (j + 1) := List.drop_eq_getElem_cons c
      rw [ed] at hcs
      obtain ⟨n, ns, f', cs', hp, hn, hlen, rfl, hcs'⟩ := calls_cons hcs
      have hlj : (l.map V.int)[j]? = some (.int (n : Int)) := by rw [List.getElem?_map, List.getElem?_eq_getElem c, hp]; rfl
      rw [List.length_drop] at hlen
      rw [List.drop_drop] at hcs'
      have alen : ((l.drop (j + 1)).take ns.length).length = ns.length := by rw [List.length_take, List.length_drop]; omega
      have hcut : cutV (l.map V.int) (some ((j : Int) + 1)) (some ((j : Int) + 1 + (ns.length : Nat))) = ((l.drop (j + 1)).take ns.length).map V.int := by
        have := cut_is (l := l) (j := j + 1) (k := ns.length) (by omega)
        rw [← this]
        congr 2 <;> omega
      obtain ⟨ta, hta, hta2⟩ := hsig n ns hn
      rw [List.map_cons, whole_is hn alen] at hrun
      have hrun : PyVbxlaf.answers l = g ++ (((specStep st n ((l.drop (j + 1)).take ns.length)).2.length : Int) :: (specStep st n ((l.drop (j + 1)).take ns.length)).2 ++ PyFlat.told (PyFlat.played VbxlafNeutral.step (specStep st n ((l.drop (j + 1)).take ns.length)).1 (cs'.map PyVbxlaf.whole))) := by
        rw [hrun]; rfl
      generalize (l.drop (j + 1)).take ns.length = args at alen hcut hrun
      refine iteT ⟨fun σ1 H1 => ∃ m', m' < l.length - j ∧ ∃ (j f : Nat) (cs : List (List (List Int))) (g : List Int) (st : St0) (A : Gr) (B : Su) (od : Obj) (u : HO) (v4 v5 v6 : Option V), σ1 = [some (.ref a), some (.ref B.sv), some (.ref gv), some (.int (j : Int)), v4, v5, v6] ∧ Same H H1 ∧ H1 gv = some (.lst (g.map V.int)) ∧
        SInv CG CL CS (upd H1 gv (.frz od u)) A B st ∧ Pst st ∧ gv ∉ feet A B st ∧ (∀ b o, H b = some o → b ∉ feet A B st) ∧ j ≤ l.length ∧ PyFlat.calls PyVbxlaf.shape f (l.drop j) = some cs ∧ PyVbxlaf.answers l = g ++ PyFlat.told (PyFlat.played VbxlafNeutral.step st (cs.map PyVbxlaf.whole)) ∧ m' = l.length - j, fun _ _ z => z, ?_⟩
      refine ⟨_, rfl, _, rfl, a, _, (j : Int), .int (n : Int), rfl, rfl, hl', atI_nat hlj, ?_⟩
      refine ⟨_, rfl, _, _, rfl, rfl, _, rfl, t, _, _, _, rfl, rfl, hts H', atI_nat (j := n) (by rw [List.getElem?_map, hta]; rfl), ta, _, rfl, .inr (hta2 H'), _, _, rfl, rfl, ?_⟩
      rw [List.length_map]
      refine ⟨gv, _, hg, True.intro, fun od2 => ?_⟩
      have I2 : SInv CG CL CS (upd H' gv (.frz od2 (.lst (g.map V.int)))) A B st := by
        have := I.mark (o := .frz od2 (.lst (g.map V.int))) upd_same
        rwa [upd_upd] at this
      have hl2 : SqL K (upd H' gv (.frz od2 (.lst (g.map V.int)))) a (l.map V.int) := by
        have : Same H (upd H' gv (.frz od2 (.lst (g.map V.int)))) := fun b o e => by
          rw [upd_ne (ne_of_none e gv0)]; exact sH _ _ e
        exact this.seq hl
      have gvf : upd H' gv (.frz od2 (.lst (g.map V.int))) gv = some (.frz od2 (.lst (g.map V.int))) := upd_same
      have keepH : ∀ b o, H b = some o → upd H' gv (.frz od2 (.lst (g.map V.int))) b = some o := fun b o e => by
        rw [upd_ne (ne_of_none e gv0)]; exact sH _ _ e
      generalize upd H' gv (.frz od2 (.lst (g.map V.int))) = H1 at I2 hl2 gvf keepH ⊢
      refine ⟨_, rfl, _, rfl, _, rfl, _, rfl, _, _, rfl, rfl, _, rfl, _, rfl, _, rfl, a, _, rfl, hl2, fun q hq => ?_⟩
      refine ⟨A, B, st, q, n, args, ns, rfl, I2.same (Same.fresh hq), PI, (by rw [upd_same]; exact congrArg (fun z => some (HO.lst z)) hcut), I2.new hq, hn, alen, fun H2 A2 B2 p hB I3 PI3 fr hp => ?_⟩
      have frm := (Fr.same (F := feet A B st) (Same.fresh (o := .lst (cutV (l.map V.int) (some ((j : Int) + 1)) (some ((j : Int) + 1 + (ns.length : Nat))))) hq)).trans fr
      obtain ⟨g2, hg2⟩ := frm gv _ gf gvf
      have pg : p ≠ gv := ne_of hp hg2 (by intro z; cases z)
      have back : ∀ x : List V, upd (upd H2 gv (.lst x)) gv (.frz od2 (.lst (g.map V.int))) = H2 := fun x => by
        funext b
        by_cases z : b = gv
        · rw [z, upd_same, hg2]
        · rw [upd_ne z, upd_ne z]
      have kH : ∀ b o, H b = some o → b ∉ feet A2 B2 (specStep st n args).1 ∧ H2 b = some o := fun b o e => frm b o (nf b o e) (keepH b o e)
      have tot : g.length + ((specStep st n args).2.length + 1) ≤ 10000000 := by
        rw [hrun, List.length_append, List.length_append, List.length_cons] at hshort
        omega
      generalize specStep st n args = r at I3 PI3 fr hp frm g2 kH tot hrun ⊢
      refine ⟨hg2, ?_⟩
      have hp2 : upd H2 gv (.lst (g.map V.int)) p = some (.lst (r.2.map V.int)) := by rw [upd_ne pg]; exact hp
      refine ⟨_, rfl, .inl ⟨rfl, _, SqL.of upd_same⟩, _, rfl, p, _, rfl, .inl (SqL.of hp2), gv, _, _, rfl, rfl, upd_same, (by rw [List.length_map, sizeLine_eq]; omega), ?_⟩
      rw [upd_upd, List.length_map]
      have hp3 : upd H2 gv (.lst (g.map V.int ++ [.int (r.2.length : Nat)])) p = some (.lst (r.2.map V.int)) := by rw [upd_ne pg]; exact hp
      refine ⟨_, rfl, .inl ⟨rfl, _, SqL.of upd_same⟩, _, rfl, gv, p, _, _, rfl, rfl, upd_same, hp3, (by rw [List.length_append, List.length_map, List.length_map, List.length_singleton, sizeLine_eq]; omega), ?_⟩
      rw [upd_upd]
      have ej : ((j + 1 + ns.length : Nat) : Int) = (j : Int) + 1 + (ns.length : Nat) := by omega
      have eg : g.map V.int ++ [V.int (r.2.length : Nat)] ++ r.2.map V.int = (g ++ ((r.2.length : Int) :: r.2)).map V.int := by
        rw [List.map_append, List.append_assoc]; rfl
      rw [eg]
      refine ⟨_, rfl, l.length - (j + 1 + ns.length), by omega, j + 1 + ns.length, f', cs', g ++ ((r.2.length : Int) :: r.2), r.1, A2, B2, od2, .lst (g.map V.int), _, _, _, (by rw [hB, ej]; rfl), fun b o e => ?_, upd_same, (by rw [back]; exact I3), PI3, g2, fun b o e => (kH b o e).1, by omega, hcs', ?_, rfl⟩
      · rw [upd_ne (ne_of_none e gv0)]; exact (kH b o e).2
      · rw [hrun, List.append_assoc]
    · rw [decide_eq_false (by omega)]
      have e0 : l.drop j = [] := List.drop_eq_nil_of_le (by omega)
      rw [e0] at hcs
      have ec : cs = [] := by
        cases f with
        | zero => exact (Option.some.inj hcs).symm
        | succ f => exact (Option.some.inj hcs).symm
      subst ec
      have e1 : PyVbxlaf.answers l = g := by rw [hrun]; exact List.append_nil g
      rw [← e1] at hg
      exact iteF ⟨_, rfl, k H' gv hg⟩
end
end Sv
namespace Sv
open PySem PySem.Spec PyProof.Rows L2
/-! ## the end: what the top has written -/
structure DefM (K : PySem.W.Frag) (C : Addr) (s : Stmt) (n q : Str) : Prop where
  ex : ∃ (f : Addr) (fd : FuncData), Fun K n q s f fd ∧ Meth K C n f
theorem defM {K : PySem.W.Frag} {C f : Addr} {s : Stmt} {n q : Str} {oc : Value} {od an : Option Addr} {osl : Array (Option Value)} {kV doc pm cdv ct : Value} (a : PySem.W.findIn K (.ref C) n = some (some (.ref f))) (i : PySem.W.isFn K (.ref f) = true)
    (l : K.lookup f = some ⟨oc, od, .func (PySem.W.fnOf n q (defArgs s) (defBody s) (defScope s) .none kV doc pm an cdv ct), osl⟩) (c : PySem.W.codeIn K cdv q = true) (k : PySem.W.keepIn K (.ref f) = true) : DefM K C s n q := ⟨f, _, fun_mk l c k, ⟨a, i, k⟩⟩
structure DefT (K : PySem.W.Frag) (s : Stmt) (n : Str) (f : Addr) : Prop where
  ns : PySem.W.nsIn K mainGlobals n = some (some (.ref f))
  kp : PySem.W.keepIn K (.ref f) = true
  ex : ∃ fd : FuncData, Fun K n n s f fd
theorem defT {K : PySem.W.Frag} {f : Addr} {s : Stmt} {n : Str} {oc : Value} {od an : Option Addr} {osl : Array (Option Value)} {kV doc pm cdv ct : Value} (a : PySem.W.nsIn K mainGlobals n = some (some (.ref f)))
    (l : K.lookup f = some ⟨oc, od, .func (PySem.W.fnOf n n (defArgs s) (defBody s) (defScope s) .none kV doc pm an cdv ct), osl⟩) (c : PySem.W.codeIn K cdv n = true) (k : PySem.W.keepIn K (.ref f) = true) : DefT K s n f := ⟨a, k, _, fun_mk l c k⟩
section
variable {P : Program} {w : World} {K : PySem.W.Frag} {mg : Str → Option Value} {base : Heap}
theorem metd {C : Addr} {s : Stmt} {n q : Str} {k : Nat} {ps : List Str} {sp : Sp} (D : DefM K C s n q) (b : ∀ f fd, Fun K n q s f fd → Binds K fd ps []) (ok : ∀ f fd, Fun K n q s f fd → FnOk P w K mg base CX0 k f fd ps sp) : Metd P w K mg base C k n ps sp := by
  obtain ⟨f, fd, F, M⟩ := D
  exact ⟨f, fd, ok f fd F, M, b f fd F⟩
theorem made {C : Addr} {s : Stmt} {q : Str} {k : Nat} {ps : List Str} {sp : Sp} (D : DefM K C s "__init__" q) (mk : PySem.W.makesIn K C = true) (kc : PySem.W.keepIn K (.ref C) = true) (b : ∀ f fd, Fun K "__init__" q s f fd → Binds K fd ps []) (ok : ∀ f fd, Fun K "__init__" q s f fd → FnOk P w K mg base CX0 k f fd ps sp) : Made P w K mg base C k ps sp := by
  obtain ⟨f, fd, F, M⟩ := D
  exact ⟨f, fd, ok f fd F, ⟨mk, M.at_, M.fn, kc⟩, b f fd F⟩
theorem callee {h : Heap} (X : K.In h) (G : h.Ns mainGlobals mg) {s : Stmt} {n : Str} {f : Addr} {k : Nat} {ps : List Str} {sp : Sp} (D : DefT K s n f) (b : ∀ f fd, Fun K n n s f fd → Binds K fd ps []) (ok : ∀ f fd, Fun K n n s f fd → FnOk P w K mg base CX0 k f fd ps sp) : Callee P w K mg base k n ps sp := by
  obtain ⟨a, kp, fd, F⟩ := D
  exact ⟨f, fd, ok f fd F, PySem.W.mg_of X G a, kp, b f fd F⟩
theorem act {s : Stmt} {n : Str} {f : Addr} {j k : Nat} {ps : List Str} {sp : Sp} (D : DefT K s n f) (b : ∀ f fd, Fun K n n s f fd → Binds K fd ps []) (ok : ∀ f fd, Fun K n n s f fd → FnOk P w K mg base CX0 j f fd ps sp) (h : j ≤ k) : ∃ fd, FnOk P w K mg base CX0 k f fd ps sp ∧ PySem.W.keepIn K (.ref f) = true ∧ Binds K fd ps [] := by
  obtain ⟨a, kp, fd, F⟩ := D
  exact ⟨fd, (ok f fd F).mono h, kp, b f fd F⟩
theorem acts_nil {k : Nat} {ps : List Str} {sp : Nat → Sp} : Acts P w K mg base k ps sp [] := fun i f h => by simp at h
theorem acts_cons {k : Nat} {ps : List Str} {sp : Nat → Sp} {f : Addr} {fs : List Addr} (h : ∃ fd, FnOk P w K mg base CX0 k f fd ps (sp 0) ∧ PySem.W.keepIn K (.ref f) = true ∧ Binds K fd ps []) (r : Acts P w K mg base k ps (fun i => sp (i + 1)) fs) : Acts P w K mg base k ps sp (f :: fs) := fun i g hg => by
  cases i with
  | zero => cases (Option.some.inj hg); exact h
  | succ i => exact r i g hg
end

theorem all_mk {P : Program} {w : World} {K : PySem.W.Frag} {h : Heap} {mg : Str → Option Value} {fa CG CL CS f14 f15 f16 f18 f19 f20 f21 f22 f23 f24 f38 f39 f40 f41 f42 f43 f44 f45 f46 f47 f17 f28 f32 f36 f37 f26 f50 f54 f55 f56 tC tQ tS tR s0 s1 s2 s3 s4 s5 s6 s7 s8 s9 s10 s11 s12 s13 s14 s15 s16 s17 s18 s19 r0 r1 r2 r3 r4 r5 r6 : Addr} {k_n1 k_n3 k_n5 k_n6 k_n7 k_n8 k_nN k_nO k_nF k_nC k_nM k_nV k_nS k_nQ k_s0_0 k_s0_1 k_s1_0 k_s1_1 k_s2_0 k_s3_0 k_s3_1 k_s3_2 k_s4_0 k_s4_1 k_s4_2 k_s5_0 k_s6_0 k_s6_1 k_s7_0 k_s7_1 k_s8_0 k_s11_0 k_s12_0 k_s12_1 k_s12_2 k_s15_0 k_s15_1 k_s15_2 k_s16_0 k_s16_1 k_s17_0 k_r0_0 k_r0_1 k_r1_0 k_r1_1 k_r2_0 k_r2_1 k_r3_0 k_r3_1 k_r4_0 k_r4_1 k_r5_0 k_r5_1 k_r6_0 k_r6_1 : Tok} {m_tC m_tQ m_tS m_s0 m_s1 m_s2 m_s3 m_s4 m_s5 m_s6 m_s7 m_s8 m_s9 m_s10 m_s11 m_s12 m_s13 m_s14 m_s15 m_s16 m_s17 m_s18 m_s19 m_r0 m_r1 m_r2 m_r3 m_r4 m_r5 m_r6 nR : Nat} {od_tC od_tQ od_tS od_s0 od_s1 od_s2 od_s3 od_s4 od_s5 od_s6 od_s7 od_s8 od_s9 od_s10 od_s11 od_s12 od_s13 od_s14 od_s15 od_s16 od_s17 od_s18 od_s19 od_r0 od_r1 od_r2 od_r3 od_r4 od_r5 od_r6 : Option Addr} {sl_tC sl_tQ sl_tS sl_s0 sl_s1 sl_s2 sl_s3 sl_s4 sl_s5 sl_s6 sl_s7 sl_s8 sl_s9 sl_s10 sl_s11 sl_s12 sl_s13 sl_s14 sl_s15 sl_s16 sl_s17 sl_s18 sl_s19 sl_r0 sl_r1 sl_r2 sl_r3 sl_r4 sl_r5 sl_r6 : Array (Option Value)} {esR : Array DictEntry} (X : K.In h) (G : h.Ns mainGlobals mg) (hfa : mg "answers" = some (.ref fa))
    (gG : PySem.W.nsIn K mainGlobals "Graph" = some (some (.ref CG)))
    (gL : PySem.W.nsIn K mainGlobals "Line" = some (some (.ref CL)))
    (gS : PySem.W.nsIn K mainGlobals "Surveys" = some (some (.ref CS)))
    (pgG : PySem.W.plainGet K CG Str.empty = true)
    (hdG : PySem.W.hasDictIn K CG = true)
    (poG : PySem.W.plainOver K CG = true)
    (saG : PySem.W.findIn K (.ref CG) "__setattr__" = some (some (.builtin "object.__setattr__")))
    (mkG : PySem.W.makesIn K CG = true)
    (kcG : PySem.W.keepIn K (.ref CG) = true)
    (atG0 : PySem.W.findIn K (.ref CG) "created" = some none)
    (atG1 : PySem.W.findIn K (.ref CG) "uses" = some none)
    (atG2 : PySem.W.findIn K (.ref CG) "slots" = some none)
    (atG3 : PySem.W.findIn K (.ref CG) "fields" = some none)
    (atG4 : PySem.W.findIn K (.ref CG) "stamps" = some none)
    (atG5 : PySem.W.findIn K (.ref CG) "slot_changed" = some none)
    (atG6 : PySem.W.findIn K (.ref CG) "changed_objects" = some none)
    (atG7 : PySem.W.findIn K (.ref CG) "new_names" = some none)
    (pgL : PySem.W.plainGet K CL Str.empty = true)
    (hdL : PySem.W.hasDictIn K CL = true)
    (poL : PySem.W.plainOver K CL = true)
    (saL : PySem.W.findIn K (.ref CL) "__setattr__" = some (some (.builtin "object.__setattr__")))
    (mkL : PySem.W.makesIn K CL = true)
    (kcL : PySem.W.keepIn K (.ref CL) = true)
    (atL0 : PySem.W.findIn K (.ref CL) "stamp" = some none)
    (atL1 : PySem.W.findIn K (.ref CL) "rooted" = some none)
    (atL2 : PySem.W.findIn K (.ref CL) "sources" = some none)
    (pgS : PySem.W.plainGet K CS Str.empty = true)
    (hdS : PySem.W.hasDictIn K CS = true)
    (poS : PySem.W.plainOver K CS = true)
    (saS : PySem.W.findIn K (.ref CS) "__setattr__" = some (some (.builtin "object.__setattr__")))
    (mkS : PySem.W.makesIn K CS = true)
    (kcS : PySem.W.keepIn K (.ref CS) = true)
    (atS0 : PySem.W.findIn K (.ref CS) "graph" = some none)
    (atS1 : PySem.W.findIn K (.ref CS) "made" = some none)
    (atS2 : PySem.W.findIn K (.ref CS) "last_reached" = some none)
    (dG0 : DefM K CG (gm 0) "__init__" "Graph.__init__")
    (dG1 : DefM K CG (gm 1) "forget_changes" "Graph.forget_changes")
    (dG2 : DefM K CG (gm 2) "create" "Graph.create")
    (dG3 : DefM K CG (gm 3) "put" "Graph.put")
    (dG4 : DefM K CG (gm 4) "write" "Graph.write")
    (dG5 : DefM K CG (gm 5) "use" "Graph.use")
    (dG6 : DefM K CG (gm 6) "entries" "Graph.entries")
    (dG7 : DefM K CG (gm 7) "imports" "Graph.imports")
    (dG8 : DefM K CG (gm 8) "contains" "Graph.contains")
    (dG9 : DefM K CG (gm 9) "led_to" "Graph.led_to")
    (dG10 : DefM K CG (gm 10) "collect" "Graph.collect")
    (dL0 : DefM K CL (inClass (top 31) 0) "__init__" "Line.__init__")
    (dS0 : DefM K CS (sm 0) "__init__" "Surveys.__init__")
    (dS1 : DefM K CS (sm 1) "all_sources" "Surveys.all_sources")
    (dS2 : DefM K CS (sm 2) "is_affected" "Surveys.is_affected")
    (dS3 : DefM K CS (sm 3) "affected_sources" "Surveys.affected_sources")
    (dS4 : DefM K CS (sm 4) "follow" "Surveys.follow")
    (dS5 : DefM K CS (sm 5) "all_reached" "Surveys.all_reached")
    (dS6 : DefM K CS (sm 6) "work_of" "Surveys.work_of")
    (dS7 : DefM K CS (sm 7) "lines_now" "Surveys.lines_now")
    (dS8 : DefM K CS (sm 8) "lines_from" "Surveys.lines_from")
    (dS9 : DefM K CS (sm 9) "make" "Surveys.make")
    (dS10 : DefM K CS (sm 10) "lines_of" "Surveys.lines_of")
    (dS11 : DefM K CS (sm 11) "first_outdated" "Surveys.first_outdated")
    (dT14 : DefT K (top 14) "create_object" f14)
    (dT15 : DefT K (top 15) "copy_slot" f15)
    (dT16 : DefT K (top 16) "clear_slot" f16)
    (dT18 : DefT K (top 18) "read_field" f18)
    (dT19 : DefT K (top 19) "write_field" f19)
    (dT20 : DefT K (top 20) "export_slot" f20)
    (dT21 : DefT K (top 21) "arrive_entry" f21)
    (dT22 : DefT K (top 22) "import_foreign" f22)
    (dT23 : DefT K (top 23) "retire_entry" f23)
    (dT24 : DefT K (top 24) "collect_garbage" f24)
    (dT38 : DefT K (top 38) "make_survey" f38)
    (dT39 : DefT K (top 39) "tell_survey" f39)
    (dT40 : DefT K (top 40) "tell_current" f40)
    (dT41 : DefT K (top 41) "tell_lines" f41)
    (dT42 : DefT K (top 42) "tell_affected" f42)
    (dT43 : DefT K (top 43) "tell_path" f43)
    (dT44 : DefT K (top 44) "tell_stamp" f44)
    (dT45 : DefT K (top 45) "tell_object" f45)
    (dT46 : DefT K (top 46) "tell_slots" f46)
    (dT47 : DefT K (top 47) "tell_status" f47)
    (dT17 : DefT K (top 17) "field_refusal" f17)
    (dT28 : DefT K (top 28) "first_path" f28)
    (dT32 : DefT K (top 32) "count_objects" f32)
    (dT36 : DefT K (top 36) "counted" f36)
    (dT37 : DefT K (top 37) "flat_values" f37)
    (dT26 : DefT K (top 26) "change" f26)
    (dT50 : DefT K (top 50) "respond" f50)
    (dT54 : DefT K (top 54) "in_range" f54)
    (dT55 : DefT K (top 55) "answer_call" f55)
    (dT56 : DefT K (top 56) "answers" f56)
    (n1 : PySem.W.nsIn K mainGlobals "OUT_OF_RANGE" = some (some (.int (-1) k_n1)))
    (n3 : PySem.W.nsIn K mainGlobals "NOT_IN_SLOT" = some (some (.int (-3) k_n3)))
    (n5 : PySem.W.nsIn K mainGlobals "NO_SUCH_FIELD" = some (some (.int (-5) k_n5)))
    (n6 : PySem.W.nsIn K mainGlobals "NO_SUCH_NAME" = some (some (.int (-6) k_n6)))
    (n7 : PySem.W.nsIn K mainGlobals "NO_SUCH_SURVEY" = some (some (.int (-7) k_n7)))
    (n8 : PySem.W.nsIn K mainGlobals "TOO_MANY" = some (some (.int (-8) k_n8)))
    (nN : PySem.W.nsIn K mainGlobals "NOTHING" = some (some (.int (0) k_nN)))
    (nO : PySem.W.nsIn K mainGlobals "OBJECT" = some (some (.int (1) k_nO)))
    (nF : PySem.W.nsIn K mainGlobals "FOREIGN" = some (some (.int (2) k_nF)))
    (nC : PySem.W.nsIn K mainGlobals "SLOT_COUNT" = some (some (.int (6) k_nC)))
    (nM : PySem.W.nsIn K mainGlobals "MOST_OBJECTS" = some (some (.int (40) k_nM)))
    (nV : PySem.W.nsIn K mainGlobals "MOST_SURVEYS" = some (some (.int (30) k_nV)))
    (nS : PySem.W.nsIn K mainGlobals "SLOTS" = some (some (.int (0) k_nS)))
    (nQ : PySem.W.nsIn K mainGlobals "FIRST_QUESTION" = some (some (.int (10) k_nQ)))
    (b_len : PySem.W.nsIn K mainGlobals "len" = some none)
    (b_sorted : PySem.W.nsIn K mainGlobals "sorted" = some none)
    (b_list : PySem.W.nsIn K mainGlobals "list" = some none)
    (b_any : PySem.W.nsIn K mainGlobals "any" = some none)
    (b_sum : PySem.W.nsIn K mainGlobals "sum" = some none)
    (b_enumerate : PySem.W.nsIn K mainGlobals "enumerate" = some none)
    (b_zip : PySem.W.nsIn K mainGlobals "zip" = some none)
    (aC : PySem.W.nsIn K mainGlobals "CHANGES" = some (some (.ref tC)))
    (l_tC : K.lookup tC = some ⟨.type "tuple", od_tC, .seq #[.ref f14, .ref f15, .ref f16, .ref f18, .ref f19, .ref f20, .ref f21, .ref f22, .ref f23, .ref f24] m_tC, sl_tC⟩)
    (aQ : PySem.W.nsIn K mainGlobals "QUESTIONS" = some (some (.ref tQ)))
    (l_tQ : K.lookup tQ = some ⟨.type "tuple", od_tQ, .seq #[.ref f38, .ref f39, .ref f40, .ref f41, .ref f42, .ref f43, .ref f44, .ref f45, .ref f46, .ref f47] m_tQ, sl_tQ⟩)
    (aSig : PySem.W.nsIn K mainGlobals "SIGNATURES" = some (some (.ref tS)))
    (l_tS : K.lookup tS = some ⟨.type "tuple", od_tS, .seq #[.ref s0, .ref s1, .ref s2, .ref s3, .ref s4, .ref s5, .ref s6, .ref s7, .ref s8, .ref s9, .ref s10, .ref s11, .ref s12, .ref s13, .ref s14, .ref s15, .ref s16, .ref s17, .ref s18, .ref s19] m_tS, sl_tS⟩)
    (l_s0 : K.lookup s0 = some ⟨.type "tuple", od_s0, .seq #[.str "slot" k_s0_0, .str "field_count" k_s0_1] m_s0, sl_s0⟩)
    (l_s1 : K.lookup s1 = some ⟨.type "tuple", od_s1, .seq #[.str "target" k_s1_0, .str "source" k_s1_1] m_s1, sl_s1⟩)
    (l_s2 : K.lookup s2 = some ⟨.type "tuple", od_s2, .seq #[.str "slot" k_s2_0] m_s2, sl_s2⟩)
    (l_s3 : K.lookup s3 = some ⟨.type "tuple", od_s3, .seq #[.str "target" k_s3_0, .str "source" k_s3_1, .str "field" k_s3_2] m_s3, sl_s3⟩)
    (l_s4 : K.lookup s4 = some ⟨.type "tuple", od_s4, .seq #[.str "target" k_s4_0, .str "field" k_s4_1, .str "source" k_s4_2] m_s4, sl_s4⟩)
    (l_s5 : K.lookup s5 = some ⟨.type "tuple", od_s5, .seq #[.str "slot" k_s5_0] m_s5, sl_s5⟩)
    (l_s6 : K.lookup s6 = some ⟨.type "tuple", od_s6, .seq #[.str "object_number" k_s6_0, .str "slot" k_s6_1] m_s6, sl_s6⟩)
    (l_s7 : K.lookup s7 = some ⟨.type "tuple", od_s7, .seq #[.str "foreign" k_s7_0, .str "slot" k_s7_1] m_s7, sl_s7⟩)
    (l_s8 : K.lookup s8 = some ⟨.type "tuple", od_s8, .seq #[.str "object_number" k_s8_0] m_s8, sl_s8⟩)
    (l_s9 : K.lookup s9 = some ⟨.type "tuple", od_s9, .seq #[] m_s9, sl_s9⟩)
    (l_s10 : K.lookup s10 = some ⟨.type "tuple", od_s10, .seq #[] m_s10, sl_s10⟩)
    (l_s11 : K.lookup s11 = some ⟨.type "tuple", od_s11, .seq #[.str "index" k_s11_0] m_s11, sl_s11⟩)
    (l_s12 : K.lookup s12 = some ⟨.type "tuple", od_s12, .seq #[.str "index" k_s12_0, .str "kind" k_s12_1, .str "number" k_s12_2] m_s12, sl_s12⟩)
    (l_s13 : K.lookup s13 = some ⟨.type "tuple", od_s13, .seq #[] m_s13, sl_s13⟩)
    (l_s14 : K.lookup s14 = some ⟨.type "tuple", od_s14, .seq #[] m_s14, sl_s14⟩)
    (l_s15 : K.lookup s15 = some ⟨.type "tuple", od_s15, .seq #[.str "path_source" k_s15_0, .str "kind" k_s15_1, .str "number" k_s15_2] m_s15, sl_s15⟩)
    (l_s16 : K.lookup s16 = some ⟨.type "tuple", od_s16, .seq #[.str "kind" k_s16_0, .str "number" k_s16_1] m_s16, sl_s16⟩)
    (l_s17 : K.lookup s17 = some ⟨.type "tuple", od_s17, .seq #[.str "number" k_s17_0] m_s17, sl_s17⟩)
    (l_s18 : K.lookup s18 = some ⟨.type "tuple", od_s18, .seq #[] m_s18, sl_s18⟩)
    (l_s19 : K.lookup s19 = some ⟨.type "tuple", od_s19, .seq #[] m_s19, sl_s19⟩)
    (aR : PySem.W.nsIn K mainGlobals "RANGES" = some (some (.ref tR)))
    (lR : K.lookup tR = some ⟨.type "dict", none, .dict esR nR, #[]⟩)
    (kR : PySem.W.KeysLit w.params esR.toList)
    (wR : (tR == sysModules) = false)
    (g_r0 : PySem.W.nsIn K tR "slot" = some (some (.ref r0)))
    (l_r0 : K.lookup r0 = some ⟨.type "tuple", od_r0, .seq #[.int 0 k_r0_0, .int 5 k_r0_1] m_r0, sl_r0⟩)
    (g_r1 : PySem.W.nsIn K tR "target" = some (some (.ref r1)))
    (l_r1 : K.lookup r1 = some ⟨.type "tuple", od_r1, .seq #[.int 0 k_r1_0, .int 5 k_r1_1] m_r1, sl_r1⟩)
    (g_r2 : PySem.W.nsIn K tR "source" = some (some (.ref r2)))
    (l_r2 : K.lookup r2 = some ⟨.type "tuple", od_r2, .seq #[.int 0 k_r2_0, .int 5 k_r2_1] m_r2, sl_r2⟩)
    (g_r3 : PySem.W.nsIn K tR "field_count" = some (some (.ref r3)))
    (l_r3 : K.lookup r3 = some ⟨.type "tuple", od_r3, .seq #[.int 0 k_r3_0, .int 4 k_r3_1] m_r3, sl_r3⟩)
    (g_r4 : PySem.W.nsIn K tR "field" = some (some (.ref r4)))
    (l_r4 : K.lookup r4 = some ⟨.type "tuple", od_r4, .seq #[.int 0 k_r4_0, .int 3 k_r4_1] m_r4, sl_r4⟩)
    (g_r5 : PySem.W.nsIn K tR "foreign" = some (some (.ref r5)))
    (l_r5 : K.lookup r5 = some ⟨.type "tuple", od_r5, .seq #[.int 1 k_r5_0, .int 20 k_r5_1] m_r5, sl_r5⟩)
    (g_r6 : PySem.W.nsIn K tR "kind" = some (some (.ref r6)))
    (l_r6 : K.lookup r6 = some ⟨.type "tuple", od_r6, .seq #[.int 1 k_r6_0, .int 2 k_r6_1] m_r6, sl_r6⟩)
    (z_r0 : PySem.W.nsIn K tR "object_number" = some none)
    (z_r1 : PySem.W.nsIn K tR "index" = some none)
    (z_r2 : PySem.W.nsIn K tR "number" = some none)
    (z_r3 : PySem.W.nsIn K tR "path_source" = some none)
    : ∃ fd : FuncData, (∀ (s : Shared) (us : List Value), us.length = (["calls"] : List Str).length → BindsTo s fd ⟨us, []⟩ ((["calls"] : List Str).zip us)) ∧ ∀ base : Heap, K.In base → base.Ns mainGlobals mg → FnOk P w K mg base CX0 9 fa fd ["calls"] (spAns K) := by
  have e := hfa.symm.trans (PySem.W.mg_of X G dT56.ns)
  cases e
  have aG : ∀ f ∈ gK, NoAttr K CG f := fun f hf => by
    simp only [gK, List.mem_cons, List.not_mem_nil, or_false] at hf
    rcases hf with rfl | rfl | rfl | rfl | rfl | rfl | rfl | rfl
    · exact atG0
    · exact atG1
    · exact atG2
    · exact atG3
    · exact atG4
    · exact atG5
    · exact atG6
    · exact atG7
  have aS : ∀ f ∈ sK, NoAttr K CS f := fun f hf => by
    simp only [sK, List.mem_cons, List.not_mem_nil, or_false] at hf
    rcases hf with rfl | rfl | rfl
    · exact atS0
    · exact atS1
    · exact atS2
  have aL : ∀ f ∈ lK, NoAttr K CL f := fun f hf => by
    simp only [lK, List.mem_cons, List.not_mem_nil, or_false] at hf
    rcases hf with rfl | rfl | rfl
    · exact atL0
    · exact atL1
    · exact atL2
  have T : Txt K mg CG CL CS := { cG := ⟨pgG, hdG, poG, saG⟩, cL := ⟨pgL, hdL, poL, saL⟩, cS := ⟨pgS, hdS, poS, saS⟩, aG := aG, aS := aS, aL := aL, gG := PySem.W.mg_of X G gG, gL := PySem.W.mg_of X G gL, gS := PySem.W.mg_of X G gS, n1 := ⟨_, PySem.W.mg_of X G n1⟩, n3 := ⟨_, PySem.W.mg_of X G n3⟩, n5 := ⟨_, PySem.W.mg_of X G n5⟩, n6 := ⟨_, PySem.W.mg_of X G n6⟩, n7 := ⟨_, PySem.W.mg_of X G n7⟩, n8 := ⟨_, PySem.W.mg_of X G n8⟩, nN := ⟨_, PySem.W.mg_of X G nN⟩, nO := ⟨_, PySem.W.mg_of X G nO⟩, nF := ⟨_, PySem.W.mg_of X G nF⟩, nC := ⟨_, PySem.W.mg_of X G nC⟩, nM := ⟨_, PySem.W.mg_of X G nM⟩, nV := ⟨_, PySem.W.mg_of X G nV⟩, nS := ⟨_, PySem.W.mg_of X G nS⟩, nQ := ⟨_, PySem.W.mg_of X G nQ⟩, bLen := PySem.W.mg_none_of X G b_len, bSorted := PySem.W.mg_none_of X G b_sorted, bList := PySem.W.mg_none_of X G b_list, bAny := PySem.W.mg_none_of X G b_any, bSum := PySem.W.mg_none_of X G b_sum, bEnum := PySem.W.mg_none_of X G b_enumerate, bZip := PySem.W.mg_none_of X G b_zip }
  have hC : Tab K tC ([f14, f15, f16, f18, f19, f20, f21, f22, f23, f24].map V.ref) := Tab.of l_tC rfl rfl (by show 10 ≤ sizeLine; decide) (.cons rfl (.cons rfl (.cons rfl (.cons rfl (.cons rfl (.cons rfl (.cons rfl (.cons rfl (.cons rfl (.cons rfl .nil))))))))))
  have hQ : Tab K tQ ([f38, f39, f40, f41, f42, f43, f44, f45, f46, f47].map V.ref) := Tab.of l_tQ rfl rfl (by show 10 ≤ sizeLine; decide) (.cons rfl (.cons rfl (.cons rfl (.cons rfl (.cons rfl (.cons rfl (.cons rfl (.cons rfl (.cons rfl (.cons rfl .nil))))))))))
  have hS0 : Tab K tS ([s0, s1, s2, s3, s4, s5, s6, s7, s8, s9, s10, s11, s12, s13, s14, s15, s16, s17, s18, s19].map V.ref) := Tab.of l_tS rfl rfl (by show 20 ≤ sizeLine; decide) (.cons rfl (.cons rfl (.cons rfl (.cons rfl (.cons rfl (.cons rfl (.cons rfl (.cons rfl (.cons rfl (.cons rfl (.cons rfl (.cons rfl (.cons rfl (.cons rfl (.cons rfl (.cons rfl (.cons rfl (.cons rfl (.cons rfl (.cons rfl .nil))))))))))))))))))))
  have hs0 : Tab K s0 ((["slot", "field_count"] : List Str).map V.str) := Tab.of l_s0 rfl rfl (by show 2 ≤ sizeLine; decide) (.cons ⟨_, rfl⟩ (.cons ⟨_, rfl⟩ .nil))
  have hs1 : Tab K s1 ((["target", "source"] : List Str).map V.str) := Tab.of l_s1 rfl rfl (by show 2 ≤ sizeLine; decide) (.cons ⟨_, rfl⟩ (.cons ⟨_, rfl⟩ .nil))
  have hs2 : Tab K s2 ((["slot"] : List Str).map V.str) := Tab.of l_s2 rfl rfl (by show 1 ≤ sizeLine; decide) (.cons ⟨_, rfl⟩ .nil)
  have hs3 : Tab K s3 ((["target", "source", "field"] : List Str).map V.str) := Tab.of l_s3 rfl rfl (by show 3 ≤ sizeLine; decide) (.cons ⟨_, rfl⟩ (.cons ⟨_, rfl⟩ (.cons ⟨_, rfl⟩ .nil)))
  have hs4 : Tab K s4 ((["target", "field", "source"] : List Str).map V.str) := Tab.of l_s4 rfl rfl (by show 3 ≤ sizeLine; decide) (.cons ⟨_, rfl⟩ (.cons ⟨_, rfl⟩ (.cons ⟨_, rfl⟩ .nil)))
  have hs5 : Tab K s5 ((["slot"] : List Str).map V.str) := Tab.of l_s5 rfl rfl (by show 1 ≤ sizeLine; decide) (.cons ⟨_, rfl⟩ .nil)
  have hs6 : Tab K s6 ((["object_number", "slot"] : List Str).map V.str) := Tab.of l_s6 rfl rfl (by show 2 ≤ sizeLine; decide) (.cons ⟨_, rfl⟩ (.cons ⟨_, rfl⟩ .nil))
  have hs7 : Tab K s7 ((["foreign", "slot"] : List Str).map V.str) := Tab.of l_s7 rfl rfl (by show 2 ≤ sizeLine; decide) (.cons ⟨_, rfl⟩ (.cons ⟨_, rfl⟩ .nil))
  have hs8 : Tab K s8 ((["object_number"] : List Str).map V.str) := Tab.of l_s8 rfl rfl (by show 1 ≤ sizeLine; decide) (.cons ⟨_, rfl⟩ .nil)
  have hs9 : Tab K s9 (([] : List Str).map V.str) := Tab.of l_s9 rfl rfl (by show 0 ≤ sizeLine; decide) (.nil)
  have hs10 : Tab K s10 (([] : List Str).map V.str) := Tab.of l_s10 rfl rfl (by show 0 ≤ sizeLine; decide) (.nil)
  have hs11 : Tab K s11 ((["index"] : List Str).map V.str) := Tab.of l_s11 rfl rfl (by show 1 ≤ sizeLine; decide) (.cons ⟨_, rfl⟩ .nil)
  have hs12 : Tab K s12 ((["index", "kind", "number"] : List Str).map V.str) := Tab.of l_s12 rfl rfl (by show 3 ≤ sizeLine; decide) (.cons ⟨_, rfl⟩ (.cons ⟨_, rfl⟩ (.cons ⟨_, rfl⟩ .nil)))
  have hs13 : Tab K s13 (([] : List Str).map V.str) := Tab.of l_s13 rfl rfl (by show 0 ≤ sizeLine; decide) (.nil)
  have hs14 : Tab K s14 (([] : List Str).map V.str) := Tab.of l_s14 rfl rfl (by show 0 ≤ sizeLine; decide) (.nil)
  have hs15 : Tab K s15 ((["path_source", "kind", "number"] : List Str).map V.str) := Tab.of l_s15 rfl rfl (by show 3 ≤ sizeLine; decide) (.cons ⟨_, rfl⟩ (.cons ⟨_, rfl⟩ (.cons ⟨_, rfl⟩ .nil)))
  have hs16 : Tab K s16 ((["kind", "number"] : List Str).map V.str) := Tab.of l_s16 rfl rfl (by show 2 ≤ sizeLine; decide) (.cons ⟨_, rfl⟩ (.cons ⟨_, rfl⟩ .nil))
  have hs17 : Tab K s17 ((["number"] : List Str).map V.str) := Tab.of l_s17 rfl rfl (by show 1 ≤ sizeLine; decide) (.cons ⟨_, rfl⟩ .nil)
  have hs18 : Tab K s18 (([] : List Str).map V.str) := Tab.of l_s18 rfl rfl (by show 0 ≤ sizeLine; decide) (.nil)
  have hs19 : Tab K s19 (([] : List Str).map V.str) := Tab.of l_s19 rfl rfl (by show 0 ≤ sizeLine; decide) (.nil)
  have hS : SigT K tS := ⟨_, hS0, fun i ns hi => by
    match i, hi with
    | 0, rfl => exact ⟨_, rfl, hs0⟩
    | 1, rfl => exact ⟨_, rfl, hs1⟩
    | 2, rfl => exact ⟨_, rfl, hs2⟩
    | 3, rfl => exact ⟨_, rfl, hs3⟩
    | 4, rfl => exact ⟨_, rfl, hs4⟩
    | 5, rfl => exact ⟨_, rfl, hs5⟩
    | 6, rfl => exact ⟨_, rfl, hs6⟩
    | 7, rfl => exact ⟨_, rfl, hs7⟩
    | 8, rfl => exact ⟨_, rfl, hs8⟩
    | 9, rfl => exact ⟨_, rfl, hs9⟩
    | 10, rfl => exact ⟨_, rfl, hs10⟩
    | 11, rfl => exact ⟨_, rfl, hs11⟩
    | 12, rfl => exact ⟨_, rfl, hs12⟩
    | 13, rfl => exact ⟨_, rfl, hs13⟩
    | 14, rfl => exact ⟨_, rfl, hs14⟩
    | 15, rfl => exact ⟨_, rfl, hs15⟩
    | 16, rfl => exact ⟨_, rfl, hs16⟩
    | 17, rfl => exact ⟨_, rfl, hs17⟩
    | 18, rfl => exact ⟨_, rfl, hs18⟩
    | 19, rfl => exact ⟨_, rfl, hs19⟩
    | i + 20, hi => simp [sigs] at hi⟩
  have kd : KDict K w tR esR nR := ⟨lR, kR, wR⟩
  have hr0 : Rg K tR "slot" (some (0, 5)) := ⟨_, g_r0, Tab.of l_r0 rfl rfl (by show 2 ≤ sizeLine; decide) (.cons ⟨_, rfl⟩ (.cons ⟨_, rfl⟩ .nil))⟩
  have hr1 : Rg K tR "target" (some (0, 5)) := ⟨_, g_r1, Tab.of l_r1 rfl rfl (by show 2 ≤ sizeLine; decide) (.cons ⟨_, rfl⟩ (.cons ⟨_, rfl⟩ .nil))⟩
  have hr2 : Rg K tR "source" (some (0, 5)) := ⟨_, g_r2, Tab.of l_r2 rfl rfl (by show 2 ≤ sizeLine; decide) (.cons ⟨_, rfl⟩ (.cons ⟨_, rfl⟩ .nil))⟩
  have hr3 : Rg K tR "field_count" (some (0, 4)) := ⟨_, g_r3, Tab.of l_r3 rfl rfl (by show 2 ≤ sizeLine; decide) (.cons ⟨_, rfl⟩ (.cons ⟨_, rfl⟩ .nil))⟩
  have hr4 : Rg K tR "field" (some (0, 3)) := ⟨_, g_r4, Tab.of l_r4 rfl rfl (by show 2 ≤ sizeLine; decide) (.cons ⟨_, rfl⟩ (.cons ⟨_, rfl⟩ .nil))⟩
  have hr5 : Rg K tR "foreign" (some (1, 20)) := ⟨_, g_r5, Tab.of l_r5 rfl rfl (by show 2 ≤ sizeLine; decide) (.cons ⟨_, rfl⟩ (.cons ⟨_, rfl⟩ .nil))⟩
  have hr6 : Rg K tR "kind" (some (1, 2)) := ⟨_, g_r6, Tab.of l_r6 rfl rfl (by show 2 ≤ sizeLine; decide) (.cons ⟨_, rfl⟩ (.cons ⟨_, rfl⟩ .nil))⟩
  have hm0 : ∀ z ns, ns ∈ sigs → z ∈ ns → z ∈ (["slot", "target", "source", "field_count", "field", "foreign", "kind", "object_number", "index", "number", "path_source"] : List Str) := by
    intro z ns h1 h2
    have : ∀ ns ∈ sigs, ∀ z ∈ ns, z ∈ (["slot", "target", "source", "field_count", "field", "foreign", "kind", "object_number", "index", "number", "path_source"] : List Str) := by decide +kernel
    exact this ns h1 z h2
  have hR : ∀ (z : Str) (ns : List Str), ns ∈ sigs → z ∈ ns → Rg K tR z (rng z) := by
    intro z ns h1 h2
    have hz := hm0 z ns h1 h2
    simp only [List.mem_cons, List.not_mem_nil, or_false] at hz
    rcases hz with rfl | rfl | rfl | rfl | rfl | rfl | rfl | rfl | rfl | rfl | rfl
    · rw [r_slot]; exact hr0
    · rw [r_target]; exact hr1
    · rw [r_source]; exact hr2
    · rw [r_fc]; exact hr3
    · rw [r_field]; exact hr4
    · rw [r_foreign]; exact hr5
    · rw [r_kind]; exact hr6
    · rw [r_on]; exact z_r0
    · rw [r_index]; exact z_r1
    · rw [r_number]; exact z_r2
    · rw [r_ps]; exact z_r3
  obtain ⟨ns56, kp56, fd, F56⟩ := dT56
  refine ⟨fd, fun s us hu => ?_, fun base _ _ => ?_⟩
  · obtain ⟨⟨_, _, _, _, _, _, _, _, _, rfl, _, _⟩, _⟩ := F56
    exact match us, hu with | [_], _ => .of_eq rfl
  have mG1 : Metd P w K mg base CG 1 "forget_changes" ["self"] (spForget CG) := metd dG1 (fun f fd F => F.binds (ps := ["self"]) fun _ _ _ _ _ _ us hl => match us, hl with | [_], _ => rfl) (fun f fd F => ok_forget F T)
  have mG2 : Metd P w K mg base CG 1 "create" ["self", "field_count"] (spCreate CG) := metd dG2 (fun f fd F => F.binds (ps := ["self", "field_count"]) fun _ _ _ _ _ _ us hl => match us, hl with | [_, _], _ => rfl) (fun f fd F => ok_create F T)
  have mG3 : Metd P w K mg base CG 1 "put" ["self", "slot", "value"] (spPut CG) := metd dG3 (fun f fd F => F.binds (ps := ["self", "slot", "value"]) fun _ _ _ _ _ _ us hl => match us, hl with | [_, _, _], _ => rfl) (fun f fd F => ok_put F T)
  have mG4 : Metd P w K mg base CG 1 "write" ["self", "number", "field", "value"] (spWrite CG) := metd dG4 (fun f fd F => F.binds (ps := ["self", "number", "field", "value"]) fun _ _ _ _ _ _ us hl => match us, hl with | [_, _, _, _], _ => rfl) (fun f fd F => ok_write F T)
  have mG5 : Metd P w K mg base CG 1 "use" ["self", "name"] (spUse CG) := metd dG5 (fun f fd F => F.binds (ps := ["self", "name"]) fun _ _ _ _ _ _ us hl => match us, hl with | [_, _], _ => rfl) (fun f fd F => ok_use F T)
  have mG6 : Metd P w K mg base CG 1 "entries" ["self"] (spNames CG 1 entV) := metd dG6 (fun f fd F => F.binds (ps := ["self"]) fun _ _ _ _ _ _ us hl => match us, hl with | [_], _ => rfl) (fun f fd F => ok_entries F T)
  have mG7 : Metd P w K mg base CG 1 "imports" ["self"] (spNames CG 2 impV) := metd dG7 (fun f fd F => F.binds (ps := ["self"]) fun _ _ _ _ _ _ us hl => match us, hl with | [_], _ => rfl) (fun f fd F => ok_imports F T)
  have mG8 : Metd P w K mg base CG 1 "contains" ["self", "value"] (spContains CG) := metd dG8 (fun f fd F => F.binds (ps := ["self", "value"]) fun _ _ _ _ _ _ us hl => match us, hl with | [_, _], _ => rfl) (fun f fd F => ok_contains F T)
  have mG9 : Metd P w K mg base CG 1 "led_to" ["self", "values"] (spLed CG K) := metd dG9 (fun f fd F => F.binds (ps := ["self", "values"]) fun _ _ _ _ _ _ us hl => match us, hl with | [_, _], _ => rfl) (fun f fd F => ok_led F T)
  have mG10 : Metd P w K mg base CG 2 "collect" ["self"] (spCollect CG) := metd dG10 (fun f fd F => F.binds (ps := ["self"]) fun _ _ _ _ _ _ us hl => match us, hl with | [_], _ => rfl) (fun f fd F => ok_collect F T mG9 mG6 mG7)
  have c17 : Callee P w K mg base 1 "field_refusal" ["graph", "holder", "field"] (spRef CG) := callee X G dT17 (fun f fd F => F.binds (ps := ["graph", "holder", "field"]) fun _ _ _ _ _ _ us hl => match us, hl with | [_, _, _], _ => rfl) (fun f fd F => ok_ref F T)
  have c28 : Callee P w K mg base 1 "first_path" ["graph", "values", "goal"] (spPath CG) := callee X G dT28 (fun f fd F => F.binds (ps := ["graph", "values", "goal"]) fun _ _ _ _ _ _ us hl => match us, hl with | [_, _, _], _ => rfl) (fun f fd F => ok_path F T)
  have c32 : Callee P w K mg base 1 "count_objects" ["values"] (spCount) := callee X G dT32 (fun f fd F => F.binds (ps := ["values"]) fun _ _ _ _ _ _ us hl => match us, hl with | [_], _ => rfl) (fun f fd F => ok_count F T)
  have c36 : Callee P w K mg base 1 "counted" ["numbers"] (spCounted) := callee X G dT36 (fun f fd F => F.binds (ps := ["numbers"]) fun _ _ _ _ _ _ us hl => match us, hl with | [_], _ => rfl) (fun f fd F => ok_counted F T)
  have c37 : Callee P w K mg base 1 "flat_values" ["values"] (spFlat) := callee X G dT37 (fun f fd F => F.binds (ps := ["values"]) fun _ _ _ _ _ _ us hl => match us, hl with | [_], _ => rfl) (fun f fd F => ok_flat F T)
  have mkL : Made P w K mg base CL 1 ["self", "stamp", "rooted", "sources"] (spLine CL) := made dL0 mkL kcL (fun f fd F => F.binds (ps := ["self", "stamp", "rooted", "sources"]) fun _ _ _ _ _ _ us hl => match us, hl with | [_, _, _, _], _ => rfl) (fun f fd F => ok_line F T)
  have mkG0 : Made P w K mg base CG 2 ["self"] (spGInit CG) := made dG0 mkG kcG (fun f fd F => F.binds (ps := ["self"]) fun _ _ _ _ _ _ us hl => match us, hl with | [_], _ => rfl) (fun f fd F => ok_ginit F T mG1)
  have mkS0 : Made P w K mg base CS 1 ["self", "graph"] (spSInit CG CL CS) := made dS0 mkS kcS (fun f fd F => F.binds (ps := ["self", "graph"]) fun _ _ _ _ _ _ us hl => match us, hl with | [_, _], _ => rfl) (fun f fd F => ok_sinit F T)
  have mS1 : Metd P w K mg base CS 2 "all_sources" ["self"] (spSrcs CG CL CS) := metd dS1 (fun f fd F => F.binds (ps := ["self"]) fun _ _ _ _ _ _ us hl => match us, hl with | [_], _ => rfl) (fun f fd F => ok_srcs F T mG6)
  have mS2 : Metd P w K mg base CS 1 "is_affected" ["self", "source"] (spAff CG CL CS) := metd dS2 (fun f fd F => F.binds (ps := ["self", "source"]) fun _ _ _ _ _ _ us hl => match us, hl with | [_, _], _ => rfl) (fun f fd F => ok_aff F T)
  have mS3 : Metd P w K mg base CS 3 "affected_sources" ["self"] (spAffs CG CL CS) := metd dS3 (fun f fd F => F.binds (ps := ["self"]) fun _ _ _ _ _ _ us hl => match us, hl with | [_], _ => rfl) (fun f fd F => ok_affs F T mS1 mS2)
  have mS4 : Metd P w K mg base CS 2 "follow" ["self", "source"] (spFollow CG CL CS) := metd dS4 (fun f fd F => F.binds (ps := ["self", "source"]) fun _ _ _ _ _ _ us hl => match us, hl with | [_, _], _ => rfl) (fun f fd F => ok_follow F T mG9)
  have mS5 : Metd P w K mg base CS 3 "all_reached" ["self"] (spAllR CG CL CS) := metd dS5 (fun f fd F => F.binds (ps := ["self"]) fun _ _ _ _ _ _ us hl => match us, hl with | [_], _ => rfl) (fun f fd F => ok_allR F T mS1 mS2 mS4)
  have mS6 : Metd P w K mg base CS 4 "work_of" ["self", "reached"] (spWork CG CL CS) := metd dS6 (fun f fd F => F.binds (ps := ["self", "reached"]) fun _ _ _ _ _ _ us hl => match us, hl with | [_, _], _ => rfl) (fun f fd F => ok_work F T mS3 c32)
  have mS8 : Metd P w K mg base CS 3 "lines_from" ["self", "reached"] (spLF CG CL CS) := metd dS8 (fun f fd F => F.binds (ps := ["self", "reached"]) fun _ _ _ _ _ _ us hl => match us, hl with | [_, _], _ => rfl) (fun f fd F => ok_LF F T mG6 mkL)
  have mS7 : Metd P w K mg base CS 4 "lines_now" ["self"] (spLN CG CL CS) := metd dS7 (fun f fd F => F.binds (ps := ["self"]) fun _ _ _ _ _ _ us hl => match us, hl with | [_], _ => rfl) (fun f fd F => ok_LN F T mS5 mS8)
  have mS9 : Metd P w K mg base CS 5 "make" ["self"] (spMake CG CL CS) := metd dS9 (fun f fd F => F.binds (ps := ["self"]) fun _ _ _ _ _ _ us hl => match us, hl with | [_], _ => rfl) (fun f fd F => ok_make F T mS5 mS6 mS8 mG1)
  have mS10 : Metd P w K mg base CS 1 "lines_of" ["self", "index"] (spLO CG CL CS) := metd dS10 (fun f fd F => F.binds (ps := ["self", "index"]) fun _ _ _ _ _ _ us hl => match us, hl with | [_, _], _ => rfl) (fun f fd F => ok_LO F T)
  have mS11 : Metd P w K mg base CS 1 "first_outdated" ["self", "lines", "name"] (spFO CG CL CS) := metd dS11 (fun f fd F => F.binds (ps := ["self", "lines", "name"]) fun _ _ _ _ _ _ us hl => match us, hl with | [_, _, _], _ => rfl) (fun f fd F => ok_FO F T)
  have hAC : Acts P w K mg base 3 ca (fun i => spChange CG K i) [f14, f15, f16, f18, f19, f20, f21, f22, f23, f24] := acts_cons (act dT14 (fun f fd F => F.binds (ps := ["graph", "arguments"]) fun _ _ _ _ _ _ us hl => match us, hl with | [_, _], _ => rfl) (fun f fd F => ok_createO F T mG2 mG3) (by decide)) (acts_cons (act dT15 (fun f fd F => F.binds (ps := ["graph", "arguments"]) fun _ _ _ _ _ _ us hl => match us, hl with | [_, _], _ => rfl) (fun f fd F => ok_copy F T mG3) (by decide)) (acts_cons (act dT16 (fun f fd F => F.binds (ps := ["graph", "arguments"]) fun _ _ _ _ _ _ us hl => match us, hl with | [_, _], _ => rfl) (fun f fd F => ok_clear F T mG3) (by decide)) (acts_cons (act dT18 (fun f fd F => F.binds (ps := ["graph", "arguments"]) fun _ _ _ _ _ _ us hl => match us, hl with | [_, _], _ => rfl) (fun f fd F => ok_read F T c17 mG3) (by decide)) (acts_cons (act dT19 (fun f fd F => F.binds (ps := ["graph", "arguments"]) fun _ _ _ _ _ _ us hl => match us, hl with | [_, _], _ => rfl) (fun f fd F => ok_writeF F T c17 mG4) (by decide)) (acts_cons (act dT20 (fun f fd F => F.binds (ps := ["graph", "arguments"]) fun _ _ _ _ _ _ us hl => match us, hl with | [_, _], _ => rfl) (fun f fd F => ok_export F T mG5) (by decide)) (acts_cons (act dT21 (fun f fd F => F.binds (ps := ["graph", "arguments"]) fun _ _ _ _ _ _ us hl => match us, hl with | [_, _], _ => rfl) (fun f fd F => ok_arrive F T mG5 mG3) (by decide)) (acts_cons (act dT22 (fun f fd F => F.binds (ps := ["graph", "arguments"]) fun _ _ _ _ _ _ us hl => match us, hl with | [_, _], _ => rfl) (fun f fd F => ok_import F T mG5 mG3) (by decide)) (acts_cons (act dT23 (fun f fd F => F.binds (ps := ["graph", "arguments"]) fun _ _ _ _ _ _ us hl => match us, hl with | [_, _], _ => rfl) (fun f fd F => ok_retire F T) (by decide)) (acts_cons (act dT24 (fun f fd F => F.binds (ps := ["graph", "arguments"]) fun _ _ _ _ _ _ us hl => match us, hl with | [_, _], _ => rfl) (fun f fd F => ok_garbage F T mG10) (by decide)) (acts_nil))))))))))
  have hAQ : Acts P w K mg base 6 qa (fun i => spAsk CG CL CS K (10 + i)) [f38, f39, f40, f41, f42, f43, f44, f45, f46, f47] := acts_cons (act dT38 (fun f fd F => F.binds (ps := ["surveys", "arguments"]) fun _ _ _ _ _ _ us hl => match us, hl with | [_, _], _ => rfl) (fun f fd F => ok_makeS F T mS9) (by decide)) (acts_cons (act dT39 (fun f fd F => F.binds (ps := ["surveys", "arguments"]) fun _ _ _ _ _ _ us hl => match us, hl with | [_, _], _ => rfl) (fun f fd F => ok_survey F T mS10 c36) (by decide)) (acts_cons (act dT40 (fun f fd F => F.binds (ps := ["surveys", "arguments"]) fun _ _ _ _ _ _ us hl => match us, hl with | [_, _], _ => rfl) (fun f fd F => ok_current F T mS10 mS11) (by decide)) (acts_cons (act dT41 (fun f fd F => F.binds (ps := ["surveys", "arguments"]) fun _ _ _ _ _ _ us hl => match us, hl with | [_, _], _ => rfl) (fun f fd F => ok_lines F T mS7 c36) (by decide)) (acts_cons (act dT42 (fun f fd F => F.binds (ps := ["surveys", "arguments"]) fun _ _ _ _ _ _ us hl => match us, hl with | [_, _], _ => rfl) (fun f fd F => ok_affected F T mS3 mS5 mS6 c36) (by decide)) (acts_cons (act dT43 (fun f fd F => F.binds (ps := ["surveys", "arguments"]) fun _ _ _ _ _ _ us hl => match us, hl with | [_, _], _ => rfl) (fun f fd F => ok_tpath F T mG8 c28 c36) (by decide)) (acts_cons (act dT44 (fun f fd F => F.binds (ps := ["surveys", "arguments"]) fun _ _ _ _ _ _ us hl => match us, hl with | [_, _], _ => rfl) (fun f fd F => ok_stamp F T) (by decide)) (acts_cons (act dT45 (fun f fd F => F.binds (ps := ["surveys", "arguments"]) fun _ _ _ _ _ _ us hl => match us, hl with | [_, _], _ => rfl) (fun f fd F => ok_object F T c37) (by decide)) (acts_cons (act dT46 (fun f fd F => F.binds (ps := ["surveys", "arguments"]) fun _ _ _ _ _ _ us hl => match us, hl with | [_, _], _ => rfl) (fun f fd F => ok_slots F T c37) (by decide)) (acts_cons (act dT47 (fun f fd F => F.binds (ps := ["surveys", "arguments"]) fun _ _ _ _ _ _ us hl => match us, hl with | [_, _], _ => rfl) (fun f fd F => ok_status F T mG6 mG7) (by decide)) (acts_nil))))))))))
  have c26 : Callee P w K mg base 4 "change" ["graph", "operation", "arguments"] (spCh CG K) := callee X G dT26 (fun f fd F => F.binds (ps := ["graph", "operation", "arguments"]) fun _ _ _ _ _ _ us hl => match us, hl with | [_, _, _], _ => rfl) (fun f fd F => ok_ch F T (PySem.W.mg_of X G aC) hC rfl hAC)
  have c50 : Callee P w K mg base 7 "respond" ["surveys", "operation", "arguments"] (spRe CG CL CS K) := callee X G dT50 (fun f fd F => F.binds (ps := ["surveys", "operation", "arguments"]) fun _ _ _ _ _ _ us hl => match us, hl with | [_, _, _], _ => rfl) (fun f fd F => ok_re F T (PySem.W.mg_of X G aQ) hQ rfl hAQ)
  have c54 : Callee P w K mg base 1 "in_range" ["name", "argument"] (spIR K tR) := callee X G dT54 (fun f fd F => F.binds (ps := ["name", "argument"]) fun _ _ _ _ _ _ us hl => match us, hl with | [_, _], _ => rfl) (fun f fd F => ok_IR F (PySem.W.mg_of X G aR) kd)
  have c55 : Callee P w K mg base 8 "answer_call" ["surveys", "operation", "arguments"] (spAC CG CL CS K) := callee X G dT55 (fun f fd F => F.binds (ps := ["surveys", "operation", "arguments"]) fun _ _ _ _ _ _ us hl => match us, hl with | [_, _, _], _ => rfl) (fun f fd F => ok_AC F T (PySem.W.mg_of X G aSig) hS hR c54 c26 c50)
  exact ok_ans F56 T (PySem.W.mg_of X G aSig) hS mkG0 mkS0 c55
end Sv
open PySem PySem.W PyProof.Rows
set_option maxRecDepth 100000 in
set_option maxHeartbeats 0 in
theorem PySem.Challenge.cw_surveyline_s01_answers_holds : PySem.Challenge.rw_surveyline_s01_answers.Holds := by
  w_on; k_headS; (case hw => exact ⟨[.list [.int 19]], by decide +kernel, by decide +kernel⟩)
  k_fillS
  refine L2.walk_specK (r := PySem.Challenge.rw_surveyline_s01_answers) (k := 9) (CX := L2.CX0) (ps := ["calls"]) (sp := Sv.spAns) (by decide +kernel) rfl rfl ⟨rfl, by decide, by decide⟩ (fun w h Y => PySem.W.kIn_of Y) ?F ?S (fun _ _ _ _ z => z)
  case F =>
    intro w mg fa h Y KX G hmg
    refine' Sv.all_mk KX G hmg ?gG ?gL ?gS ?pgG ?hdG ?poG ?saG ?mkG ?kcG ?atG0 ?atG1 ?atG2 ?atG3 ?atG4 ?atG5 ?atG6 ?atG7 ?pgL ?hdL ?poL ?saL ?mkL ?kcL ?atL0 ?atL1 ?atL2 ?pgS ?hdS ?poS ?saS ?mkS ?kcS ?atS0 ?atS1 ?atS2 ?dG0 ?dG1 ?dG2 ?dG3 ?dG4 ?dG5 ?dG6 ?dG7 ?dG8 ?dG9 ?dG10 ?dL0 ?dS0 ?dS1 ?dS2 ?dS3 ?dS4 ?dS5 ?dS6 ?dS7 ?dS8 ?dS9 ?dS10 ?dS11 ?dT14 ?dT15 ?dT16 ?dT18 ?dT19 ?dT20 ?dT21 ?dT22 ?dT23 ?dT24 ?dT38 ?dT39 ?dT40 ?dT41 ?dT42 ?dT43 ?dT44 ?dT45 ?dT46 ?dT47 ?dT17 ?dT28 ?dT32 ?dT36 ?dT37 ?dT26 ?dT50 ?dT54 ?dT55 ?dT56 ?n1 ?n3 ?n5 ?n6 ?n7 ?n8 ?nN ?nO ?nF ?nC ?nM ?nV ?nS ?nQ ?b_len ?b_sorted ?b_list ?b_any ?b_sum ?b_enumerate ?b_zip ?aC ?l_tC ?aQ ?l_tQ ?aSig ?l_tS ?l_s0 ?l_s1 ?l_s2 ?l_s3 ?l_s4 ?l_s5 ?l_s6 ?l_s7 ?l_s8 ?l_s9 ?l_s10 ?l_s11 ?l_s12 ?l_s13 ?l_s14 ?l_s15 ?l_s16 ?l_s17 ?l_s18 ?l_s19 ?aR ?lR ?kR ?wR ?g_r0 ?l_r0 ?g_r1 ?l_r1 ?g_r2 ?l_r2 ?g_r3 ?l_r3 ?g_r4 ?l_r4 ?g_r5 ?l_r5 ?g_r6 ?l_r6 ?z_r0 ?z_r1 ?z_r2 ?z_r3
    (case gG => k_is)
    (case gL => k_is)
    (case gS => k_is)
    (case pgG => k_is)
    (case hdG => k_is)
    (case poG => k_is)
    (case saG => k_is)
    (case mkG => k_is)
    (case kcG => k_is)
    (case atG0 => k_is)
    (case atG1 => k_is)
    (case atG2 => k_is)
    (case atG3 => k_is)
    (case atG4 => k_is)
    (case atG5 => k_is)
    (case atG6 => k_is)
    (case atG7 => k_is)
    (case pgL => k_is)
    (case hdL => k_is)
    (case poL => k_is)
    (case saL => k_is)
    (case mkL => k_is)
    (case kcL => k_is)
    (case atL0 => k_is)
    (case atL1 => k_is)
    (case atL2 => k_is)
    (case pgS => k_is)
    (case hdS => k_is)
    (case poS => k_is)
    (case saS => k_is)
    (case mkS => k_is)
    (case kcS => k_is)
    (case atS0 => k_is)
    (case atS1 => k_is)
    (case atS2 => k_is)
    (case dG0 => refine' Sv.defM ?a ?i ?l ?c ?k; (case a => k_is); (case i => k_is); (case l => k_is); (case c => k_is); (case k => k_is))
    (case dG1 => refine' Sv.defM ?a ?i ?l ?c ?k; (case a => k_is); (case i => k_is); (case l => k_is); (case c => k_is); (case k => k_is))
    (case dG2 => refine' Sv.defM ?a ?i ?l ?c ?k; (case a => k_is); (case i => k_is); (case l => k_is); (case c => k_is); (case k => k_is))
    (case dG3 => refine' Sv.defM ?a ?i ?l ?c ?k; (case a => k_is); (case i => k_is); (case l => k_is); (case c => k_is); (case k => k_is))
    (case dG4 => refine' Sv.defM ?a ?i ?l ?c ?k; (case a => k_is); (case i => k_is); (case l => k_is); (case c => k_is); (case k => k_is))
    (case dG5 => refine' Sv.defM ?a ?i ?l ?c ?k; (case a => k_is); (case i => k_is); (case l => k_is); (case c => k_is); (case k => k_is))
    (case dG6 => refine' Sv.defM ?a ?i ?l ?c ?k; (case a => k_is); (case i => k_is); (case l => k_is); (case c => k_is); (case k => k_is))
    (case dG7 => refine' Sv.defM ?a ?i ?l ?c ?k; (case a => k_is); (case i => k_is); (case l => k_is); (case c => k_is); (case k => k_is))
    (case dG8 => refine' Sv.defM ?a ?i ?l ?c ?k; (case a => k_is); (case i => k_is); (case l => k_is); (case c => k_is); (case k => k_is))
    (case dG9 => refine' Sv.defM ?a ?i ?l ?c ?k; (case a => k_is); (case i => k_is); (case l => k_is); (case c => k_is); (case k => k_is))
    (case dG10 => refine' Sv.defM ?a ?i ?l ?c ?k; (case a => k_is); (case i => k_is); (case l => k_is); (case c => k_is); (case k => k_is))
    (case dL0 => refine' Sv.defM ?a ?i ?l ?c ?k; (case a => k_is); (case i => k_is); (case l => k_is); (case c => k_is); (case k => k_is))
    (case dS0 => refine' Sv.defM ?a ?i ?l ?c ?k; (case a => k_is); (case i => k_is); (case l => k_is); (case c => k_is); (case k => k_is))
    (case dS1 => refine' Sv.defM ?a ?i ?l ?c ?k; (case a => k_is); (case i => k_is); (case l => k_is); (case c => k_is); (case k => k_is))
    (case dS2 => refine' Sv.defM ?a ?i ?l ?c ?k; (case a => k_is); (case i => k_is); (case l => k_is); (case c => k_is); (case k => k_is))
    (case dS3 => refine' Sv.defM ?a ?i ?l ?c ?k; (case a => k_is); (case i => k_is); (case l => k_is); (case c => k_is); (case k => k_is))
    (case dS4 => refine' Sv.defM ?a ?i ?l ?c ?k; (case a => k_is); (case i => k_is); (case l => k_is); (case c => k_is); (case k => k_is))
    (case dS5 => refine' Sv.defM ?a ?i ?l ?c ?k; (case a => k_is); (case i => k_is); (case l => k_is); (case c => k_is); (case k => k_is))
    (case dS6 => refine' Sv.defM ?a ?i ?l ?c ?k; (case a => k_is); (case i => k_is); (case l => k_is); (case c => k_is); (case k => k_is))
    (case dS7 => refine' Sv.defM ?a ?i ?l ?c ?k; (case a => k_is); (case i => k_is); (case l => k_is); (case c => k_is); (case k => k_is))
    (case dS8 => refine' Sv.defM ?a ?i ?l ?c ?k; (case a => k_is); (case i => k_is); (case l => k_is); (case c => k_is); (case k => k_is))
    (case dS9 => refine' Sv.defM ?a ?i ?l ?c ?k; (case a => k_is); (case i => k_is); (case l => k_is); (case c => k_is); (case k => k_is))
    (case dS10 => refine' Sv.defM ?a ?i ?l ?c ?k; (case a => k_is); (case i => k_is); (case l => k_is); (case c => k_is); (case k => k_is))
    (case dS11 => refine' Sv.defM ?a ?i ?l ?c ?k; (case a => k_is); (case i => k_is); (case l => k_is); (case c => k_is); (case k => k_is))
    (case dT14 => refine' Sv.defT ?a ?l ?c ?k; (case a => k_is); (case l => k_is); (case c => k_is); (case k => k_is))
    (case dT15 => refine' Sv.defT ?a ?l ?c ?k; (case a => k_is); (case l => k_is); (case c => k_is); (case k => k_is))
    (case dT16 => refine' Sv.defT ?a ?l ?c ?k; (case a => k_is); (case l => k_is); (case c => k_is); (case k => k_is))
    (case dT18 => refine' Sv.defT ?a ?l ?c ?k; (case a => k_is); (case l => k_is); (case c => k_is); (case k => k_is))
    (case dT19 => refine' Sv.defT ?a ?l ?c ?k; (case a => k_is); (case l => k_is); (case c => k_is); (case k => k_is))
    (case dT20 => refine' Sv.defT ?a ?l ?c ?k; (case a => k_is); (case l => k_is); (case c => k_is); (case k => k_is))
    (case dT21 => refine' Sv.defT ?a ?l ?c ?k; (case a => k_is); (case l => k_is); (case c => k_is); (case k => k_is))
    (case dT22 => refine' Sv.defT ?a ?l ?c ?k; (case a => k_is); (case l => k_is); (case c => k_is); (case k => k_is))
    (case dT23 => refine' Sv.defT ?a ?l ?c ?k; (case a => k_is); (case l => k_is); (case c => k_is); (case k => k_is))
    (case dT24 => refine' Sv.defT ?a ?l ?c ?k; (case a => k_is); (case l => k_is); (case c => k_is); (case k => k_is))
    (case dT38 => refine' Sv.defT ?a ?l ?c ?k; (case a => k_is); (case l => k_is); (case c => k_is); (case k => k_is))
    (case dT39 => refine' Sv.defT ?a ?l ?c ?k; (case a => k_is); (case l => k_is); (case c => k_is); (case k => k_is))
    (case dT40 => refine' Sv.defT ?a ?l ?c ?k; (case a => k_is); (case l => k_is); (case c => k_is); (case k => k_is))
    (case dT41 => refine' Sv.defT ?a ?l ?c ?k; (case a => k_is); (case l => k_is); (case c => k_is); (case k => k_is))
    (case dT42 => refine' Sv.defT ?a ?l ?c ?k; (case a => k_is); (case l => k_is); (case c => k_is); (case k => k_is))
    (case dT43 => refine' Sv.defT ?a ?l ?c ?k; (case a => k_is); (case l => k_is); (case c => k_is); (case k => k_is))
    (case dT44 => refine' Sv.defT ?a ?l ?c ?k; (case a => k_is); (case l => k_is); (case c => k_is); (case k => k_is))
    (case dT45 => refine' Sv.defT ?a ?l ?c ?k; (case a => k_is); (case l => k_is); (case c => k_is); (case k => k_is))
    (case dT46 => refine' Sv.defT ?a ?l ?c ?k; (case a => k_is); (case l => k_is); (case c => k_is); (case k => k_is))
    (case dT47 => refine' Sv.defT ?a ?l ?c ?k; (case a => k_is); (case l => k_is); (case c => k_is); (case k => k_is))
    (case dT17 => refine' Sv.defT ?a ?l ?c ?k; (case a => k_is); (case l => k_is); (case c => k_is); (case k => k_is))
    (case dT28 => refine' Sv.defT ?a ?l ?c ?k; (case a => k_is); (case l => k_is); (case c => k_is); (case k => k_is))
    (case dT32 => refine' Sv.defT ?a ?l ?c ?k; (case a => k_is); (case l => k_is); (case c => k_is); (case k => k_is))
    (case dT36 => refine' Sv.defT ?a ?l ?c ?k; (case a => k_is); (case l => k_is); (case c => k_is); (case k => k_is))
    (case dT37 => refine' Sv.defT ?a ?l ?c ?k; (case a => k_is); (case l => k_is); (case c => k_is); (case k => k_is))
    (case dT26 => refine' Sv.defT ?a ?l ?c ?k; (case a => k_is); (case l => k_is); (case c => k_is); (case k => k_is))
    (case dT50 => refine' Sv.defT ?a ?l ?c ?k; (case a => k_is); (case l => k_is); (case c => k_is); (case k => k_is))
    (case dT54 => refine' Sv.defT ?a ?l ?c ?k; (case a => k_is); (case l => k_is); (case c => k_is); (case k => k_is))
    (case dT55 => refine' Sv.defT ?a ?l ?c ?k; (case a => k_is); (case l => k_is); (case c => k_is); (case k => k_is))
    (case dT56 => refine' Sv.defT ?a ?l ?c ?k; (case a => k_is); (case l => k_is); (case c => k_is); (case k => k_is))
    (case n1 => k_is)
    (case n3 => k_is)
    (case n5 => k_is)
    (case n6 => k_is)
    (case n7 => k_is)
    (case n8 => k_is)
    (case nN => k_is)
    (case nO => k_is)
    (case nF => k_is)
    (case nC => k_is)
    (case nM => k_is)
    (case nV => k_is)
    (case nS => k_is)
    (case nQ => k_is)
    (case b_len => k_is)
    (case b_sorted => k_is)
    (case b_list => k_is)
    (case b_any => k_is)
    (case b_sum => k_is)
    (case b_enumerate => k_is)
    (case b_zip => k_is)
    (case aC => k_is)
    (case l_tC => k_is)
    (case aQ => k_is)
    (case l_tQ => k_is)
    (case aSig => k_is)
    (case l_tS => k_is)
    (case l_s0 => k_is)
    (case l_s1 => k_is)
    (case l_s2 => k_is)
    (case l_s3 => k_is)
    (case l_s4 => k_is)
    (case l_s5 => k_is)
    (case l_s6 => k_is)
    (case l_s7 => k_is)
    (case l_s8 => k_is)
    (case l_s9 => k_is)
    (case l_s10 => k_is)
    (case l_s11 => k_is)
    (case l_s12 => k_is)
    (case l_s13 => k_is)
    (case l_s14 => k_is)
    (case l_s15 => k_is)
    (case l_s16 => k_is)
    (case l_s17 => k_is)
    (case l_s18 => k_is)
    (case l_s19 => k_is)
    (case aR => k_is)
    (case lR => k_is)
    (case kR => k_keys)
    (case wR => rfl)
    (case g_r0 => k_is)
    (case l_r0 => k_is)
    (case g_r1 => k_is)
    (case l_r1 => k_is)
    (case g_r2 => k_is)
    (case l_r2 => k_is)
    (case g_r3 => k_is)
    (case l_r3 => k_is)
    (case g_r4 => k_is)
    (case l_r4 => k_is)
    (case g_r5 => k_is)
    (case l_r5 => k_is)
    (case g_r6 => k_is)
    (case l_r6 => k_is)
    (case z_r0 => k_is)
    (case z_r1 => k_is)
    (case z_r2 => k_is)
    (case z_r3 => k_is)
  case S =>
    intro K H xs a hO hwi hask hx
    cases hx with
    | cons h1 h2 =>
      cases h2
      cases h1 with
      | lst hs ha =>
        have e := L2.ints_dw a.1 _ ha
        subst e
        exact ⟨_, a.1, rfl, hs, hask, fun H' p hp => .lst (L2.SqL.of hp) (L2.dw_ints _)⟩
