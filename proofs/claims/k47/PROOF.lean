import PyProof.Rows.All
import Wide.All
import OpenK.AllK
import Wide.FinOn
import PySem.Challenge.RW_pactloom_k47_tidied_bodies
import HandS.ForMost
import HandS.IsInst
import HandS.TupAny
import HandS.StrMore
import HandS.Codes
import HandS.Dict
import HandS.More
import HandS.Text
import HandS.FStr
import HandS.Exc
import HandS.Sort
import HandS.Zip0
import HandS.NoneIn
import HandS.List
import HandS.Conv
import HandS.Keys
import KE.KSortTupG
import HandS.WordsExc
import HandS.ExcInit
import HandS.ExcField
import HandS.TryOnly
import KE.KExcIs
import HandS.ExcIs
import HandS.HotCalls
import HandS.Deep
set_option Elab.async false
set_option linter.all false
set_option maxRecDepth 100000
set_option maxHeartbeats 4000000
/-! Ab: readings over data instead of heaps: values that never change are data (PyData), what changes are cells by their number. -/
namespace Ab
open PySem L2

inductive AV where
  | d (x : PyData)
  | c (k : Nat)
  | r (v : V)

inductive Cell where
  | dead
  /-- a list of data; a list, a tuple of any things -/
  | ld (xs : List PyData)
  | lst (xs : List AV)
  | tup (xs : List AV)
  | dK (kvs : List (Key × PyData))
  | dT (kvs : List (List Key × PyData))
  | ins (C : Addr) (fs : List (Str × AV))

abbrev AD := List (Option AV)
abbrev AK := List Cell
abbrev AR := AV → AK → Prop
abbrev AE := AD → AK → AR → Prop
abbrev AT := AD → AK → (Bool → AK → Prop) → Prop
abbrev AA := AD → AK → (List AV → AK → Prop) → Prop

mutual
theorem dp_up {K : PySem.W.Frag} {B B' : Hp} (s : Same B B') : ∀ (d : PyData) (v : V), Dp K B v d → Dp K B' v d
  | .none, _, h => by cases h; exact .non
  | .bool b, _, h => by cases h; exact .bl b
  | .int i, _, h => by cases h; exact .int i
  | .str x, _, h => by cases h; exact .str x
  | .list ds, _, h => by
    cases h with
    | lst hs ha => exact .lst (s.seq hs) (dpa_up s ds _ ha)
  | .tuple ds, _, h => by
    cases h with
    | tup hs ha =>
      refine .tup ?_ (dpa_up s ds _ ha)
      rcases hs with (h | ⟨o, h⟩) | h
      · exact .inl (.inl (s _ _ h))
      · exact .inl (.inr ⟨o, s _ _ h⟩)
      · exact .inr h
  | .dict _, _, h => by cases h
theorem dpa_up {K : PySem.W.Frag} {B B' : Hp} (s : Same B B') : ∀ (ds : List PyData) (vs : List V), DpAll K B vs ds → DpAll K B' vs ds
  | [], _, h => by cases h; exact .nil
  | d :: ds, _, h => by
    cases h with
    | cons h1 h2 => exact .cons (dp_up s d _ h1) (dpa_up s ds _ h2)
end

variable {K : PySem.W.Frag} {B B' B2 H H' H2 : Hp} {ρ ρ' ρ2 : List Addr} {κ κ' : AK} {δ : AD} {σ : L2.St} {p : Addr} {k : Nat} {v x y z : V} {a b c : AV}

def Rep (K : PySem.W.Frag) (B : Hp) (ρ : List Addr) : AV → V → Prop
  | .d x, v => Dp K B v x
  | .c k, v => ∃ p, ρ[k]? = some p ∧ v = .ref p
  | .r u, v => v = u
abbrev Reps (K : PySem.W.Frag) (B : Hp) (ρ : List Addr) : List AV → List V → Prop := Paired (Rep K B ρ)
/-- entries with data -/
def DpKs {κ : Type} (K : PySem.W.Frag) (B : Hp) : List (κ × PyData) → List (κ × V) → Prop := Paired fun p q => p.1 = q.1 ∧ Dp K B q.2 p.2
theorem DpKs.up {κ : Type} (u : Same B B') {as : List (κ × PyData)} {vs : List (κ × V)} (h : DpKs K B as vs) : DpKs K B' as vs := Paired.mapP h fun _ _ r => ⟨r.1, dp_up u _ _ r.2⟩
def RepKs {κ : Type} (K : PySem.W.Frag) (B : Hp) (ρ : List Addr) : List (κ × AV) → List (κ × V) → Prop := Paired fun p q => p.1 = q.1 ∧ Rep K B ρ p.2 q.2

/-- a tuple -/
def IsT (o : HO) : Prop := ∃ ws, o = .tup ws
/-- from (B, ρ, H) to (B', ρ', H'): data stays data, cells keep their places, what is neither stays as it was -/
structure Up (B : Hp) (ρ : List Addr) (H : Hp) (B' : Hp) (ρ' : List Addr) (H' : Hp) : Prop where
  s : Same B B'
  p : ∀ (i : Nat) (a : Addr), ρ[i]? = some a → ρ'[i]? = some a
  f : ∀ p o, H p = some o → (B p = none ∨ IsT o) → p ∉ ρ → H' p = some o ∧ (B' p = none ∨ IsT o) ∧ p ∉ ρ'
theorem Up.refl : Up B ρ H B ρ H := ⟨Same.refl B, fun _ _ h => h, fun _ _ h1 h2 h3 => ⟨h1, h2, h3⟩⟩
theorem Up.trans (a : Up B ρ H B' ρ' H') (b : Up B' ρ' H' B2 ρ2 H2) : Up B ρ H B2 ρ2 H2 := ⟨a.s.trans b.s, fun i x h => b.p i x (a.p i x h), fun p o h1 h2 h3 => let ⟨e1, e2, e3⟩ := a.f p o h1 h2 h3; b.f p o e1 e2 e3⟩
/-- the same of the first n cells alone -/
structure UpN (n : Nat) (B : Hp) (ρ : List Addr) (H : Hp) (B' : Hp) (ρ' : List Addr) (H' : Hp) : Prop where
  s : Same B B'
  p : ∀ (i : Nat) (a : Addr), i < n → ρ[i]? = some a → ρ'[i]? = some a
  f : ∀ p o, H p = some o → (B p = none ∨ IsT o) → p ∉ ρ → H' p = some o ∧ (B' p = none ∨ IsT o) ∧ p ∉ ρ'
theorem Up.n {n : Nat} (a : Up B ρ H B' ρ' H') : UpN n B ρ H B' ρ' H' := ⟨a.s, fun i x _ h => a.p i x h, a.f⟩
theorem UpN.refl {n : Nat} : UpN n B ρ H B ρ H := Up.refl.n
theorem UpN.trans {n : Nat} (a : UpN n B ρ H B' ρ' H') (b : UpN n B' ρ' H' B2 ρ2 H2) : UpN n B ρ H B2 ρ2 H2 := ⟨a.s.trans b.s, fun i x hi h => b.p i x hi (a.p i x hi h), fun p o h1 h2 h3 => let ⟨e1, e2, e3⟩ := a.f p o h1 h2 h3; b.f p o e1 e2 e3⟩
theorem UpN.full {n : Nat} (a : UpN n B ρ H B' ρ' H') (h : ρ.length ≤ n) : Up B ρ H B' ρ' H' := ⟨a.s, fun i x e => a.p i x (Nat.lt_of_lt_of_le (List.getElem?_eq_some_iff.mp e).1 h) e, a.f⟩
/-- data and cells alone -/
structure Ug (B : Hp) (ρ : List Addr) (B' : Hp) (ρ' : List Addr) : Prop where
  s : Same B B'
  p : ∀ (i : Nat) (a : Addr), ρ[i]? = some a → ρ'[i]? = some a
theorem Ug.refl : Ug B ρ B ρ := ⟨Same.refl B, fun _ _ h => h⟩
theorem Up.g (u : Up B ρ H B' ρ' H') : Ug B ρ B' ρ' := ⟨u.s, u.p⟩
theorem Rep.up (u : Ug B ρ B' ρ') : ∀ {a : AV} {v : V}, Rep K B ρ a v → Rep K B' ρ' a v
  | .d x, _, h => dp_up u.s x _ h
  | .c k, _, ⟨p, h, e⟩ => ⟨p, u.p _ _ h, e⟩
  | .r _, _, h => h
theorem Reps.up (u : Ug B ρ B' ρ') {as : List AV} {vs : List V} (h : Reps K B ρ as vs) : Reps K B' ρ' as vs := Paired.mapP h fun _ _ r => r.up u
theorem RepKs.up {κ : Type} (u : Ug B ρ B' ρ') {as : List (κ × AV)} {vs : List (κ × V)} (h : RepKs K B ρ as vs) : RepKs K B' ρ' as vs := Paired.mapP h fun _ _ r => ⟨r.1, r.2.up u⟩

def CellOk (K : PySem.W.Frag) (B : Hp) (ρ : List Addr) (H : Hp) (p : Addr) : Cell → Prop
  | .dead => H p ≠ none
  | .ld xs => B p = none ∧ ∃ vs, DpAll K B vs xs ∧ H p = some (.lst vs)
  | .lst xs => B p = none ∧ ∃ vs, Reps K B ρ xs vs ∧ H p = some (.lst vs)
  | .tup xs => ∃ vs, Reps K B ρ xs vs ∧ H p = some (.tup vs)
  | .dK kvs => B p = none ∧ ∃ ws, DpKs K B kvs ws ∧ H p = some (.dK ws)
  | .dT kvs => B p = none ∧ ∃ ws, DpKs K B kvs ws ∧ H p = some (.dT ws)
  | .ins C fs => B p = none ∧ ∃ dx ws, RepKs K B ρ fs ws ∧ H p = some (.ins C dx ws)
theorem CellOk.nn {cl : Cell} (h : CellOk K B ρ H p cl) : H p ≠ none := by
  cases cl with
  | dead => exact h
  | ld xs => obtain ⟨_, _, _, e⟩ := h; rw [e]; simp
  | lst xs => obtain ⟨_, _, _, e⟩ := h; rw [e]; simp
  | tup xs => obtain ⟨_, _, e⟩ := h; rw [e]; simp
  | dK xs => obtain ⟨_, _, _, e⟩ := h; rw [e]; simp
  | dT xs => obtain ⟨_, _, _, e⟩ := h; rw [e]; simp
  | ins C xs => obtain ⟨_, _, _, _, e⟩ := h; rw [e]; simp
/-- the cell stays: its own object, and it is not in the base -/
theorem CellOk.up {cl : Cell} (u : Ug B ρ B' ρ') (h : CellOk K B ρ H p cl) (hb : B p = none → B' p = none ∨ ∃ ws, H p = some (.tup ws)) (hh : ∀ o, H p = some o → H' p = some o) : CellOk K B' ρ' H' p cl := by
  cases cl with
  | dead =>
    show H' p ≠ none
    cases e : H p with
    | none => exact absurd e h
    | some o => rw [hh o e]; simp
  | ld xs => obtain ⟨n, vs, r, e⟩ := h; exact ⟨(hb n).elim id fun ⟨ws, z⟩ => (by rw [e] at z; cases z), vs, dpa_up u.s _ _ r, hh _ e⟩
  | lst xs => obtain ⟨n, vs, r, e⟩ := h; exact ⟨(hb n).elim id fun ⟨ws, z⟩ => (by rw [e] at z; cases z), vs, Reps.up u r, hh _ e⟩
  | tup xs => obtain ⟨vs, r, e⟩ := h; exact ⟨vs, Reps.up u r, hh _ e⟩
  | dK xs => obtain ⟨n, vs, r, e⟩ := h; exact ⟨(hb n).elim id fun ⟨ws, z⟩ => (by rw [e] at z; cases z), vs, DpKs.up u.s r, hh _ e⟩
  | dT xs => obtain ⟨n, vs, r, e⟩ := h; exact ⟨(hb n).elim id fun ⟨ws, z⟩ => (by rw [e] at z; cases z), vs, DpKs.up u.s r, hh _ e⟩
  | ins C xs => obtain ⟨n, dx, vs, r, e⟩ := h; exact ⟨(hb n).elim id fun ⟨ws, z⟩ => (by rw [e] at z; cases z), dx, vs, RepKs.up u r, hh _ e⟩

/-- what is written, and a predicate of states that every later state keeps -/
structure Frg where
  K : PySem.W.Frag
  n : Nat
  Z : Hp → List Addr → Hp → Prop
  up : ∀ B ρ H B' ρ' H', UpN n B ρ H B' ρ' H' → Z B ρ H → Z B' ρ' H'
instance : CoeOut Frg PySem.W.Frag := ⟨Frg.K⟩
abbrev Frg.of (K : PySem.W.Frag) : Frg := ⟨K, 0, fun _ _ _ => True, fun _ _ _ _ _ _ _ _ => True.intro⟩
variable {K : Frg}
structure G (K : Frg) (B : Hp) (ρ : List Addr) (κ : AK) (H : Hp) : Prop where
  ex : Same B H
  len : ρ.length = κ.length
  inj : ∀ (i j : Nat) (p : Addr), ρ[i]? = some p → ρ[j]? = some p → i = j
  at' : ∀ (k : Nat) (p : Addr) (c : Cell), ρ[k]? = some p → κ[k]? = some c → CellOk K B ρ H p c
  z : K.Z B ρ H
structure S (K : PySem.W.Frag) (B : Hp) (ρ : List Addr) (δ : AD) (σ : L2.St) : Prop where
  len : δ.length = σ.length
  at' : ∀ (i : Nat) (a : AV), δ[i]? = some (some a) → ∃ v, σ[i]? = some (some v) ∧ Rep K B ρ a v
theorem S.up (u : Ug B ρ B' ρ') (s : S K B ρ δ σ) : S K B' ρ' δ σ := ⟨s.len, fun i a h => let ⟨v, e, r⟩ := s.at' i a h; ⟨v, e, r.up u⟩⟩
theorem S.set {i : Nat} (s : S K B ρ δ σ) (r : Rep K B ρ a v) : S K B ρ (δ.set i (some a)) (σ.set i (some v)) := by
  refine ⟨by rw [List.length_set, List.length_set]; exact s.len, fun j b h => ?_⟩
  by_cases e : i = j
  · subst e
    have hl : i < δ.length := by
      have := (List.getElem?_eq_some_iff.mp h).1
      rw [List.length_set] at this
      exact this
    rw [List.getElem?_set_self hl] at h
    cases h
    exact ⟨v, List.getElem?_set_self (s.len ▸ hl), r⟩
  · rw [List.getElem?_set_ne e] at h
    obtain ⟨w, e2, r2⟩ := s.at' j b h
    exact ⟨w, by rw [List.getElem?_set_ne e]; exact e2, r2⟩
theorem S.clr {i : Nat} (s : S K B ρ δ σ) {u : Option V} : S K B ρ (δ.set i none) (σ.set i u) := by
  refine ⟨by rw [List.length_set, List.length_set]; exact s.len, fun j b h => ?_⟩
  by_cases e : i = j
  · subst e
    have hl : i < δ.length := by
      have := (List.getElem?_eq_some_iff.mp h).1
      rw [List.length_set] at this
      exact this
    rw [List.getElem?_set_self hl] at h
    cases h
  · rw [List.getElem?_set_ne e] at h
    obtain ⟨w, e2, r2⟩ := s.at' j b h
    exact ⟨w, by rw [List.getElem?_set_ne e]; exact e2, r2⟩

theorem get_app {α : Type} {l : List α} {m : List α} {i : Nat} {a : α} (h : l[i]? = some a) : (l ++ m)[i]? = some a := by
  rw [List.getElem?_append_left (List.getElem?_eq_some_iff.mp h).1]; exact h
theorem get_snoc {α : Type} {l : List α} {i : Nat} {x a : α} (h : (l ++ [x])[i]? = some a) : (i < l.length ∧ l[i]? = some a) ∨ (i = l.length ∧ a = x) := by
  by_cases hl : i < l.length
  · rw [List.getElem?_append_left hl] at h; exact .inl ⟨hl, h⟩
  · have hb := (List.getElem?_eq_some_iff.mp h).1
    rw [List.length_append] at hb
    have e : i = l.length := by
      have : ([x] : List α).length = 1 := rfl
      omega
    subst e
    rw [List.getElem?_append_right (Nat.le_refl _)] at h
    simp at h
    exact .inr ⟨rfl, h.symm⟩
theorem up_snoc : Ug B ρ B (ρ ++ [p]) := ⟨Same.refl B, fun _ _ h => get_app h⟩
theorem G.fresh (g : G K B ρ κ H) (n : H p = none) : B p = none := g.ex.free n
theorem G.nin (g : G K B ρ κ H) (n : H p = none) {i : Nat} {q : Addr} (h : ρ[i]? = some q) : q ≠ p := fun e => by
  subst e
  have hi : i < κ.length := by rw [← g.len]; exact (List.getElem?_eq_some_iff.mp h).1
  exact (g.at' i q _ h (List.getElem?_eq_getElem hi)).nn n
theorem same_upd {o : HO} (h : H p = none) : Same H (upd H p o) := fun b x e => by
  rw [upd_ne (ne_of_none e h)]; exact e
theorem G.allocUp (g : G K B ρ κ H) (n : H p = none) {o : HO} : Up B ρ H B (ρ ++ [p]) (upd H p o) := ⟨Same.refl B, fun _ _ h => get_app h, fun q o' h1 h2 h3 => by
  have hq := ne_of_none h1 n
  rw [upd_ne hq]
  refine ⟨h1, h2, fun z => ?_⟩
  rcases List.mem_append.mp z with z | z
  · exact h3 z
  · exact hq (by simpa using z)⟩
/-- a new cell -/
theorem G.alloc (g : G K B ρ κ H) (n : H p = none) {o : HO} {cl : Cell} (hc : CellOk K B ρ (upd H p o) p cl) : G K B (ρ ++ [p]) (κ ++ [cl]) (upd H p o) := by
  refine ⟨fun b u e => same_upd n b u (g.ex b u e), by rw [List.length_append, List.length_append, g.len] <;> rfl, fun i j q h1 h2 => ?_, fun i q c h1 h2 => ?_, K.up _ _ _ _ _ _ (g.allocUp n).n g.z⟩
  · rcases get_snoc h1 with ⟨l1, e1⟩ | ⟨l1, e1⟩
    · rcases get_snoc h2 with ⟨l2, e2⟩ | ⟨l2, e2⟩
      · exact g.inj i j q e1 e2
      · subst e2; exact absurd rfl (g.nin n e1)
    · rcases get_snoc h2 with ⟨l2, e2⟩ | ⟨l2, e2⟩
      · subst e1; exact absurd rfl (g.nin n e2)
      · rw [l1, l2]
  · rcases get_snoc h1 with ⟨l1, e1⟩ | ⟨l1, e1⟩
    · rw [List.getElem?_append_left (g.len ▸ l1)] at h2
      have hq := g.nin n e1
      exact (g.at' i q c e1 h2).up up_snoc Or.inl fun o' e => by rw [upd_ne hq]; exact e
    · subst e1
      rcases get_snoc h2 with ⟨l2, e2⟩ | ⟨l2, e2⟩
      · rw [l1, g.len] at l2; exact absurd l2 (Nat.lt_irrefl _)
      · subst e2; exact hc.up up_snoc Or.inl fun _ e => e
theorem rep_new (g : G K B ρ κ H) : Rep K B (ρ ++ [p]) (.c κ.length) (.ref p) := ⟨p, by rw [← g.len]; simp, rfl⟩
/-- new data in the base -/
theorem G.data (g : G K B ρ κ H) (n : H p = none) {o : HO} : Up B ρ H (upd B p o) ρ (upd H p o) ∧ G K (upd B p o) ρ κ (upd H p o) := by
  have nb := g.fresh n
  have u : Up B ρ H (upd B p o) ρ (upd H p o) := ⟨same_upd nb, fun _ _ h => h, fun q o' h1 h2 h3 => by
    have hq := ne_of_none h1 n
    rw [upd_ne hq, upd_ne hq]; exact ⟨h1, h2, h3⟩⟩
  refine ⟨u, ⟨fun b x e => ?_, g.len, g.inj, fun i q c h1 h2 => ?_, K.up _ _ _ _ _ _ u.n g.z⟩⟩
  · by_cases hb : b = p
    · subst hb; rw [upd_same] at e ⊢; exact e
    · rw [upd_ne hb] at e ⊢; exact g.ex b x e
  · have hq := g.nin n h1
    exact (g.at' i q c h1 h2).up u.g (fun z => .inl (by rw [upd_ne hq]; exact z)) fun o' e => by rw [upd_ne hq]; exact e
theorem mem_of_get {α : Type} {l : List α} {i : Nat} {a : α} (h : l[i]? = some a) : a ∈ l := List.mem_of_getElem? h
theorem G.writeUp (hp : ρ[k]? = some p) {o : HO} : Up B ρ H B ρ (upd H p o) := ⟨Same.refl B, fun _ _ h => h, fun q o' h1 h2 h3 => by
  have hq : q ≠ p := fun e => h3 (e ▸ mem_of_get hp)
  rw [upd_ne hq]; exact ⟨h1, h2, h3⟩⟩
/-- a cell changes -/
theorem G.write (g : G K B ρ κ H) (hp : ρ[k]? = some p) (hb : B p = none) {o : HO} {cl : Cell} (hc : CellOk K B ρ (upd H p o) p cl) : G K B ρ (κ.set k cl) (upd H p o) := by
  refine ⟨fun b x e => ?_, by rw [List.length_set]; exact g.len, g.inj, fun i q c h1 h2 => ?_, K.up _ _ _ _ _ _ (G.writeUp hp).n g.z⟩
  · have : b ≠ p := ne_of_none e hb
    rw [upd_ne this]; exact g.ex b x e
  · by_cases e : k = i
    · subst e
      rw [hp] at h1; cases h1
      have hl : k < κ.length := by
        have := (List.getElem?_eq_some_iff.mp h2).1
        rw [List.length_set] at this; exact this
      rw [List.getElem?_set_self hl] at h2
      cases h2; exact hc
    · rw [List.getElem?_set_ne e] at h2
      have hq : q ≠ p := fun z => by subst z; exact e (g.inj k i q hp h1)
      exact (g.at' i q c h1 h2).up Ug.refl Or.inl fun o' eo => by rw [upd_ne hq]; exact eo
theorem G.cell (g : G K B ρ κ H) {cl : Cell} (h : κ[k]? = some cl) : ∃ p, ρ[k]? = some p ∧ CellOk K B ρ H p cl := by
  have hl : k < ρ.length := by rw [g.len]; exact (List.getElem?_eq_some_iff.mp h).1
  exact ⟨_, List.getElem?_eq_getElem hl, g.at' k _ cl (List.getElem?_eq_getElem hl) h⟩

theorem Reps.of_all {K : PySem.W.Frag} : ∀ {ds : List PyData} {vs : List V}, Reps K B ρ (ds.map .d) vs → DpAll K B vs ds
  | [], _, h => by cases h; exact .nil
  | d :: ds, _, h => by
    cases h with
    | cons h1 h2 => exact .cons h1 (Reps.of_all h2)
theorem Reps.all {K : PySem.W.Frag} : ∀ {ds : List PyData} {vs : List V}, DpAll K B vs ds → Reps K B ρ (ds.map .d) vs
  | [], _, h => by cases h; exact .nil
  | d :: ds, _, h => by
    cases h with
    | cons h1 h2 => exact .cons h1 (Reps.all h2)
theorem dpa_len {K : PySem.W.Frag} : ∀ {ds : List PyData} {vs : List V}, DpAll K B vs ds → vs.length = ds.length
  | [], _, h => by cases h; rfl
  | d :: ds, _, h => by
    cases h with
    | cons h1 h2 => rw [List.length_cons, List.length_cons, dpa_len h2]
theorem dpa_get {K : PySem.W.Frag} : ∀ {ds : List PyData} {vs : List V} {i : Nat} {d : PyData}, DpAll K B vs ds → ds[i]? = some d → ∃ v, vs[i]? = some v ∧ Dp K B v d
  | [], _, _, _, _, e => by simp at e
  | d :: ds, _, i, d', h, e => by
    cases h with
    | cons h1 h2 =>
      cases i with
      | zero => simp at e; subst e; exact ⟨_, rfl, h1⟩
      | succ i =>
        obtain ⟨v, e1, r⟩ := dpa_get h2 (by simpa using e)
        exact ⟨v, by simpa using e1, r⟩
theorem Reps.get {K : PySem.W.Frag} : ∀ {as : List AV} {vs : List V} {i : Nat} {a : AV}, Reps K B ρ as vs → as[i]? = some a → ∃ v, vs[i]? = some v ∧ Rep K B ρ a v
  | _, _, _, _, .nil, e => by simp at e
  | _, _, 0, _, .cons r _, e => by simp at e; subst e; exact ⟨_, rfl, r⟩
  | _, _, i + 1, x, .cons _ t, e => by
    obtain ⟨u, h1, h2⟩ := Reps.get (i := i) (a := x) t (by simpa using e)
    exact ⟨u, by simpa using h1, h2⟩
theorem Reps.snoc {K : PySem.W.Frag} {as : List AV} {vs : List V} (h : Reps K B ρ as vs) (r : Rep K B ρ a v) : Reps K B ρ (as ++ [a]) (vs ++ [v]) := Paired.snoc h r
theorem Reps.len {K : PySem.W.Frag} {as : List AV} {vs : List V} (h : Reps K B ρ as vs) : as.length = vs.length := Paired.length h
theorem Reps.set {K : PySem.W.Frag} : ∀ {as : List AV} {vs : List V} (i : Nat), Reps K B ρ as vs → Rep K B ρ a v → Reps K B ρ (as.set i a) (vs.set i v)
  | _, _, _, .nil, _ => .nil
  | _, _, 0, .cons _ t, r => .cons r t
  | _, _, i + 1, .cons q t, r => .cons q (Reps.set i t r)

/-! ### readings over data -/
/-- what is wanted behind -/
abbrev Nx (K : Frg) (B : Hp) (ρ : List Addr) (H : Hp) (R : AR) (Q : VK) : Prop := ∀ B' ρ' κ' H' a v, Up B ρ H B' ρ' H' → G K B' ρ' κ' H' → Rep K B' ρ' a v → R a κ' → Q v H'
theorem Nx.at0 {R : AR} {Q : VK} (q : Nx K B ρ H R Q) (g : G K B ρ κ H) (r : Rep K B ρ a v) (h : R a κ) : Q v H := q _ _ _ _ _ _ Up.refl g r h
theorem Nx.later {R : AR} {Q : VK} (q : Nx K B ρ H R Q) (u : Up B ρ H B' ρ' H') : Nx K B' ρ' H' R Q := fun _ _ _ _ _ _ u2 g r h => q _ _ _ _ _ _ (u.trans u2) g r h
def SE (K : Frg) (t : TE) (e : AE) : Prop := ∀ B ρ δ κ σ H (R : AR) (Q : VK), S K B ρ δ σ → G K B ρ κ H → e δ κ R → Nx K B ρ H R Q → t σ H Q
def ST (K : Frg) (t : TT) (e : AT) : Prop := ∀ B ρ δ κ σ H (R : Bool → AK → Prop) (Q : Bool → Hp → Prop), S K B ρ δ σ → G K B ρ κ H → e δ κ R →
  (∀ B' ρ' κ' H' b, Up B ρ H B' ρ' H' → G K B' ρ' κ' H' → R b κ' → Q b H') → t σ H Q
def SA (K : Frg) (t : TA) (e : AA) : Prop := ∀ B ρ δ κ σ H (R : List AV → AK → Prop) (Q : List V → Hp → Prop), S K B ρ δ σ → G K B ρ κ H → e δ κ R →
  (∀ B' ρ' κ' H' as vs, Up B ρ H B' ρ' H' → G K B' ρ' κ' H' → Reps K B' ρ' as vs → R as κ' → Q vs H') → t σ H Q
structure PEa (K : Frg) (X : Cx) (e : Expr) (t : TE) (f : AE) : Prop where
  pe : PE X e t
  sd : SE K t f
structure PTa (K : Frg) (X : Cx) (e : Expr) (t : TT) (f : AT) : Prop where
  pt : PT X e t
  sd : ST K t f
structure PWa (K : Frg) (X : Cx) (e : Expr) (t : TT) (f : AT) : Prop where
  pw : PW X e t
  sd : ST K t f
theorem PWa.pt {K : Frg} {X : Cx} {e : Expr} {t : TT} {f : AT} (h : PWa K X e t f) : PTa K X e t f := ⟨h.pw.pt, h.sd⟩
structure PAa (K : Frg) (X : Cx) (es : List Expr) (t : TA) (f : AA) : Prop where
  pa : PA X es t
  sd : SA K t f

/-! ### names, constants -/
def aVar (i : Nat) : AE := fun δ κ R => match δ[i]? with
  | some (some a) => R a κ
  | _ => False
def aC (a : AV) : AE := fun _ κ R => R a κ
theorem se_var {i : Nat} : SE K (tVar i) (aVar i) := fun B ρ δ κ σ H R Q s g h q => by
  unfold aVar at h
  split at h
  · rename_i a e
    obtain ⟨v, e1, r⟩ := s.at' i a e
    exact ⟨v, e1, q.at0 g r h⟩
  · exact h.elim
theorem se_c {v : V} {a : AV} (hr : ∀ B ρ, Rep K B ρ a v) : SE K (tC v) (aC a) := fun B ρ δ κ σ H R Q s g h q => q.at0 g (hr B ρ) h
section
variable {X : Cx} {e e2 : Expr} {t u : TE} {f f2 : AE} {pos : Pos}
theorem av (i : Nat) {x : Str} {pos : Pos} (hN : X.N[i]? = some x := by rfl) (hv : Vis X.env.scope x := by first | exact Or.inl rfl | exact Or.inr (Or.inl rfl) | exact Or.inr (Or.inr rfl)) (hd : (x == ("__debug__" : Str)) = false := by decide)
    (hcd : (x == ("__classdict__" : Str)) = false := by decide) : PEa K X (.Name x pos) (tVar i) (aVar i) := ⟨pv i hN hv hd hcd, se_var⟩
theorem ea_int {i : Int} {q : Pos} {j} : PEa K X (.Constant (.int i) j q) (tC (.int i)) (aC (.d (.int i))) := ⟨pe_int, se_c fun _ _ => .int i⟩
theorem ea_str {x : Str} {q : Pos} {j} : PEa K X (.Constant (.str x) j q) (tC (.str x)) (aC (.d (.str x))) := ⟨pe_str, se_c fun _ _ => .str x⟩
theorem ea_bl {x : Bool} {q : Pos} {j} : PEa K X (.Constant (.bool x) j q) (tC (.bl x)) (aC (.d (.bool x))) := ⟨pe_bl, se_c fun _ _ => .bl x⟩
theorem ea_non {q : Pos} {j} : PEa K X (.Constant .none j q) (tC .non) (aC (.d .none)) := ⟨pe_non, se_c fun _ _ => .non⟩
/-- a module's constant -/
theorem ea_glob {x : Str} {v : V} {u : Value} {d : PyData} {pos : Pos} (hg : Gl X x) (hm : X.mg x = some u) (r : RelV v u) (hd : ∀ B, Dp K B v d) (hdb : (x == ("__debug__" : Str)) = false := by decide) : PEa K X (.Name x pos) (tC v) (aC (.d d)) := ⟨pe_glob hg hm r hdb, se_c fun B _ => hd B⟩
/-- a built-in class as a value -/
theorem ea_ty {x : Str} {T : String} {pos : Pos} (hg : Gl X x) (hm : X.mg x = none) (hv : bootBuiltins x = some (.type T)) (hn : x ≠ "__name__" := by decide) (hdb : (x == ("__debug__" : Str)) = false := by decide) : PEa K X (.Name x pos) (tC (.ty T)) (aC (.r (.ty T))) := ⟨pe_bltn hg hm hv rfl hn hdb, se_c fun _ _ => rfl⟩
end
end Ab

namespace Ab
open PySem L2
variable {K : Frg} {B H : Hp} {ρ : List Addr} {κ : AK}
theorem G.plain (g : G K B ρ κ H) : G (Frg.of K.K) B ρ κ H := ⟨g.ex, g.len, g.inj, g.at', True.intro⟩
theorem G.zone (g : G (Frg.of K.K) B ρ κ H) (z : K.Z B ρ H) : G K B ρ κ H := ⟨g.ex, g.len, g.inj, g.at', z⟩
end Ab
set_option Elab.async false
set_option linter.all false
set_option maxRecDepth 100000
set_option maxHeartbeats 4000000
/-! Ab2: operators, comparisons, subscripts, built-in calls, methods -/
namespace Ab
open PySem L2
variable {K : Frg} {B B' B2 H H' H2 : Hp} {ρ ρ' ρ2 : List Addr} {κ κ' : AK} {δ : AD} {σ : L2.St} {p : Addr} {k : Nat} {v x y z : V} {a b c : AV}

abbrev AO := AV → AV → AK → AR → Prop
def SR (K : Frg) (r : R2) (f : AO) : Prop := ∀ B ρ κ H x y a b (R : AR) (Q : VK), G K B ρ κ H → Rep K B ρ a x → Rep K B ρ b y → f a b κ R → Nx K B ρ H R Q → r x y H Q
def SU (K : Frg) (r : V → Hp → VK → Prop) (f : AV → AK → AR → Prop) : Prop := ∀ B ρ κ H x a (R : AR) (Q : VK), G K B ρ κ H → Rep K B ρ a x → f a κ R → Nx K B ρ H R Q → r x H Q
def SL (K : Frg) (r : List V → Hp → VK → Prop) (f : List AV → AK → AR → Prop) : Prop := ∀ B ρ κ H xs as (R : AR) (Q : VK), G K B ρ κ H → Reps K B ρ as xs → f as κ R → Nx K B ρ H R Q → r xs H Q
def SM (K : Frg) (T : String) (r : V → List V → Hp → VK → Prop) (f : AV → List AV → AK → AR → Prop) : Prop := ∀ B ρ κ H x xs a as (R : AR) (Q : VK), G K B ρ κ H → Rep K B ρ a x → Reps K B ρ as xs → f a as κ R → Nx K B ρ H R Q → tyV K T x H ∧ r x xs H Q

def aOp (f : AO) (ea eb : AE) : AE := fun δ κ R => ea δ κ fun a κ1 => eb δ κ1 fun b κ2 => f a b κ2 R
def aUn (f : AV → AK → AR → Prop) (ea : AE) : AE := fun δ κ R => ea δ κ fun a κ1 => f a κ1 R
theorem se_op {r : R2} {f : AO} {ta tb : TE} {ea eb : AE} (hr : SR K r f) (ha : SE K ta ea) (hb : SE K tb eb) : SE K (tOp r ta tb) (aOp f ea eb) := fun B ρ δ κ σ H R Q s g h q =>
  ha B ρ δ κ σ H _ _ s g h fun B1 ρ1 κ1 H1 a x u1 g1 r1 h1 => hb B1 ρ1 δ κ1 σ H1 _ _ (s.up u1.g) g1 h1 fun B2 ρ2 κ2 H2 b y u2 g2 r2 h2 =>
    hr B2 ρ2 κ2 H2 x y a b R Q g2 (r1.up u2.g) r2 h2 fun B3 ρ3 κ3 H3 c z u3 g3 r3 h3 => q _ _ _ _ _ _ ((u1.trans u2).trans u3) g3 r3 h3
theorem se_un {r : V → Hp → VK → Prop} {f : AV → AK → AR → Prop} {ta : TE} {ea : AE} (hr : SU K r f) (ha : SE K ta ea) : SE K (tUn r ta) (aUn f ea) := fun B ρ δ κ σ H R Q s g h q =>
  ha B ρ δ κ σ H _ _ s g h fun B1 ρ1 κ1 H1 a x u1 g1 r1 h1 => hr B1 ρ1 κ1 H1 x a R Q g1 r1 h1 fun B3 ρ3 κ3 H3 c z u3 g3 r3 h3 => q _ _ _ _ _ _ (u1.trans u3) g3 r3 h3

theorem opr_or {X : Cx} {f : Value → Value → Sem Value} {r r' : R2} (h : OpR X f r) (h' : OpR X f r') : OpR X f (fun x y H Q => r x y H Q ∨ r' x y H Q) := fun pins s σ H x y v u Q I rx ry q => q.elim (h pins s σ H x y v u Q I rx ry) (h' pins s σ H x y v u Q I rx ry)
theorem callr_or {X : Cx} {f : Value} {r r' : List V → Hp → VK → Prop} (h : CallR X f r) (h' : CallR X f r') : CallR X f (fun xs H Q => r xs H Q ∨ r' xs H Q) := fun pins s σ H xs us Q I rx q => q.elim (h pins s σ H xs us Q I rx) (h' pins s σ H xs us Q I rx)

structure OpA (K : Frg) (X : Cx) (f : Value → Value → Sem Value) (r : R2) (g : AO) : Prop where
  op : OpR X f r
  sd : SR K r g
section
variable {X : Cx} {e e2 : Expr} {t u : TE} {f f2 : AE} {pos : Pos}
theorem ea_op {op : Operator} {r : R2} {g : AO} (ho : OpA K X (binaryOp op) r g) (h1 : PEa K X e t f) (h2 : PEa K X e2 u f2) : PEa K X (.BinOp e op e2 pos) (tOp r t u) (aOp g f f2) := ⟨pe_op ho.op h1.pe h2.pe, se_op ho.sd h1.sd h2.sd⟩
theorem ea_cmp {op : CmpOp} {r : R2} {g : AO} (ho : OpA K X (compareOp op) r g) (h1 : PEa K X e t f) (h2 : PEa K X e2 u f2) (hm : behindInMarks op e2 = false := by first | exact nomark _ | rfl) : PEa K X (.Compare e [op] [e2] pos) (tOp r t u) (aOp g f f2) := ⟨pe_cmpR ho.op h1.pe h2.pe hm, se_op ho.sd h1.sd h2.sd⟩
theorem ea_un {op : UnaryOp} {r : V → Hp → VK → Prop} {g : AV → AK → AR → Prop} (ho : UnR X (unaryOp op) r) (hs : SU K r g) (h1 : PEa K X e t f) : PEa K X (.UnaryOp op e pos) (tUn r t) (aUn g f) := ⟨pe_un ho h1.pe, se_un hs h1.sd⟩

/-! ### numbers, texts -/
def aAdd : AO := fun a b κ R => match a, b with
  | .d (.int i), .d (.int j) => R (.d (.int (i + j))) κ
  | .d (.str s), .d (.str t) => s.length + t.length ≤ sizeLine ∧ R (.d (.str (s ++ t))) κ
  | .d (.tuple xs), .d (.tuple ys) => xs.length + ys.length ≤ sizeLine ∧ R (.d (.tuple (xs ++ ys))) κ
  | _, _ => False
theorem rp_int {K : PySem.W.Frag} (i : Int) : Rep K B ρ (.d (.int i)) (.int i) := Dp.int i
theorem rp_str {K : PySem.W.Frag} (i : Str) : Rep K B ρ (.d (.str i)) (.str i) := Dp.str i
theorem rp_bl {K : PySem.W.Frag} (i : Bool) : Rep K B ρ (.d (.bool i)) (.bl i) := Dp.bl i
theorem rp_non {K : PySem.W.Frag} : Rep K B ρ (.d .none) .non := Dp.non
theorem Rep.int {K : PySem.W.Frag} {i : Int} (h : Rep K B ρ (.d (.int i)) v) : v = .int i := by cases h; rfl
theorem Rep.str {K : PySem.W.Frag} {i : Str} (h : Rep K B ρ (.d (.str i)) v) : v = .str i := by cases h; rfl
theorem Rep.bool {K : PySem.W.Frag} {i : Bool} (h : Rep K B ρ (.d (.bool i)) v) : v = .bl i := by cases h; rfl
theorem Rep.non {K : PySem.W.Frag} (h : Rep K B ρ (.d .none) v) : v = .non := by cases h; rfl
theorem Rep.list {K : PySem.W.Frag} {ds : List PyData} (h : Rep K B ρ (.d (.list ds)) v) : ∃ p xs, v = .ref p ∧ SqL K B p xs ∧ DpAll K B xs ds := by
  cases h with
  | lst hs ha => exact ⟨_, _, rfl, hs, ha⟩
theorem Rep.tuple {K : PySem.W.Frag} {ds : List PyData} (h : Rep K B ρ (.d (.tuple ds)) v) : ∃ p xs, v = .ref p ∧ SqT K B p xs ∧ DpAll K B xs ds := by
  cases h with
  | tup hs ha => exact ⟨_, _, rfl, hs, ha⟩
theorem sqt_up {K : PySem.W.Frag} (s : Same B B') {xs : List V} (h : SqT K B p xs) : SqT K B' p xs := by
  rcases h with (h | ⟨o, h⟩) | h
  · exact .inl (.inl (s _ _ h))
  · exact .inl (.inr ⟨o, s _ _ h⟩)
  · exact .inr h
theorem dpa_app {K : PySem.W.Frag} : ∀ {ds es : List PyData} {vs us : List V}, DpAll K B vs ds → DpAll K B us es → DpAll K B (vs ++ us) (ds ++ es)
  | [], _, _, _, h, h2 => by cases h; exact h2
  | d :: ds, _, _, _, h, h2 => by
    cases h with
    | cons a b => exact .cons a (dpa_app b h2)
theorem of_listG (g : G K B ρ κ H) {ds : List PyData} (h : Rep K B ρ (.d (.list ds)) v) : ∃ p xs, v = .ref p ∧ SqL K H p xs ∧ DpAll K B xs ds := by
  obtain ⟨p, xs, e, h1, h2⟩ := h.list; exact ⟨p, xs, e, g.ex.seq h1, h2⟩
theorem of_tupG (g : G K B ρ κ H) {ds : List PyData} (h : Rep K B ρ (.d (.tuple ds)) v) : ∃ p xs, v = .ref p ∧ SqT K H p xs ∧ DpAll K B xs ds := by
  obtain ⟨p, xs, e, h1, h2⟩ := h.tuple; exact ⟨p, xs, e, sqt_up g.ex h1, h2⟩
theorem new_tup (g : G K B ρ κ H) (n : H p = none) {ds : List PyData} {vs : List V} (h : DpAll K B vs ds) : Up B ρ H (upd B p (.tup vs)) ρ (upd H p (.tup vs)) ∧ G K (upd B p (.tup vs)) ρ κ (upd H p (.tup vs)) ∧ Rep K (upd B p (.tup vs)) ρ (.d (.tuple ds)) (.ref p) := by
  obtain ⟨u, g'⟩ := g.data n (o := .tup vs)
  exact ⟨u, g', .tup (.inl (.inl upd_same)) (dpa_up u.s _ _ h)⟩
theorem new_lst (g : G K B ρ κ H) (n : H p = none) {ds : List PyData} {vs : List V} (h : DpAll K B vs ds) : Up B ρ H (upd B p (.lst vs)) ρ (upd H p (.lst vs)) ∧ G K (upd B p (.lst vs)) ρ κ (upd H p (.lst vs)) ∧ Rep K (upd B p (.lst vs)) ρ (.d (.list ds)) (.ref p) := by
  obtain ⟨u, g'⟩ := g.data n (o := .lst vs)
  exact ⟨u, g', .lst (.inl (.inl upd_same)) (dpa_up u.s _ _ h)⟩
/-- a new list of data as a cell -/
theorem new_ld (g : G K B ρ κ H) (n : H p = none) {as : List PyData} {vs : List V} (h : DpAll K B vs as) : Up B ρ H B (ρ ++ [p]) (upd H p (.lst vs)) ∧ G K B (ρ ++ [p]) (κ ++ [.ld as]) (upd H p (.lst vs)) ∧ Rep K B (ρ ++ [p]) (.c κ.length) (.ref p) :=
  ⟨g.allocUp n, g.alloc n (show CellOk K B ρ _ p (.ld as) from ⟨g.fresh n, vs, h, upd_same⟩), rep_new g⟩
/-- a new list as a cell -/
theorem new_cell (g : G K B ρ κ H) (n : H p = none) {as : List AV} {vs : List V} (h : Reps K B ρ as vs) : Up B ρ H B (ρ ++ [p]) (upd H p (.lst vs)) ∧ G K B (ρ ++ [p]) (κ ++ [.lst as]) (upd H p (.lst vs)) ∧ Rep K B (ρ ++ [p]) (.c κ.length) (.ref p) :=
  ⟨g.allocUp n, g.alloc n ⟨g.fresh n, vs, h, upd_same⟩, rep_new g⟩
theorem new_tcell (g : G K B ρ κ H) (n : H p = none) {as : List AV} {vs : List V} (h : Reps K B ρ as vs) : Up B ρ H B (ρ ++ [p]) (upd H p (.tup vs)) ∧ G K B (ρ ++ [p]) (κ ++ [.tup as]) (upd H p (.tup vs)) ∧ Rep K B (ρ ++ [p]) (.c κ.length) (.ref p) :=
  ⟨g.allocUp n, g.alloc n ⟨vs, h, upd_same⟩, rep_new g⟩
theorem ne_nil_of {K : PySem.W.Frag} {ds : List PyData} {vs : List V} (h : DpAll K B vs ds) (n : ds ≠ []) : vs ≠ [] := fun e => by
  subst e
  have := dpa_len h
  cases ds with
  | nil => exact n rfl
  | cons _ _ => simp at this


def rAddA (K : PySem.W.Frag) : R2 := fun x y H Q => rI0 (fun i j => .int (i + j)) x y H Q ∨ ((fun x y H Q => ∃ i j, x = .str i ∧ y = .str j ∧ i.length + j.length ≤ sizeLine ∧ Q (.str (i ++ j)) H) : R2) x y H Q ∨ rCatA K x y H Q
theorem oa_add (hK : X.K = K := by rfl) : OpA K X (binaryOp .Add) (rAddA K) aAdd := by
  obtain ⟨K, Kn, KZ, Ku⟩ := K
  change X.K = K at hK
  subst hK
  refine ⟨opr_or op_add (opr_or op_add_str op_catA), ?_⟩
  intro B ρ κ H x y a b R Q g rx ry h q
  unfold aAdd at h
  split at h
  · rename_i i j
    exact .inl ⟨i, j, rx.int, ry.int, q.at0 g (rp_int _) h⟩
  · rename_i s t
    exact .inr (.inl ⟨s, t, rx.str, ry.str, h.1, q.at0 g (rp_str _) h.2⟩)
  · rename_i xs ys
    obtain ⟨p, vs, rfl, s1, d1⟩ := of_tupG g rx
    obtain ⟨p', vs', rfl, s2, d2⟩ := of_tupG g ry
    have e1 := dpa_len d1
    have e2 := dpa_len d2
    obtain ⟨h1, h2⟩ : xs.length + ys.length ≤ sizeLine ∧ R (.d (.tuple (xs ++ ys))) κ := h
    refine .inr (.inr ⟨_, _, vs, vs', rfl, rfl, s1, s2, by omega, fun z => ?_, fun _ z => ?_, fun _ _ p hp => ?_⟩)
    · subst z
      cases xs with
      | nil => exact q.at0 g ry h2
      | cons _ _ => simp at e1
    · subst z
      cases ys with
      | nil => rw [List.append_nil] at h2; exact q.at0 g rx h2
      | cons _ _ => simp at e2
    · obtain ⟨u, g', r⟩ := new_tup g hp (dpa_app d1 d2)
      exact q _ _ _ _ _ _ u g' r h2
  · exact h.elim
/-- numbers in, a number out -/
def aI (C : Int → Int → Prop) (f : Int → Int → Int) : AO := fun a b κ R => match a, b with
  | .d (.int i), .d (.int j) => C i j ∧ R (.d (.int (f i j))) κ
  | _, _ => False
def aI0 (f : Int → Int → Int) : AO := fun a b κ R => match a, b with
  | .d (.int i), .d (.int j) => R (.d (.int (f i j))) κ
  | _, _ => False
theorem sr_I {C : Int → Int → Prop} {f : Int → Int → Int} : SR K (rI C fun i j => .int (f i j)) (aI C f) := by
  intro B ρ κ H x y a b R Q g rx ry h q
  unfold aI at h
  split at h
  · exact ⟨_, _, rx.int, ry.int, h.1, q.at0 g (rp_int _) h.2⟩
  · exact h.elim
theorem sr_I0 {f : Int → Int → Int} : SR K (rI0 fun i j => .int (f i j)) (aI0 f) := by
  intro B ρ κ H x y a b R Q g rx ry h q
  unfold aI0 at h
  split at h
  · exact ⟨_, _, rx.int, ry.int, q.at0 g (rp_int _) h⟩
  · exact h.elim
abbrev aSub : AO := aI0 fun i j => i - j
abbrev aMul : AO := aI CMul fun i j => i * j
abbrev aMod : AO := aI (fun _ j => 0 < j) fun i j => i % j
abbrev aDiv : AO := aI CDiv fun i j => i / j
abbrev aPow : AO := aI CPow fun i j => i ^ j.toNat
theorem oa_sub : OpA K X (binaryOp .Sub) (rI0 fun i j => .int (i - j)) aSub := ⟨op_sub, sr_I0⟩
theorem oa_mul : OpA K X (binaryOp .Mult) (rI CMul fun i j => .int (i * j)) aMul := ⟨op_mul, sr_I⟩
theorem oa_mod : OpA K X (binaryOp .Mod) (rI (fun _ j => 0 < j) fun i j => .int (i % j)) aMod := ⟨op_mod, sr_I⟩
theorem oa_div : OpA K X (binaryOp .FloorDiv) (rI CDiv fun i j => .int (i / j)) aDiv := ⟨op_fdiv, sr_I⟩
theorem oa_pow : OpA K X (binaryOp .Pow) (rI CPow fun i j => .int (i ^ j.toNat)) aPow := ⟨op_pow, sr_I⟩
def aCmpI (f : Int → Int → Bool) : AO := fun a b κ R => match a, b with
  | .d (.int i), .d (.int j) => R (.d (.bool (f i j))) κ
  | _, _ => False
theorem sr_cmpI {f : Int → Int → Bool} : SR K (rI0 fun i j => .bl (f i j)) (aCmpI f) := by
  intro B ρ κ H x y a b R Q g rx ry h q
  unfold aCmpI at h
  split at h
  · exact ⟨_, _, rx.int, ry.int, q.at0 g (rp_bl _) h⟩
  · exact h.elim
abbrev aLt : AO := aCmpI fun i j => decide (i < j)
abbrev aLe : AO := aCmpI fun i j => decide (i ≤ j)
abbrev aGt : AO := aCmpI fun i j => decide (j < i)
abbrev aGe : AO := aCmpI fun i j => decide (j ≤ i)
theorem oa_lt : OpA K X (compareOp .Lt) (rI0 fun i j => .bl (decide (i < j))) aLt := ⟨op_lt, sr_cmpI⟩
theorem oa_le : OpA K X (compareOp .LtE) (rI0 fun i j => .bl (decide (i ≤ j))) aLe := ⟨op_le, sr_cmpI⟩
theorem oa_gt : OpA K X (compareOp .Gt) (rI0 fun i j => .bl (decide (j < i))) aGt := ⟨op_gt, sr_cmpI⟩
theorem oa_ge : OpA K X (compareOp .GtE) (rI0 fun i j => .bl (decide (j ≤ i))) aGe := ⟨op_ge, sr_cmpI⟩

/-! ### == -/
def aEqB (n : Bool → Bool) : AO := fun a b κ R => match a, b with
  | .d (.int i), .d (.int j) => R (.d (.bool (n (decide (i = j))))) κ
  | .d (.str i), .d (.str j) => R (.d (.bool (n (decide (i = j))))) κ
  | .d (.bool i), .d (.bool j) => R (.d (.bool (n (decide (i = j))))) κ
  | .d x, .d y => SeqAt.shaped x = true ∧ SeqAt.shaped y = true ∧ R (.d (.bool (n (PyData.eqv x y)))) κ
  | _, _ => False
abbrev aEq : AO := aEqB id
abbrev aNe : AO := aEqB not
theorem dec_inj {α β : Type} [DecidableEq α] [DecidableEq β] (f : α → β) (hf : ∀ a b, f a = f b → a = b) (a b : α) : decide (f a = f b) = decide (a = b) := by
  by_cases h : a = b
  · subst h; simp
  · rw [decide_eq_false h, decide_eq_false (fun z => h (hf _ _ z))]
theorem dp_G (g : G K B ρ κ H) {d : PyData} (h : Rep K B ρ (.d d) v) : Dp K H v d := dp_up g.ex d v h
def rEqA (K : PySem.W.Frag) : R2 := fun x y H Q => rEq x y H Q ∨ rEqD K x y H Q
def rNeA (K : PySem.W.Frag) : R2 := fun x y H Q => rNe x y H Q ∨ rNeD K x y H Q
theorem oa_eq {l : Nat} (hr : Room l X.A) (hK : X.K = K := by rfl) : OpA K X (compareOp .Eq) (rEqA K) aEq := by
  obtain ⟨K, Kn, KZ, Ku⟩ := K
  change X.K = K at hK
  subst hK
  refine ⟨opr_or op_eq (op_eqD hr.units), ?_⟩
  intro B ρ κ H x y a b R Q g rx ry h q
  have h : aEqB _ a b κ R := h
  unfold aEqB at h
  split at h
  · cases rx.int; cases ry.int
    refine .inl ⟨rfl, ?_⟩
    rw [dec_inj V.int fun _ _ e => V.int.inj e]
    exact q.at0 g (rp_bl _) h
  · cases rx.str; cases ry.str
    refine .inl ⟨rfl, ?_⟩
    rw [dec_inj V.str fun _ _ e => V.str.inj e]
    exact q.at0 g (rp_bl _) h
  · cases rx.bool; cases ry.bool
    refine .inl ⟨rfl, ?_⟩
    rw [dec_inj V.bl fun _ _ e => V.bl.inj e]
    exact q.at0 g (rp_bl _) h
  · exact .inr ⟨_, _, dp_G g rx, dp_G g ry, h.1, h.2.1, q.at0 g (rp_bl _) h.2.2⟩
  · exact h.elim
theorem oa_ne {l : Nat} (hr : Room l X.A) (hK : X.K = K := by rfl) : OpA K X (compareOp .NotEq) (rNeA K) aNe := by
  obtain ⟨K, Kn, KZ, Ku⟩ := K
  change X.K = K at hK
  subst hK
  refine ⟨opr_or op_ne (op_neD hr.units), ?_⟩
  intro B ρ κ H x y a b R Q g rx ry h q
  have h : aEqB _ a b κ R := h
  unfold aEqB at h
  split at h
  · cases rx.int; cases ry.int
    refine .inl ⟨rfl, ?_⟩
    rw [dec_inj V.int fun _ _ e => V.int.inj e]
    exact q.at0 g (rp_bl _) h
  · cases rx.str; cases ry.str
    refine .inl ⟨rfl, ?_⟩
    rw [dec_inj V.str fun _ _ e => V.str.inj e]
    exact q.at0 g (rp_bl _) h
  · cases rx.bool; cases ry.bool
    refine .inl ⟨rfl, ?_⟩
    rw [dec_inj V.bl fun _ _ e => V.bl.inj e]
    exact q.at0 g (rp_bl _) h
  · exact .inr ⟨_, _, dp_G g rx, dp_G g ry, h.1, h.2.1, q.at0 g (rp_bl _) h.2.2⟩
  · exact h.elim
/-- is None, is not None -/
def aIsN (n : Bool → Bool) : AO := fun a b κ R => match a, b with
  | .d .none, .d .none => R (.d (.bool (n true))) κ
  | .d _, .d .none => R (.d (.bool (n false))) κ
  | .c _, .d .none => R (.d (.bool (n false))) κ
  | _, _ => False
theorem sr_isN {n : Bool → Bool} : SR K (fun x y H Q => y = .non ∧ Q (.bl (n (decide (x = .non)))) H) (aIsN n) := by
  intro B ρ κ H x y a b R Q g rx ry h q
  unfold aIsN at h
  split at h
  · cases rx.non
    exact ⟨ry.non, q.at0 g (rp_bl _) h⟩
  · rename_i d hd
    refine ⟨ry.non, ?_⟩
    have e : x ≠ .non := by
      intro e; subst e
      have rx' : Dp K B .non d := rx
      cases rx' with
      | non => exact hd rfl
    rw [decide_eq_false e]
    exact q.at0 g (rp_bl _) h
  · obtain ⟨p, _, rfl⟩ := rx
    exact ⟨ry.non, q.at0 g (rp_bl _) h⟩
  · exact h.elim
theorem oa_is : OpA K X (compareOp .Is) (fun x y H Q => y = .non ∧ Q (.bl (decide (x = .non))) H) (aIsN id) := ⟨op_isN, sr_isN (n := id)⟩
theorem oa_isnot : OpA K X (compareOp .IsNot) (fun x y H Q => y = .non ∧ Q (.bl (!decide (x = .non))) H) (aIsN not) := ⟨op_notN, sr_isN (n := not)⟩

/-! ### in -/
def flatD : PyData → Bool
  | .none => true | .bool _ => true | .int _ => true | .str _ => true | _ => false
def eqF : PyData → PyData → Bool
  | .none, .none => true
  | .bool a, .bool b => a == b
  | .bool a, .int b => (if a then 1 else 0) == b
  | .int a, .bool b => a == (if b then 1 else 0)
  | .int a, .int b => a == b
  | .str a, .str b => a == b
  | _, _ => false
def inD (x : PyData) (xs : List PyData) : Bool := xs.any fun y => eqF y x
theorem dp_flat {d : PyData} (h : Dp K B v d) (f : flatD d = true) : flatV v = true ∧ ∀ {w : V} {e : PyData}, Dp K B w e → flatD e = true → eqV v w = eqF d e := by
  cases h <;> first
    | exact ⟨rfl, fun hw hf => by cases hw <;> first | rfl | exact absurd (show false = true from hf) Bool.false_ne_true⟩
    | exact absurd (show false = true from f) Bool.false_ne_true
theorem dpa_flat : ∀ {ds : List PyData} {vs : List V}, DpAll K B vs ds → ds.all flatD = true → vs.all flatV = true
  | [], _, h, _ => by cases h; rfl
  | d :: ds, _, h, f => by
    cases h with
    | cons h1 h2 =>
      rw [List.all_cons, Bool.and_eq_true] at f ⊢
      exact ⟨(dp_flat h1 f.1).1, dpa_flat h2 f.2⟩
theorem inV_D {d : PyData} (h : Dp K B v d) (f : flatD d = true) : ∀ {ds : List PyData} {vs : List V}, DpAll K B vs ds → ds.all flatD = true → inV v vs = inD d ds
  | [], _, h2, _ => by cases h2; rfl
  | e :: ds, _, h2, f2 => by
    cases h2 with
    | cons h1 h3 =>
      rw [List.all_cons, Bool.and_eq_true] at f2
      show (eqV _ v || inV v _) = (eqF e d || inD d ds)
      rw [inV_D h f h3 f2.2, (dp_flat h1 f2.1).2 h f]
/-- one sign in a text; a flat thing in a list or tuple of flat things -/
def aIn (n : Bool → Bool) : AO := fun a b κ R => match a, b with
  | .d (.str s), .d (.str t) => ∃ c, s.cps.toList = [c] ∧ R (.d (.bool (n (decide (c ∈ t.cps.toList))))) κ
  | .d x, .d (.tuple ys) => flatD x = true ∧ ys.all flatD = true ∧ R (.d (.bool (n (inD x ys)))) κ
  | .d x, .d (.list ys) => flatD x = true ∧ ys.all flatD = true ∧ R (.d (.bool (n (inD x ys)))) κ
  | .d x, .c k => match κ[k]? with
    | some (.ld ys) => flatD x = true ∧ ys.all flatD = true ∧ R (.d (.bool (n (inD x ys)))) κ
    | _ => False
  | _, _ => False
def rInA (K : PySem.W.Frag) (b : Bool) : R2 := fun x y H Q => ((fun x y H Q => ∃ (c : Nat) (z : Str), x = .str ⟨#[c]⟩ ∧ y = .str z ∧ Q (.bl (if b then !decide (c ∈ z.cps.toList) else decide (c ∈ z.cps.toList))) H) : R2) x y H Q ∨ rIn K b x y H Q
theorem str_one {s : Str} {c : Nat} (h : s.cps.toList = [c]) : s = ⟨#[c]⟩ := by
  obtain ⟨a⟩ := s
  congr 1
  exact Array.toList_inj.mp h
theorem sr_in {nb : Bool} {n : Bool → Bool} (hn : ∀ b, (if nb then !b else b) = n b) : SR K (rInA K nb) (aIn n) := by
  intro B ρ κ H x y a b R Q g rx ry h q
  unfold aIn at h
  split at h
  · rename_i s t
    obtain ⟨c, e, h⟩ := h
    cases rx.str; cases ry.str
    refine .inl ⟨c, t, by rw [str_one e], rfl, ?_⟩
    rw [hn]
    exact q.at0 g (rp_bl _) h
  · rename_i d ys
    obtain ⟨p, vs, rfl, s1, d1⟩ := of_tupG g ry
    obtain ⟨f1, f2, h⟩ := h
    refine .inr ⟨p, vs, rfl, .inr s1, (dp_flat rx f1).1, dpa_flat d1 f2, ?_⟩
    rw [hn, inV_D rx f1 d1 f2]
    exact q.at0 g (rp_bl _) h
  · rename_i d ys
    obtain ⟨p, vs, rfl, s1, d1⟩ := of_listG g ry
    obtain ⟨f1, f2, h⟩ := h
    refine .inr ⟨p, vs, rfl, .inl s1, (dp_flat rx f1).1, dpa_flat d1 f2, ?_⟩
    rw [hn, inV_D rx f1 d1 f2]
    exact q.at0 g (rp_bl _) h
  · rename_i d k
    obtain ⟨p, hp, rfl⟩ := ry
    split at h
    · rename_i ys ek
      obtain ⟨f1, f2, h⟩ := h
      obtain ⟨p', hp', _, vs, d1, eH⟩ := g.cell ek
      rw [hp] at hp'; cases hp'
      refine .inr ⟨p, vs, rfl, .inl (.inl (.inl eH)), (dp_flat rx f1).1, dpa_flat d1 f2, ?_⟩
      rw [hn, inV_D rx f1 d1 f2]
      exact q.at0 g (rp_bl _) h
    · exact h.elim
  · exact h.elim
theorem oa_in (hK : X.K = K := by rfl) : OpA K X (compareOp .In) (rInA K false) (aIn id) := by
  obtain ⟨K, Kn, KZ, Ku⟩ := K
  change X.K = K at hK
  subst hK
  exact ⟨opr_or (by intro pins s σ H x y v u Q I rx ry h; exact op_in_sign pins s σ H x y v u Q I rx ry h) op_in_seq, sr_in fun b => by cases b <;> rfl⟩
theorem oa_notin (hK : X.K = K := by rfl) : OpA K X (compareOp .NotIn) (rInA K true) (aIn not) := by
  obtain ⟨K, Kn, KZ, Ku⟩ := K
  change X.K = K at hK
  subst hK
  exact ⟨opr_or (by intro pins s σ H x y v u Q I rx ry h; exact op_notIn_sign pins s σ H x y v u Q I rx ry h) op_notIn_seq, sr_in fun b => by cases b <;> rfl⟩
end
end Ab
set_option Elab.async false
set_option linter.all false
set_option maxRecDepth 100000
set_option maxHeartbeats 4000000
/-! Ab3: subscripts, slices, built-in calls, methods, displays, and, or, not, tests -/
namespace Ab
open PySem L2
variable {K : Frg} {B B' B2 H H' H2 : Hp} {ρ ρ' ρ2 : List Addr} {κ κ' : AK} {δ : AD} {σ : L2.St} {p : Addr} {k : Nat} {v x y z : V} {a b c : AV}
variable {X : Cx} {e e2 : Expr} {t u : TE} {f f2 : AE} {pos : Pos}

/-! ### a[i] -/
def aIx : AO := fun a b κ R => match a, b with
  | .d (.list xs), .d (.int i) => ∃ w, atI xs i = some w ∧ R (.d w) κ
  | .d (.tuple xs), .d (.int i) => ∃ w, atI xs i = some w ∧ R (.d w) κ
  | .d (.str s), .d (.int i) => ∃ c, s.length ≤ sizeLine ∧ atI s.cps.toList i = some c ∧ R (.d (.str ⟨#[c]⟩)) κ
  | .c k, .d (.int i) => match κ[k]? with
    | some (.ld xs) => ∃ w, atI xs i = some w ∧ R (.d w) κ
    | some (.lst xs) => ∃ w, atI xs i = some w ∧ R w κ
    | some (.tup xs) => ∃ w, atI xs i = some w ∧ R w κ
    | _ => False
  | _, _ => False
theorem atI_iff {α : Type} {xs : List α} {i : Int} {w : α} (h : atI xs i = some w) : ∃ j, ixN xs.length i = some j ∧ xs[j]? = some w := by
  unfold atI at h
  cases e : ixN xs.length i with
  | none => rw [e] at h; cases h
  | some j => rw [e] at h; exact ⟨j, rfl, h⟩
theorem atI_mk {α : Type} {xs : List α} {i : Int} {j : Nat} {w : α} (h : ixN xs.length i = some j) (h2 : xs[j]? = some w) : atI xs i = some w := by
  unfold atI; rw [h]; exact h2
theorem dpa_at {ds : List PyData} {vs : List V} {i : Int} {w : PyData} (h : DpAll K B vs ds) (e : atI ds i = some w) : ∃ v, atI vs i = some v ∧ Dp K B v w := by
  obtain ⟨j, h1, h2⟩ := atI_iff e
  obtain ⟨v, h3, h4⟩ := dpa_get h h2
  exact ⟨v, atI_mk (by rw [dpa_len h]; exact h1) h3, h4⟩
theorem reps_at {as : List AV} {vs : List V} {i : Int} {w : AV} (h : Reps K B ρ as vs) (e : atI as i = some w) : ∃ v, atI vs i = some v ∧ Rep K B ρ w v := by
  obtain ⟨j, h1, h2⟩ := atI_iff e
  obtain ⟨v, h3, h4⟩ := h.get h2
  exact ⟨v, atI_mk (by rw [← h.len]; exact h1) h3, h4⟩
theorem sr_ix : SR K (rIx K) aIx := by
  intro B ρ κ H x y a b R Q g rx ry h q
  unfold aIx at h
  split at h
  · obtain ⟨w, e, h⟩ := h
    obtain ⟨p, vs, rfl, s1, d1⟩ := of_listG g rx
    obtain ⟨v, e1, r1⟩ := dpa_at d1 e
    cases ry.int
    exact .inl ⟨p, vs, _, v, rfl, rfl, s1, e1, q.at0 (a := .d w) g r1 h⟩
  · obtain ⟨w, e, h⟩ := h
    obtain ⟨p, vs, rfl, s1, d1⟩ := of_tupG g rx
    obtain ⟨v, e1, r1⟩ := dpa_at d1 e
    cases ry.int
    exact .inr (.inl ⟨p, vs, _, v, rfl, rfl, s1, e1, q.at0 (a := .d w) g r1 h⟩)
  · obtain ⟨c, l, e, h⟩ := h
    cases rx.str; cases ry.int
    exact .inr (.inr ⟨_, _, c, rfl, rfl, l, e, q.at0 g (rp_str _) h⟩)
  · rename_i k i
    cases ry.int
    obtain ⟨p, hp, rfl⟩ := rx
    split at h
    · rename_i xs ek
      obtain ⟨w, e, h⟩ := h
      obtain ⟨p', hp', _, vs, r, eH⟩ := g.cell ek
      rw [hp] at hp'; cases hp'
      obtain ⟨v, e1, r1⟩ := dpa_at r e
      exact .inl ⟨p, vs, _, v, rfl, rfl, .inl (.inl eH), e1, q.at0 (a := .d w) g r1 h⟩
    · rename_i xs ek
      obtain ⟨w, e, h⟩ := h
      obtain ⟨p', hp', _, vs, r, eH⟩ := g.cell ek
      rw [hp] at hp'; cases hp'
      obtain ⟨v, e1, r1⟩ := reps_at r e
      exact .inl ⟨p, vs, _, v, rfl, rfl, .inl (.inl eH), e1, q.at0 g r1 h⟩
    · rename_i xs ek
      obtain ⟨w, e, h⟩ := h
      obtain ⟨p', hp', vs, r, eH⟩ := g.cell ek
      rw [hp] at hp'; cases hp'
      obtain ⟨v, e1, r1⟩ := reps_at r e
      exact .inr (.inl ⟨p, vs, _, v, rfl, rfl, .inl (.inl eH), e1, q.at0 g r1 h⟩)
    · exact h.elim
  · exact h.elim
theorem ea_ix (h1 : PEa K X e t f) (h2 : PEa K X e2 u f2) (hs : PlainIx e2 := by exact fun _ _ => rfl) (hK : X.K = K := by rfl) : PEa K X (.Subscript e e2 pos) (tOp (rIx K) t u) (aOp aIx f f2) := by
  obtain ⟨K, Kn, KZ, Ku⟩ := K
  change X.K = K at hK
  subst hK
  exact ⟨pe_ix ix_seq h1.pe h2.pe hs, se_op sr_ix h1.sd h2.sd⟩

/-! ### slices -/
abbrev AOp := AD → AK → (Option Int → AK → Prop) → Prop
def aNoPart : AOp := fun _ κ R => R none κ
def aPart (f : AE) : AOp := fun δ κ R => f δ κ fun a κ1 => match a with
  | .d (.int i) => R (some i) κ1
  | _ => False
def SO (K : Frg) (t : TO) (e : AOp) : Prop := ∀ B ρ δ κ σ H (R : Option Int → AK → Prop) (Q : Option Int → Hp → Prop), S K B ρ δ σ → G K B ρ κ H → e δ κ R →
  (∀ B' ρ' κ' H' o, Up B ρ H B' ρ' H' → G K B' ρ' κ' H' → R o κ' → Q o H') → t σ H Q
structure POa (K : Frg) (X : Cx) (e : Option Expr) (t : TO) (f : AOp) : Prop where
  po : PO X e t
  sd : SO K t f
theorem oa_none : POa K X none tNoPart aNoPart := ⟨po_none, fun B ρ δ κ σ H R Q s g h q => q _ _ _ _ _ Up.refl g h⟩
theorem oa_some (h : PEa K X e t f) : POa K X (some e) (tPart t) (aPart f) := ⟨po_some h.pe, fun B ρ δ κ σ H R Q s g hh q =>
  h.sd B ρ δ κ σ H _ _ s g hh fun B1 ρ1 κ1 H1 a x u1 g1 r1 h1 => by
    split at h1
    · exact ⟨_, r1.int, q _ _ _ _ _ u1 g1 h1⟩
    · exact h1.elim⟩
def cutD {α : Type} (xs : List α) (lo hi : Option Int) : List α := (xs.drop (HT.sIx xs.length 0 lo)).take (HT.sIx xs.length xs.length hi - HT.sIx xs.length 0 lo)
def aSl (f : AE) (l h : AOp) : AE := fun δ κ R => f δ κ fun a κ1 => l δ κ1 fun lo κ2 => h δ κ2 fun hi κ3 => match a with
  | .d (.str s) => s.length ≤ sizeLine ∧ R (.d (.str (cutS s lo hi))) κ3
  | .d (.list xs) => R (.d (.list (cutD xs lo hi))) κ3
  | .c k => match κ3[k]? with
    | some (.ld xs) => R (.c κ3.length) (κ3 ++ [.ld (cutD xs lo hi)])
    | some (.lst xs) => R (.c κ3.length) (κ3 ++ [.lst (cutD xs lo hi)])
    | _ => False
  | _ => False
def rSlG (K : PySem.W.Frag) : V → Option Int → Option Int → Hp → VK → Prop := fun x lo hi H Q => rSlS x lo hi H Q ∨ rSlL K x lo hi H Q
theorem sl_or {r r' : V → Option Int → Option Int → Hp → VK → Prop} (h : SlR X r) (h' : SlR X r') : SlR X (fun x lo hi H Q => r x lo hi H Q ∨ r' x lo hi H Q) := by
  intro pins s σ H x v vl vu lo hi sl Q I rx hs pl pu q
  rcases q with q | q
  · exact h pins s σ H x v vl vu lo hi sl Q I rx hs pl pu q
  · exact h' pins s σ H x v vl vu lo hi sl Q I rx hs pl pu q
theorem dpa_take : ∀ {ds : List PyData} {vs : List V} (n : Nat), DpAll K B vs ds → DpAll K B (vs.take n) (ds.take n)
  | [], _, n, h => by cases h; simp; exact .nil
  | d :: ds, _, n, h => by
    cases h with
    | cons h1 h2 =>
      cases n with
      | zero => exact .nil
      | succ n => exact .cons h1 (dpa_take n h2)
theorem dpa_drop : ∀ {ds : List PyData} {vs : List V} (n : Nat), DpAll K B vs ds → DpAll K B (vs.drop n) (ds.drop n)
  | [], _, n, h => by cases h; simp; exact .nil
  | d :: ds, _, n, h => by
    cases h with
    | cons h1 h2 =>
      cases n with
      | zero => exact .cons h1 h2
      | succ n => exact dpa_drop n h2
theorem Reps.take : ∀ {ds : List AV} {vs : List V} (n : Nat), Reps K B ρ ds vs → Reps K B ρ (ds.take n) (vs.take n)
  | _, _, 0, _ => .nil
  | _, _, _ + 1, .nil => .nil
  | _, _, n + 1, .cons r t => .cons r (Reps.take n t)
theorem Reps.drop : ∀ {ds : List AV} {vs : List V} (n : Nat), Reps K B ρ ds vs → Reps K B ρ (ds.drop n) (vs.drop n)
  | _, _, 0, r => r
  | _, _, _ + 1, .nil => .nil
  | _, _, n + 1, .cons _ t => Reps.drop n t
theorem dpa_cut {ds : List PyData} {vs : List V} (h : DpAll K B vs ds) (lo hi : Option Int) : DpAll K B (cutV vs lo hi) (cutD ds lo hi) := by
  unfold cutV cutD
  rw [dpa_len h]
  exact dpa_take _ (dpa_drop _ h)
theorem Reps.cut {ds : List AV} {vs : List V} (h : Reps K B ρ ds vs) (lo hi : Option Int) : Reps K B ρ (cutD ds lo hi) (cutV vs lo hi) := by
  unfold cutV cutD
  rw [← h.len]
  exact Reps.take _ (Reps.drop _ h)
theorem ea_slice {lo hi : Option Expr} {p2 : Pos} {tl th : TO} {fl fh : AOp} (h1 : PEa K X e t f) (hl : POa K X lo tl fl) (hh : POa K X hi th fh) (hK : X.K = K := by rfl) :
    PEa K X (.Subscript e (.Slice lo hi none p2) pos) (tSl (rSlG K) t tl th) (aSl f fl fh) := by
  obtain ⟨K, Kn, KZ, Ku⟩ := K
  change X.K = K at hK
  subst hK
  refine ⟨pe_slice (sl_or sl_str sl_list) h1.pe hl.po hh.po, fun B ρ δ κ σ H R Q s g h q => ?_⟩
  refine h1.sd B ρ δ κ σ H _ _ s g h fun B1 ρ1 κ1 H1 a x u1 g1 r1 h1 => ?_
  refine hl.sd B1 ρ1 δ κ1 σ H1 _ _ (s.up u1.g) g1 h1 fun B2 ρ2 κ2 H2 lo u2 g2 h2 => ?_
  refine hh.sd B2 ρ2 δ κ2 σ H2 _ _ (s.up (u1.trans u2).g) g2 h2 fun B3 ρ3 κ3 H3 hi u3 g3 h3 => ?_
  have r3 := r1.up (u2.trans u3).g
  have q3 := q.later ((u1.trans u2).trans u3)
  split at h3
  · cases r3.str
    exact .inl ⟨_, rfl, h3.1, q3.at0 g3 (rp_str _) h3.2⟩
  · rename_i xs
    obtain ⟨p, vs, rfl, s1, d1⟩ := of_listG g3 r3
    refine .inr ⟨p, vs, rfl, s1, fun p' hp' => ?_⟩
    obtain ⟨u4, g4, r4⟩ := new_lst g3 hp' (dpa_cut d1 lo hi)
    exact q3 _ _ _ _ _ _ u4 g4 r4 h3
  · rename_i k
    obtain ⟨p, hp, rfl⟩ := r3
    split at h3
    · rename_i xs ek
      obtain ⟨p', hp', _, vs, r, eH⟩ := g3.cell ek
      rw [hp] at hp'; cases hp'
      refine .inr ⟨p, vs, rfl, .inl (.inl eH), fun p' hp' => ?_⟩
      obtain ⟨u4, g4, r4⟩ := new_ld g3 hp' (dpa_cut r lo hi)
      exact q3 _ _ _ _ _ _ u4 g4 r4 h3
    · rename_i xs ek
      obtain ⟨p', hp', _, vs, r, eH⟩ := g3.cell ek
      rw [hp] at hp'; cases hp'
      refine .inr ⟨p, vs, rfl, .inl (.inl eH), fun p' hp' => ?_⟩
      obtain ⟨u4, g4, r4⟩ := new_cell g3 hp' (r.cut lo hi)
      exact q3 _ _ _ _ _ _ u4 g4 r4 h3
    · exact h3.elim
  · exact h3.elim

/-! ### argument lists, displays -/
def aNil : AA := fun _ κ R => R [] κ
def aCons (f : AE) (g : AA) : AA := fun δ κ R => f δ κ fun a κ1 => g δ κ1 fun as κ2 => R (a :: as) κ2
variable {es : List Expr} {ta : TA} {fa : AA}
theorem aa_nil : PAa K X [] tNil aNil := ⟨pa_nil, fun B ρ δ κ σ H R Q s g h q => q _ _ _ _ _ _ Up.refl g .nil h⟩
theorem aa_cons (h1 : PEa K X e t f) (h2 : PAa K X es ta fa) (hs : starEach (e :: es) X.env = (false, eval e X.env) :: starEach es X.env := by rfl) : PAa K X (e :: es) (tCons t ta) (aCons f fa) :=
  ⟨pa_cons h1.pe h2.pa hs, fun B ρ δ κ σ H R Q s g h q => h1.sd B ρ δ κ σ H _ _ s g h fun B1 ρ1 κ1 H1 a x u1 g1 r1 k1 => h2.sd B1 ρ1 δ κ1 σ H1 _ _ (s.up u1.g) g1 k1 fun B2 ρ2 κ2 H2 as xs u2 g2 r2 k2 =>
    q _ _ _ _ _ _ (u1.trans u2) g2 (.cons (r1.up u2.g) r2) k2⟩
def allD : List AV → Option (List PyData)
  | [] => some []
  | .d x :: r => match allD r with
    | some xs => some (x :: xs)
    | none => none
  | _ :: _ => none
theorem allD_eq : ∀ {as : List AV} {ds : List PyData}, allD as = some ds → as = ds.map .d
  | [], _, h => by cases h; rfl
  | .d x :: r, ds, h => by
    unfold allD at h
    split at h
    · rename_i xs e
      cases h
      rw [allD_eq e]; rfl
    · cases h
  | .c _ :: _, _, h => by cases h
  | .r _ :: _, _, h => by cases h
theorem allD_map : ∀ (ds : List PyData), allD (ds.map .d) = some ds
  | [] => rfl
  | d :: ds => by
    show (match allD (ds.map .d) with | some xs => some (d :: xs) | none => none) = _
    rw [allD_map ds]
def aTup (g : AA) : AE := fun δ κ R => g δ κ fun as κ1 => match allD as with
  | some ds => as.length ≤ sizeLine ∧ R (.d (.tuple ds)) κ1
  | none => as.length ≤ sizeLine ∧ R (.c κ1.length) (κ1 ++ [.tup as])
/-- a display that never changes, one that may change -/
def aLstD (g : AA) : AE := fun δ κ R => g δ κ fun as κ1 => match allD as with
  | some ds => as.length ≤ sizeLine ∧ R (.d (.list ds)) κ1
  | none => False
def aLst (g : AA) : AE := fun δ κ R => g δ κ fun as κ1 => match allD as with
  | some ds => as.length ≤ sizeLine ∧ R (.c κ1.length) (κ1 ++ [.ld ds])
  | none => as.length ≤ sizeLine ∧ R (.c κ1.length) (κ1 ++ [.lst as])
theorem ea_tup {x1} (h : PAa K X es ta fa) : PEa K X (.Tuple es x1 pos) (tTup ta) (aTup fa) := by
  refine ⟨pe_tup h.pa, fun B ρ δ κ σ H R Q s g hh q => h.sd B ρ δ κ σ H _ _ s g hh fun B1 ρ1 κ1 H1 as xs u1 g1 r1 h1 => ?_⟩
  split at h1
  · rename_i ds e
    obtain rfl := allD_eq e
    refine ⟨by rw [← r1.len]; exact h1.1, fun p hp => ?_⟩
    obtain ⟨u2, g2, r2⟩ := new_tup g1 hp (Reps.of_all r1)
    exact q _ _ _ _ _ _ (u1.trans u2) g2 r2 h1.2
  · refine ⟨by rw [← r1.len]; exact h1.1, fun p hp => ?_⟩
    obtain ⟨u2, g2, r2⟩ := new_tcell g1 hp r1
    exact q _ _ _ _ _ _ (u1.trans u2) g2 r2 h1.2
theorem ea_lstD (h : PAa K X es ta fa) : PEa K X (.List es pos) (tLst ta) (aLstD fa) := by
  refine ⟨pe_lst h.pa, fun B ρ δ κ σ H R Q s g hh q => h.sd B ρ δ κ σ H _ _ s g hh fun B1 ρ1 κ1 H1 as xs u1 g1 r1 h1 => ?_⟩
  split at h1
  · rename_i ds e
    obtain rfl := allD_eq e
    refine ⟨by rw [← r1.len]; exact h1.1, fun p hp => ?_⟩
    obtain ⟨u2, g2, r2⟩ := new_lst g1 hp (Reps.of_all r1)
    exact q _ _ _ _ _ _ (u1.trans u2) g2 r2 h1.2
  · exact h1.elim
theorem ea_lst (h : PAa K X es ta fa) : PEa K X (.List es pos) (tLst ta) (aLst fa) := by
  refine ⟨pe_lst h.pa, fun B ρ δ κ σ H R Q s g hh q => h.sd B ρ δ κ σ H _ _ s g hh fun B1 ρ1 κ1 H1 as xs u1 g1 r1 h1 => ?_⟩
  split at h1
  · rename_i ds e
    obtain rfl := allD_eq e
    refine ⟨by rw [← r1.len]; exact h1.1, fun p hp => ?_⟩
    obtain ⟨u2, g2, r2⟩ := new_ld g1 hp (Reps.of_all r1)
    exact q _ _ _ _ _ _ (u1.trans u2) g2 r2 h1.2
  · refine ⟨by rw [← r1.len]; exact h1.1, fun p hp => ?_⟩
    obtain ⟨u2, g2, r2⟩ := new_cell g1 hp r1
    exact q _ _ _ _ _ _ (u1.trans u2) g2 r2 h1.2

/-! ### built-in calls -/
def aCB (f : List AV → AK → AR → Prop) (g : AA) : AE := fun δ κ R => g δ κ fun as κ1 => f as κ1 R
theorem se_cb {r : List V → Hp → VK → Prop} {f : List AV → AK → AR → Prop} (hr : SL K r f) (h : SA K ta fa) : SE K (tCB r ta) (aCB f fa) := fun B ρ δ κ σ H R Q s g hh q =>
  h B ρ δ κ σ H _ _ s g hh fun B1 ρ1 κ1 H1 as xs u1 g1 r1 h1 => hr _ _ _ _ _ _ _ _ g1 r1 h1 (q.later u1)
structure CallA (K : Frg) (X : Cx) (f : Value) (r : List V → Hp → VK → Prop) (g : List AV → AK → AR → Prop) : Prop where
  c : CallR X f r
  sd : SL K r g
theorem ea_cb {id : String} {x : Str} {q pos : Pos} {r : List V → Hp → VK → Prop} {g : List AV → AK → AR → Prop} (hc : CallA K X (.builtin id) r g) (hg : Gl X x) (hm : X.mg x = none) (hv : bootBuiltins x = some (.builtin id)) (ha : PAa K X (e :: es) ta fa) (hn : x ≠ "__name__" := by decide) (hdb : (x == ("__debug__" : Str)) = false := by decide)
    (he : starEach (e :: es) X.env = (false, eval e X.env) :: starEach es X.env := by rfl) (hpl : (backTo pos (starEach es X.env)).any (·.1) = false := by rfl) : PEa K X (.Call (.Name x q) (e :: es) [] pos) (tCB r ta) (aCB g fa) :=
  ⟨pe_callB hc.c hg hm hv ha.pa hn hdb he hpl, se_cb hc.sd ha.sd⟩
theorem ea_ct {T : String} {x : Str} {q pos : Pos} {r : List V → Hp → VK → Prop} {g : List AV → AK → AR → Prop} (hc : CallA K X (.type T) r g) (hg : Gl X x) (hm : X.mg x = none) (hv : bootBuiltins x = some (.type T)) (ha : PAa K X (e :: es) ta fa) (hn : x ≠ "__name__" := by decide) (hdb : (x == ("__debug__" : Str)) = false := by decide)
    (he : starEach (e :: es) X.env = (false, eval e X.env) :: starEach es X.env := by rfl) (hpl : (backTo pos (starEach es X.env)).any (·.1) = false := by rfl) : PEa K X (.Call (.Name x q) (e :: es) [] pos) (tCB r ta) (aCB g fa) :=
  ⟨pe_callTy hc.c hg hm hv ha.pa hn hdb he hpl, se_cb hc.sd ha.sd⟩
/-- len -/
def aLen : List AV → AK → AR → Prop := fun as κ R => match as with
  | [.d (.str s)] => s.length ≤ sizeLine ∧ R (.d (.int s.length)) κ
  | [.d (.list xs)] => R (.d (.int xs.length)) κ
  | [.d (.tuple xs)] => R (.d (.int xs.length)) κ
  | [.c k] => match κ[k]? with
    | some (.ld xs) => R (.d (.int xs.length)) κ
    | some (.lst xs) => R (.d (.int xs.length)) κ
    | some (.tup xs) => R (.d (.int xs.length)) κ
    | _ => False
  | _ => False
def rLenA (K : PySem.W.Frag) : List V → Hp → VK → Prop := fun xs H Q => (∃ p ys, xs = [.ref p] ∧ (SqL K H p ys ∨ SqT K H p ys) ∧ Q (.int ys.length) H) ∨ (∃ z, xs = [.str z] ∧ z.length ≤ sizeLine ∧ Q (.int z.length) H)
theorem reps1 {as : AV} {xs : List V} (h : Reps K B ρ [as] xs) : ∃ x, xs = [x] ∧ Rep K B ρ as x := by
  cases h with
  | cons h1 h2 => cases h2; exact ⟨_, rfl, h1⟩
theorem reps2 {a1 a2 : AV} {xs : List V} (h : Reps K B ρ [a1, a2] xs) : ∃ x y, xs = [x, y] ∧ Rep K B ρ a1 x ∧ Rep K B ρ a2 y := by
  cases h with
  | cons h1 h2 =>
    obtain ⟨y, rfl, r⟩ := reps1 h2
    exact ⟨_, _, rfl, h1, r⟩
theorem ca_len (hK : X.K = K := by rfl) : CallA K X (.builtin "len") (rLenA K) aLen := by
  obtain ⟨K, Kn, KZ, Ku⟩ := K
  change X.K = K at hK
  subst hK
  refine ⟨callr_or call_len_seq call_len_str, fun B ρ κ H xs as R Q g rs h q => ?_⟩
  unfold aLen at h
  split at h
  · obtain ⟨x, rfl, r⟩ := reps1 rs
    cases r.str
    exact .inr ⟨_, rfl, h.1, q.at0 g (rp_int _) h.2⟩
  · obtain ⟨x, rfl, r⟩ := reps1 rs
    obtain ⟨p, vs, rfl, s1, d1⟩ := of_listG g r
    exact .inl ⟨p, vs, rfl, .inl s1, q.at0 g (rp_int _) (by rw [dpa_len d1]; exact h)⟩
  · obtain ⟨x, rfl, r⟩ := reps1 rs
    obtain ⟨p, vs, rfl, s1, d1⟩ := of_tupG g r
    exact .inl ⟨p, vs, rfl, .inr s1, q.at0 g (rp_int _) (by rw [dpa_len d1]; exact h)⟩
  · obtain ⟨x, rfl, r⟩ := reps1 rs
    obtain ⟨p, hp, rfl⟩ := r
    split at h
    · rename_i xs ek
      obtain ⟨p', hp', _, vs, r, eH⟩ := g.cell ek
      rw [hp] at hp'; cases hp'
      exact .inl ⟨p, vs, rfl, .inl (.inl (.inl eH)), q.at0 g (rp_int _) (by rw [dpa_len r]; exact h)⟩
    · rename_i xs ek
      obtain ⟨p', hp', _, vs, r, eH⟩ := g.cell ek
      rw [hp] at hp'; cases hp'
      exact .inl ⟨p, vs, rfl, .inl (.inl (.inl eH)), q.at0 g (rp_int _) (by rw [← r.len]; exact h)⟩
    · rename_i xs ek
      obtain ⟨p', hp', vs, r, eH⟩ := g.cell ek
      rw [hp] at hp'; cases hp'
      exact .inl ⟨p, vs, rfl, .inr (.inl (.inl eH)), q.at0 g (rp_int _) (by rw [← r.len]; exact h)⟩
    · exact h.elim
  · exact h.elim
/-- int(n) -/
def aIntOf : List AV → AK → AR → Prop := fun as κ R => match as with
  | [.d (.int i)] => R (.d (.int i)) κ
  | [.d (.bool b)] => R (.d (.int (if b then 1 else 0))) κ
  | _ => False
theorem ca_int : CallA K X (.type "int") (fun xs H Q => (∃ i, xs = [.int i] ∧ Q (.int i) H) ∨ ∃ k, xs = [.bl k] ∧ Q (.int (if k then 1 else 0)) H) aIntOf := by
  refine ⟨call_int1, fun B ρ κ H xs as R Q g rs h q => ?_⟩
  unfold aIntOf at h
  split at h
  · obtain ⟨x, rfl, r⟩ := reps1 rs
    exact .inl ⟨_, by rw [r.int], q.at0 g (rp_int _) h⟩
  · obtain ⟨x, rfl, r⟩ := reps1 rs
    exact .inr ⟨_, by rw [r.bool], q.at0 g (rp_int _) h⟩
  · exact h.elim
/-- str(n) -/
def aStrOf : List AV → AK → AR → Prop := fun as κ R => match as with
  | [.d (.int i)] => i.natAbs.log2 < 1920 ∧ R (.d (.str (toString i))) κ
  | _ => False
theorem ca_str : CallA K X (.type "str") (fun xs H Q => ∃ i, xs = [.int i] ∧ i.natAbs.log2 < 1920 ∧ Q (.str (toString i)) H) aStrOf := by
  refine ⟨call_str_int, fun B ρ κ H xs as R Q g rs h q => ?_⟩
  unfold aStrOf at h
  split at h
  · obtain ⟨x, rfl, r⟩ := reps1 rs
    exact ⟨_, by rw [r.int], h.1, q.at0 g (rp_str _) h.2⟩
  · exact h.elim
/-- list(x): a new list that may change, one that never does -/
def aListOf (mu : Bool) : List AV → AK → AR → Prop := fun as κ R => match as with
  | [.d (.list xs)] => if mu then R (.c κ.length) (κ ++ [.ld xs]) else R (.d (.list xs)) κ
  | [.d (.tuple xs)] => if mu then R (.c κ.length) (κ ++ [.ld xs]) else R (.d (.list xs)) κ
  | [.c k] => match κ[k]? with
    | some (.ld xs) => if mu then R (.c κ.length) (κ ++ [.ld xs]) else R (.d (.list xs)) κ
    | some (.lst xs) => R (.c κ.length) (κ ++ [.lst xs])
    | some (.tup xs) => R (.c κ.length) (κ ++ [.lst xs])
    | _ => False
  | _ => False
theorem ca_list (mu : Bool) (hK : X.K = K := by rfl) : CallA K X (.type "list") (fun xs H Q => ∃ p ys, xs = [.ref p] ∧ (SqL K H p ys ∨ SqT K H p ys) ∧ ∀ l, H l = none → Q (.ref l) (upd H l (.lst ys))) (aListOf mu) := by
  obtain ⟨K, Kn, KZ, Ku⟩ := K
  change X.K = K at hK
  subst hK
  refine ⟨call_list_of, fun B ρ κ H xs as R Q g rs h q => ?_⟩
  have key : ∀ {ds : List PyData} {vs : List V}, DpAll X.K B vs ds → (if mu then R (.c κ.length) (κ ++ [.ld ds]) else R (.d (.list ds)) κ) → ∀ l, H l = none → Q (.ref l) (upd H l (.lst vs)) := by
    intro ds vs d1 h l hl
    cases mu with
    | true =>
      obtain ⟨u2, g2, r2⟩ := new_ld g hl d1
      exact q _ _ _ _ _ _ u2 g2 r2 h
    | false =>
      obtain ⟨u2, g2, r2⟩ := new_lst g hl d1
      exact q _ _ _ _ _ _ u2 g2 r2 h
  unfold aListOf at h
  split at h
  · obtain ⟨x, rfl, r⟩ := reps1 rs
    obtain ⟨p, vs, rfl, s1, d1⟩ := of_listG g r
    exact ⟨p, vs, rfl, .inl s1, key d1 h⟩
  · obtain ⟨x, rfl, r⟩ := reps1 rs
    obtain ⟨p, vs, rfl, s1, d1⟩ := of_tupG g r
    exact ⟨p, vs, rfl, .inr s1, key d1 h⟩
  · obtain ⟨x, rfl, r⟩ := reps1 rs
    obtain ⟨p, hp, rfl⟩ := r
    split at h
    · rename_i xs ek
      obtain ⟨p', hp', _, vs, r, eH⟩ := g.cell ek
      rw [hp] at hp'; cases hp'
      exact ⟨p, vs, rfl, .inl (.inl (.inl eH)), key r h⟩
    · rename_i xs ek
      obtain ⟨p', hp', _, vs, r, eH⟩ := g.cell ek
      rw [hp] at hp'; cases hp'
      refine ⟨p, vs, rfl, .inl (.inl (.inl eH)), fun l hl => ?_⟩
      obtain ⟨u2, g2, r2⟩ := new_cell g hl r
      exact q _ _ _ _ _ _ u2 g2 r2 h
    · rename_i xs ek
      obtain ⟨p', hp', vs, r, eH⟩ := g.cell ek
      rw [hp] at hp'; cases hp'
      refine ⟨p, vs, rfl, .inr (.inl (.inl eH)), fun l hl => ?_⟩
      obtain ⟨u2, g2, r2⟩ := new_cell g hl r
      exact q _ _ _ _ _ _ u2 g2 r2 h
    · exact h.elim
  · exact h.elim
/-- isinstance(x, T), T a built-in class -/
def tyN : PyData → String
  | .none => "NoneType" | .bool _ => "bool" | .int _ => "int" | .str _ => "str" | .list _ => "list" | .tuple _ => "tuple" | .dict _ => "dict"
def aIsi : List AV → AK → AR → Prop := fun as κ R => match as with
  | [.d x, .r (.ty T)] => ∃ r, kitB (tyN x) T = some r ∧ R (.d (.bool r)) κ
  | [.c k, .r (.ty T)] => match κ[k]? with
    | some (.ld _) => ∃ r, kitB "list" T = some r ∧ R (.d (.bool r)) κ
    | some (.lst _) => ∃ r, kitB "list" T = some r ∧ R (.d (.bool r)) κ
    | some (.tup _) => ∃ r, kitB "tuple" T = some r ∧ R (.d (.bool r)) κ
    | _ => False
  | _ => False
theorem tyx_of {d : PyData} (h : Dp K H v d) : TyX K H v (.type (tyN d)) := by
  cases h with
  | non => exact .base .non
  | bl b => exact .base (.bl b)
  | int i => exact .base (.int i)
  | str x => exact .base (.str x)
  | lst hs ha =>
    rcases hs with (h | ⟨o, h⟩) | ⟨o, its, n, h, h2, _⟩
    · exact .base (.lst h)
    · exact .base (.frz h)
    · exact .kList h h2
  | tup hs ha =>
    rcases hs with (h | ⟨o, h⟩) | ⟨o, its, n, h, h2, _⟩
    · exact .base (.tup h)
    · exact .fTuple h
    · exact .kTuple h h2
theorem ca_isi (hK : X.K = K := by rfl) : CallA K X (.builtin "isinstance") (rIsi K) aIsi := by
  obtain ⟨K, Kn, KZ, Ku⟩ := K
  change X.K = K at hK
  subst hK
  refine ⟨call_isi, fun B ρ κ H xs as R Q g rs h q => ?_⟩
  unfold aIsi at h
  split at h
  · obtain ⟨x, y, rfl, r1, r2⟩ := reps2 rs
    obtain ⟨r, e, h⟩ := h
    obtain rfl := (show y = _ from r2)
    exact ⟨x, _, _, _, r, rfl, .ty _, tyx_of (dp_G g r1), kit_ty e, q.at0 g (rp_bl _) h⟩
  · obtain ⟨x, y, rfl, r1, r2⟩ := reps2 rs
    obtain rfl := (show y = _ from r2)
    obtain ⟨p, hp, rfl⟩ := r1
    split at h
    · rename_i xs ek
      obtain ⟨r, e, h⟩ := h
      obtain ⟨p', hp', _, vs, _, eH⟩ := g.cell ek
      rw [hp] at hp'; cases hp'
      exact ⟨_, _, _, _, r, rfl, .ty _, .base (.lst eH), kit_ty e, q.at0 g (rp_bl _) h⟩
    · rename_i xs ek
      obtain ⟨r, e, h⟩ := h
      obtain ⟨p', hp', _, vs, _, eH⟩ := g.cell ek
      rw [hp] at hp'; cases hp'
      exact ⟨_, _, _, _, r, rfl, .ty _, .base (.lst eH), kit_ty e, q.at0 g (rp_bl _) h⟩
    · rename_i xs ek
      obtain ⟨r, e, h⟩ := h
      obtain ⟨p', hp', vs, _, eH⟩ := g.cell ek
      rw [hp] at hp'; cases hp'
      exact ⟨_, _, _, _, r, rfl, .ty _, .base (.tup eH), kit_ty e, q.at0 g (rp_bl _) h⟩
    · exact h.elim
  · exact h.elim

/-! ### methods of built-in classes -/
def tyA (T : String) (a : AV) (κ : AK) : Prop := match a with
  | .d (.str _) => T = "str"
  | .d (.list _) => T = "list"
  | .c k => match κ[k]? with
    | some (.ld _) => T = "list"
    | some (.lst _) => T = "list"
    | some (.dK _) => T = "dict"
    | some (.dT _) => T = "dict"
    | _ => False
  | _ => False
theorem tyA_ok {T : String} (g : G K B ρ κ H) (r : Rep K B ρ a x) (h : tyA T a κ) : tyV K T x H := by
  unfold tyA at h
  split at h
  · rw [r.str]; exact h
  · obtain ⟨p, vs, rfl, s1, d1⟩ := of_listG g r
    exact .inl ⟨h, vs, s1⟩
  · obtain ⟨p, hp, rfl⟩ := r
    split at h
    · rename_i xs ek
      obtain ⟨p', hp', _, vs, _, eH⟩ := g.cell ek
      rw [hp] at hp'; cases hp'
      exact .inl ⟨h, vs, .inl (.inl eH)⟩
    · rename_i xs ek
      obtain ⟨p', hp', _, vs, _, eH⟩ := g.cell ek
      rw [hp] at hp'; cases hp'
      exact .inl ⟨h, vs, .inl (.inl eH)⟩
    · rename_i xs ek
      obtain ⟨p', hp', _, vs, _, eH⟩ := g.cell ek
      rw [hp] at hp'; cases hp'
      exact .inr (.inr (.inl ⟨h, .inl ⟨vs, eH⟩⟩))
    · rename_i xs ek
      obtain ⟨p', hp', _, vs, _, eH⟩ := g.cell ek
      rw [hp] at hp'; cases hp'
      exact .inr (.inr (.inl ⟨h, .inr ⟨vs, eH⟩⟩))
    · exact h.elim
  · exact h.elim
structure MtA (K : Frg) (X : Cx) (id : String) (r : V → List V → Hp → VK → Prop) (g : AV → List AV → AK → AR → Prop) : Prop where
  m : MtR X id r
  sd : ∀ B ρ κ H x xs a as (R : AR) (Q : VK), G K B ρ κ H → Rep K B ρ a x → Reps K B ρ as xs → g a as κ R → Nx K B ρ H R Q → r x xs H Q
def aBM (T : String) (g : AV → List AV → AK → AR → Prop) (f : AE) (fa : AA) : AE := fun δ κ R => f δ κ fun a κ1 => tyA T a κ1 ∧ fa δ κ1 fun as κ2 => g a as κ2 R
def aBM0 (T : String) (g : AV → List AV → AK → AR → Prop) (f : AE) : AE := fun δ κ R => f δ κ fun a κ1 => tyA T a κ1 ∧ g a [] κ1 R
theorem ea_bm {T id : String} {name : Str} {apos cpos : Pos} {r : V → List V → Hp → VK → Prop} {g : AV → List AV → AK → AR → Prop} (hm : MtA K X id r g) (pa : PlainAttrs T) (slot : Slot T name id) (hty : typeOf (.builtin id) = pure (.type "method_descriptor")) (ho : PEa K X e2 t f) (ha : PAa K X (e :: es) ta fa)
    (hbase : attributeBase e2 name X.env (eval e2 X.env) = eval e2 X.env := by rfl)
    (hfew : ((backTo cpos (starEach (e :: es) X.env)).all (fun x => !x.1) && (backToKw cpos (keywordEach [] X.env)).all (fun x => x.1.isSome)
      && decide ((e :: es).length + ([] : List Keyword).length + (if ([] : List Keyword).isEmpty then 0 else 1) < 30)) = true := by rfl)
    (hline : (apos.endLine == cpos.line) = true := by rfl) (hs : starEach (e :: es) X.env = (false, eval e X.env) :: starEach es X.env := by rfl) (hplain : (backTo cpos (starEach es X.env)).any (·.1) = false := by rfl) (hK : X.K = K := by rfl) :
    PEa K X (.Call (.Attribute e2 name apos) (e :: es) [] cpos) (tBM K T r t ta) (aBM T g f fa) := by
  obtain ⟨K, Kn, KZ, Ku⟩ := K
  change X.K = K at hK
  subst hK
  exact ⟨pe_bm pa slot hty hm.m ho.pe ha.pa hbase hfew hline hs hplain, fun B ρ δ κ σ H R Q s gg h q => ho.sd B ρ δ κ σ H _ _ s gg h fun B1 ρ1 κ1 H1 a x u1 g1 r1 h1 =>
    ⟨tyA_ok g1 r1 h1.1, ha.sd B1 ρ1 δ κ1 σ H1 _ _ (s.up u1.g) g1 h1.2 fun B2 ρ2 κ2 H2 as xs u2 g2 r2 h2 => hm.sd _ _ _ _ _ _ _ _ _ _ g2 (r1.up u2.g) r2 h2 (q.later (u1.trans u2))⟩⟩
theorem ea_bm0 {T id : String} {name : Str} {apos cpos : Pos} {r : V → List V → Hp → VK → Prop} {g : AV → List AV → AK → AR → Prop} (hm : MtA K X id r g) (pa : PlainAttrs T) (slot : Slot T name id) (hty : typeOf (.builtin id) = pure (.type "method_descriptor")) (ho : PEa K X e2 t f)
    (hbase : attributeBase e2 name X.env (eval e2 X.env) = eval e2 X.env := by rfl) (hline : (apos.endLine == cpos.line) = true := by rfl) (hK : X.K = K := by rfl) : PEa K X (.Call (.Attribute e2 name apos) [] [] cpos) (tBM0 K T r t) (aBM0 T g f) := by
  obtain ⟨K, Kn, KZ, Ku⟩ := K
  change X.K = K at hK
  subst hK
  exact ⟨pe_bm0 pa slot hty hm.m ho.pe hbase hline, fun B ρ δ κ σ H R Q s gg h q => ho.sd B ρ δ κ σ H _ _ s gg h fun B1 ρ1 κ1 H1 a x u1 g1 r1 h1 =>
    ⟨tyA_ok g1 r1 h1.1, hm.sd _ _ _ _ _ _ _ _ _ _ g1 r1 .nil h1.2 (q.later u1)⟩⟩
/-- a list cell: where it stands, and how it changes -/
theorem G.lstAt (g : G K B ρ κ H) {xs : List AV} (hp : ρ[k]? = some p) (ek : κ[k]? = some (.lst xs)) : ∃ vs, Reps K B ρ xs vs ∧ H p = some (.lst vs) ∧
    ∀ xs' vs', Reps K B ρ xs' vs' → Up B ρ H B ρ (upd H p (.lst vs')) ∧ G K B ρ (κ.set k (.lst xs')) (upd H p (.lst vs')) := by
  obtain ⟨p', hp', hb, vs, r, eH⟩ := g.cell ek
  rw [hp] at hp'; cases hp'
  refine ⟨vs, r, eH, fun xs' vs' r' => ⟨G.writeUp hp, ?_⟩⟩
  have hc : CellOk K B ρ (upd H p (.lst vs')) p (.lst xs') := ⟨hb, vs', r', upd_same⟩
  exact g.write hp hb hc
theorem G.ldAt (g : G K B ρ κ H) {xs : List PyData} (hp : ρ[k]? = some p) (ek : κ[k]? = some (.ld xs)) : ∃ vs, DpAll K B vs xs ∧ H p = some (.lst vs) ∧
    ∀ xs' vs', DpAll K B vs' xs' → Up B ρ H B ρ (upd H p (.lst vs')) ∧ G K B ρ (κ.set k (.ld xs')) (upd H p (.lst vs')) := by
  obtain ⟨p', hp', hb, vs, r, eH⟩ := g.cell ek
  rw [hp] at hp'; cases hp'
  refine ⟨vs, r, eH, fun xs' vs' r' => ⟨G.writeUp hp, ?_⟩⟩
  have hc : CellOk K B ρ (upd H p (.lst vs')) p (.ld xs') := ⟨hb, vs', r', upd_same⟩
  exact g.write hp hb hc
/-- xs.append(y) -/
def aAppend : AV → List AV → AK → AR → Prop := fun a as κ R => match a, as with
  | .c k, [y] => match κ[k]?, y with
    | some (.ld xs), .d z => xs.length < sizeLine ∧ R (.d .none) (κ.set k (.ld (xs ++ [z])))
    | some (.lst xs), y => xs.length < sizeLine ∧ R (.d .none) (κ.set k (.lst (xs ++ [y])))
    | _, _ => False
  | _, _ => False
theorem ma_append : MtA K X "list.append" rAppend aAppend := by
  refine ⟨mt_append, fun B ρ κ H x xs a as R Q g rx rs h q => ?_⟩
  unfold aAppend at h
  split at h
  · obtain ⟨p, hp, rfl⟩ := rx
    obtain ⟨y, rfl, ry⟩ := reps1 rs
    split at h
    · rename_i xs z ek
      obtain ⟨vs, r, eH, wr⟩ := g.ldAt hp ek
      obtain ⟨u2, g2⟩ := wr _ _ (dpa_app r (.cons ry .nil))
      refine ⟨p, vs, y, rfl, rfl, eH, by rw [dpa_len r]; exact h.1, q _ _ _ _ _ _ u2 g2 rp_non h.2⟩
    · rename_i xs y' ek
      obtain ⟨vs, r, eH, wr⟩ := g.lstAt hp ek
      obtain ⟨u2, g2⟩ := wr _ _ (r.snoc ry)
      refine ⟨p, vs, y, rfl, rfl, eH, by rw [← r.len]; exact h.1, q _ _ _ _ _ _ u2 g2 rp_non h.2⟩
    · exact h.elim
  · exact h.elim
/-- s.startswith(x, i) -/
def aStarts3 : AV → List AV → AK → AR → Prop := fun a as κ R => match a, as with
  | .d (.str s), [.d (.str t), .d (.int i)] => R (.d (.bool (Txt.startswith3 s t i))) κ
  | _, _ => False
theorem ma_starts3 : MtA K X "str.startswith" (fun x xs H Q => ∃ (a b : Str) (i : Int), x = .str a ∧ xs = [.str b, .int i] ∧ Q (.bl (Txt.startswith3 a b i)) H) aStarts3 := by
  refine ⟨mt_startswith3, fun B ρ κ H x xs a as R Q g rx rs h q => ?_⟩
  unfold aStarts3 at h
  split at h
  · obtain ⟨y, z, rfl, r1, r2⟩ := reps2 rs
    cases rx.str; cases r1.str; cases r2.int
    exact ⟨_, _, _, rfl, rfl, q.at0 g (rp_bl _) h⟩
  · exact h.elim

/-! ### tests -/
variable {tA tB' : TT} {pA pB : AT}
/-- a choice by a truth -/
def bsel (b : Bool) (A C : Prop) : Prop := match b with
  | true => A
  | false => C
theorem bsel_i {b : Bool} {A C : Prop} (h1 : b = true → A) (h0 : b = false → C) : bsel b A C := by
  cases b with
  | true => exact h1 rfl
  | false => exact h0 rfl
def aB (f : AE) : AT := fun δ κ R => f δ κ fun a κ1 => match a with
  | .d (.bool b) => R b κ1
  | _ => False
theorem st_B (h : SE K t f) : ST K (tB t) (aB f) := fun B ρ δ κ σ H R Q s g hh q => h B ρ δ κ σ H _ _ s g hh fun B1 ρ1 κ1 H1 a x u1 g1 r1 h1 => by
  split at h1
  · exact ⟨_, r1.bool, q _ _ _ _ _ u1 g1 h1⟩
  · exact h1.elim
theorem ta_cmp {op : CmpOp} {r : R2} {g : AO} (ho : OpA K X (compareOp op) r g) (h1 : PEa K X e t f) (h2 : PEa K X e2 u f2) (hm : behindInMarks op e2 = false := by first | exact nomark _ | rfl) : PTa K X (.Compare e [op] [e2] pos) (tTest (tOp r t u)) (aB (aOp g f f2)) :=
  ⟨pt_cmpR ho.op h1.pe h2.pe hm, st_B (se_op ho.sd h1.sd h2.sd)⟩
/-- truth of anything -/
def aTru (f : AE) : AT := fun δ κ R => f δ κ fun a κ1 => match a with
  | .d (.bool b) => R b κ1
  | .d .none => R false κ1
  | .d (.int i) => R (i != 0) κ1
  | .d (.str s) => s.length ≤ sizeLine ∧ R ((s.length : Int) != 0) κ1
  | .d (.list xs) => R (!xs.isEmpty) κ1
  | .d (.tuple xs) => R (!xs.isEmpty) κ1
  | .c k => match κ1[k]? with
    | some (.ld xs) => R (!xs.isEmpty) κ1
    | some (.lst xs) => R (!xs.isEmpty) κ1
    | _ => False
  | _ => False
theorem emp_dpa {ds : List PyData} {vs : List V} (h : DpAll K B vs ds) : (!vs.isEmpty) = !ds.isEmpty := by
  cases ds with
  | nil => cases h; rfl
  | cons _ _ => cases h; rfl
theorem emp_reps {ds : List AV} {vs : List V} (h : Reps K B ρ ds vs) : (!vs.isEmpty) = !ds.isEmpty := by
  cases h <;> rfl
theorem ta_tru (h : PEa K X e t f) (he : ∀ whole, isTrue e X.env whole = (do let v ← whole; standAt e.pos; holding [v] (truthy v)) := by intro _; rfl) (hK : X.K = K := by rfl) : PTa K X e (fun σ H Q => t σ H fun x H' => ∃ k, TruV K x H' k ∧ Q k H') (aTru f) := by
  obtain ⟨K, Kn, KZ, Ku⟩ := K
  change X.K = K at hK
  subst hK
  refine ⟨pt_truth h.pe he, fun B ρ δ κ σ H R Q s g hh q => h.sd B ρ δ κ σ H _ _ s g hh fun B1 ρ1 κ1 H1 a x u1 g1 r1 h1 => ?_⟩
  split at h1
  · rw [r1.bool]; exact ⟨_, rfl, q _ _ _ _ _ u1 g1 h1⟩
  · rw [r1.non]; exact ⟨_, rfl, q _ _ _ _ _ u1 g1 h1⟩
  · rw [r1.int]; exact ⟨_, rfl, q _ _ _ _ _ u1 g1 h1⟩
  · rw [r1.str]; exact ⟨_, ⟨h1.1, rfl⟩, q _ _ _ _ _ u1 g1 h1.2⟩
  · obtain ⟨p, vs, rfl, s1, d1⟩ := of_listG g1 r1
    exact ⟨_, .inl ⟨vs, s1, rfl⟩, q _ _ _ _ _ u1 g1 (by rw [emp_dpa d1]; exact h1)⟩
  · obtain ⟨p, vs, rfl, s1, d1⟩ := of_tupG g1 r1
    exact ⟨_, .inr (.inl ⟨vs, s1, rfl⟩), q _ _ _ _ _ u1 g1 (by rw [emp_dpa d1]; exact h1)⟩
  · obtain ⟨p, hp, rfl⟩ := r1
    split at h1
    · rename_i xs ek
      obtain ⟨p', hp', _, vs, r, eH⟩ := g1.cell ek
      rw [hp] at hp'; cases hp'
      exact ⟨_, .inl ⟨vs, .inl (.inl eH), rfl⟩, q _ _ _ _ _ u1 g1 (by rw [emp_dpa r]; exact h1)⟩
    · rename_i xs ek
      obtain ⟨p', hp', _, vs, r, eH⟩ := g1.cell ek
      rw [hp] at hp'; cases hp'
      exact ⟨_, .inl ⟨vs, .inl (.inl eH), rfl⟩, q _ _ _ _ _ u1 g1 (by rw [emp_reps r]; exact h1)⟩
    · exact h1.elim
  · exact h1.elim
def aAnd (p q : AT) : AT := fun δ κ R => p δ κ fun c κ1 => bsel c (q δ κ1 R) (R false κ1)
def aOr (p q : AT) : AT := fun δ κ R => p δ κ fun c κ1 => bsel c (R true κ1) (q δ κ1 R)
def aNot (p : AT) : AT := fun δ κ R => p δ κ fun c κ1 => R (!c) κ1
variable {e' : Expr} {rs : List Expr}
theorem wa_1 {op : BoolOp} (ho : op = .And ∨ op = .Or) (h : PTa K X e tA pA) : PWa K X (.BoolOp op [e] pos) tA pA := by
  rcases ho with rfl | rfl
  · exact ⟨pw_and1 h.pt, h.sd⟩
  · exact ⟨pw_or1 h.pt, h.sd⟩
theorem wa_and1 (h : PTa K X e tA pA) : PWa K X (.BoolOp .And [e] pos) tA pA := ⟨pw_and1 h.pt, h.sd⟩
theorem wa_or1 (h : PTa K X e tA pA) : PWa K X (.BoolOp .Or [e] pos) tA pA := ⟨pw_or1 h.pt, h.sd⟩
theorem wa_and (h : PTa K X e tA pA) (h2 : PWa K X (.BoolOp .And (e' :: rs) pos) tB' pB) : PWa K X (.BoolOp .And (e :: e' :: rs) pos) (tAnd tA tB') (aAnd pA pB) :=
  ⟨pw_and h.pt h2.pw, fun B ρ δ κ σ H R Q s g hh q => h.sd B ρ δ κ σ H _ _ s g hh fun B1 ρ1 κ1 H1 c u1 g1 h1 => by
    cases c with
    | true => exact iteT (h2.sd B1 ρ1 δ κ1 σ H1 R Q (s.up u1.g) g1 h1 fun B2 ρ2 κ2 H2 b u2 g2 k2 => q _ _ _ _ _ (u1.trans u2) g2 k2)
    | false => exact iteF (q _ _ _ _ _ u1 g1 h1)⟩
theorem wa_or (h : PTa K X e tA pA) (h2 : PWa K X (.BoolOp .Or (e' :: rs) pos) tB' pB) : PWa K X (.BoolOp .Or (e :: e' :: rs) pos) (tOr tA tB') (aOr pA pB) :=
  ⟨pw_or h.pt h2.pw, fun B ρ δ κ σ H R Q s g hh q => h.sd B ρ δ κ σ H _ _ s g hh fun B1 ρ1 κ1 H1 c u1 g1 h1 => by
    cases c with
    | true => exact iteT (q _ _ _ _ _ u1 g1 h1)
    | false => exact iteF (h2.sd B1 ρ1 δ κ1 σ H1 R Q (s.up u1.g) g1 h1 fun B2 ρ2 κ2 H2 b u2 g2 k2 => q _ _ _ _ _ (u1.trans u2) g2 k2)⟩
theorem ta_not (h : PTa K X e tA pA) : PTa K X (.UnaryOp .Not e pos) (tNot tA) (aNot pA) := ⟨pt_not h.pt, fun B ρ δ κ σ H R Q s g hh q => h.sd B ρ δ κ σ H _ _ s g hh fun B1 ρ1 κ1 H1 c u1 g1 h1 => q _ _ _ _ _ u1 g1 h1⟩
/-- as values -/
def aAndV (p q : AE) : AE := fun δ κ R => p δ κ fun a κ1 => match a with
  | .d (.bool b) => bsel b (q δ κ1 R) (R (.d (.bool false)) κ1)
  | _ => False
def aOrV (p q : AE) : AE := fun δ κ R => p δ κ fun a κ1 => match a with
  | .d (.bool b) => bsel b (R (.d (.bool true)) κ1) (q δ κ1 R)
  | _ => False
def aNotV (p : AE) : AE := fun δ κ R => p δ κ fun a κ1 => match a with
  | .d (.bool b) => R (.d (.bool (!b))) κ1
  | _ => False
theorem ea_one {op : BoolOp} (h : PEa K X e t f) : PEa K X (.BoolOp op [e] pos) t f := ⟨pe_one h.pe, h.sd⟩
theorem ea_and (h : PEa K X e t f) (h2 : PEa K X (.BoolOp .And (e' :: rs) pos) u f2) : PEa K X (.BoolOp .And (e :: e' :: rs) pos) (tAndV t u) (aAndV f f2) :=
  ⟨pe_and h.pe h2.pe, fun B ρ δ κ σ H R Q s g hh q => h.sd B ρ δ κ σ H _ _ s g hh fun B1 ρ1 κ1 H1 a x u1 g1 r1 h1 => by
    split at h1
    · rename_i c
      refine ⟨_, r1.bool, ?_⟩
      cases c with
      | true => exact iteT (h2.sd B1 ρ1 δ κ1 σ H1 R Q (s.up u1.g) g1 h1 (q.later u1))
      | false => exact iteF (q _ _ _ _ _ _ u1 g1 (rp_bl _) h1)
    · exact h1.elim⟩
theorem ea_or (h : PEa K X e t f) (h2 : PEa K X (.BoolOp .Or (e' :: rs) pos) u f2) : PEa K X (.BoolOp .Or (e :: e' :: rs) pos) (tOrV t u) (aOrV f f2) :=
  ⟨pe_or h.pe h2.pe, fun B ρ δ κ σ H R Q s g hh q => h.sd B ρ δ κ σ H _ _ s g hh fun B1 ρ1 κ1 H1 a x u1 g1 r1 h1 => by
    split at h1
    · rename_i c
      refine ⟨_, r1.bool, ?_⟩
      cases c with
      | true => exact iteT (q _ _ _ _ _ _ u1 g1 (rp_bl _) h1)
      | false => exact iteF (h2.sd B1 ρ1 δ κ1 σ H1 R Q (s.up u1.g) g1 h1 (q.later u1))
    · exact h1.elim⟩
theorem ea_not (h : PEa K X e t f) : PEa K X (.UnaryOp .Not e pos) (tNotV t) (aNotV f) :=
  ⟨pe_not h.pe, fun B ρ δ κ σ H R Q s g hh q => h.sd B ρ δ κ σ H _ _ s g hh fun B1 ρ1 κ1 H1 a x u1 g1 r1 h1 => by
    split at h1
    · exact ⟨_, r1.bool, q _ _ _ _ _ _ u1 g1 (rp_bl _) h1⟩
    · exact h1.elim⟩
def aIf (p : AT) (a b : AE) : AE := fun δ κ R => p δ κ fun c κ1 => bsel c (a δ κ1 R) (b δ κ1 R)
theorem ea_if {c : Expr} (hc : PTa K X c tA pA) (h : PEa K X e t f) (h2 : PEa K X e2 u f2) : PEa K X (.IfExp c e e2 pos) (tIf tA t u) (aIf pA f f2) :=
  ⟨pe_ifExp hc.pt h.pe h2.pe, fun B ρ δ κ σ H R Q s g hh q => hc.sd B ρ δ κ σ H _ _ s g hh fun B1 ρ1 κ1 H1 c u1 g1 h1 => by
    cases c with
    | true => exact iteT (h.sd B1 ρ1 δ κ1 σ H1 R Q (s.up u1.g) g1 h1 (q.later u1))
    | false => exact iteF (h2.sd B1 ρ1 δ κ1 σ H1 R Q (s.up u1.g) g1 h1 (q.later u1))⟩
/-- -n -/
def aNeg : AV → AK → AR → Prop := fun a κ R => match a with
  | .d (.int i) => R (.d (.int (-i))) κ
  | _ => False
theorem ea_neg (h : PEa K X e t f) : PEa K X (.UnaryOp .USub e pos) (tUn (rU fun i => .int (-i)) t) (aUn aNeg f) := ea_un un_neg (fun B ρ κ H x a R Q g rx h q => by
  unfold aNeg at h
  split at h
  · exact ⟨_, rx.int, q.at0 g (rp_int _) h⟩
  · exact h.elim) h
end Ab
set_option Elab.async false
set_option linter.all false
set_option maxRecDepth 100000
set_option maxHeartbeats 4000000
/-! Ab4: statements, targets, what is walked, loops, comprehensions -/
namespace Ab
open PySem L2
variable {K : Frg} {B B' B2 H H' H2 : Hp} {ρ ρ' ρ2 : List Addr} {κ κ' : AK} {δ : AD} {σ : L2.St} {p : Addr} {k : Nat} {v x y z : V} {a b c : AV}
variable {X : Cx} {e e2 : Expr} {t u : TE} {f f2 : AE} {pos : Pos}

theorem UpN.mono {n m : Nat} (w : UpN m B ρ H B' ρ' H') (h : n ≤ m) : UpN n B ρ H B' ρ' H' := ⟨w.s, fun i a hi e => w.p i a (Nat.lt_of_lt_of_le hi h) e, w.f⟩
structure AEnds where
  /-- the cells that stand at the entry -/
  n : Nat
  nx : AD → AK → Prop
  rt : AR
  bk : AD → AK → Prop := fun _ _ => False
  ct : AD → AK → Prop := fun _ _ => False
abbrev AS := AEnds → AD → AK → Prop
/-- a way on -/
abbrev ImpN (K : Frg) (n : Nat) (B : Hp) (ρ : List Addr) (H : Hp) (P : AD → AK → Prop) (Q : L2.St → Hp → Prop) : Prop := ∀ B' ρ' κ' H' δ' σ', UpN n B ρ H B' ρ' H' → G K B' ρ' κ' H' → S K B' ρ' δ' σ' → n ≤ κ'.length → P δ' κ' → Q σ' H'
abbrev ImpR (K : Frg) (n : Nat) (B : Hp) (ρ : List Addr) (H : Hp) (P : AR) (Q : VK) : Prop := ∀ B' ρ' κ' H' a v, UpN n B ρ H B' ρ' H' → G K B' ρ' κ' H' → Rep K B' ρ' a v → n ≤ κ'.length → P a κ' → Q v H'
structure Imp (K : Frg) (B : Hp) (ρ : List Addr) (H : Hp) (A : AEnds) (D : Ends) : Prop where
  nx : ImpN K A.n B ρ H A.nx D.nx
  rt : ImpR K A.n B ρ H A.rt D.rt
  bk : ImpN K A.n B ρ H A.bk D.bk
  ct : ImpN K A.n B ρ H A.ct D.ct
  kn : K.n ≤ A.n
theorem Imp.later {A : AEnds} {D : Ends} (i : Imp K B ρ H A D) (w : UpN A.n B ρ H B' ρ' H') : Imp K B' ρ' H' A D :=
  ⟨fun _ _ _ _ _ _ w2 g s l h => i.nx _ _ _ _ _ _ (w.trans w2) g s l h, fun _ _ _ _ _ _ w2 g s l h => i.rt _ _ _ _ _ _ (w.trans w2) g s l h,
   fun _ _ _ _ _ _ w2 g s l h => i.bk _ _ _ _ _ _ (w.trans w2) g s l h, fun _ _ _ _ _ _ w2 g s l h => i.ct _ _ _ _ _ _ (w.trans w2) g s l h, i.kn⟩
theorem Imp.nxTo {A : AEnds} {D : Ends} (i : Imp K B ρ H A D) {P : AD → AK → Prop} {Q : L2.St → Hp → Prop} (h : ImpN K A.n B ρ H P Q) : Imp K B ρ H { A with nx := P } { D with nx := Q } := ⟨h, i.rt, i.bk, i.ct, i.kn⟩
def SS (K : Frg) (t : TS) (f : AS) : Prop := ∀ B ρ δ κ σ H (A : AEnds) (D : Ends), S K B ρ δ σ → G K B ρ κ H → A.n ≤ κ.length → f A δ κ → Imp K B ρ H A D → t D σ H
structure PSa (K : Frg) (X : Cx) (st : Stmt) (t : TS) (f : AS) : Prop where
  ps : PS X st t
  sd : SS K t f
structure PSsa (K : Frg) (X : Cx) (sts : List Stmt) (t : TS) (f : AS) : Prop where
  ps : PSs X sts t
  sd : SS K t f
theorem Up.len (w : Up B ρ H B' ρ' H') (g : G K B ρ κ H) (g' : G K B' ρ' κ' H') : κ.length ≤ κ'.length := by
  rw [← g.len, ← g'.len]
  by_cases h : ρ.length = 0
  · omega
  · have h1 : ρ.length - 1 < ρ.length := by omega
    have := (List.getElem?_eq_some_iff.mp (w.p _ _ (List.getElem?_eq_getElem h1))).1
    omega

/-! ### blocks, simple statements -/
def aNext : AS := fun A δ κ => A.nx δ κ
def aSeq (f g : AS) : AS := fun A δ κ => f { A with nx := g A } δ κ
def aDrop (f : AE) : AS := fun A δ κ => f δ κ fun _ κ1 => A.nx δ κ1
def aRet (f : AE) : AS := fun A δ κ => f δ κ A.rt
def aRetN : AS := fun A _ κ => A.rt (.d .none) κ
def aBrk : AS := fun A δ κ => A.bk δ κ
def aCont : AS := fun A δ κ => A.ct δ κ
def aNever : AS := fun _ _ _ => False
def aIfS (p : AT) (f g : AS) : AS := fun A δ κ => p δ κ fun b κ1 => bsel b (f A δ κ1) (g A δ κ1)
variable {st : Stmt} {rest : List Stmt} {t1 t2 : TS} {f1 g1 : AS} {tc : TT} {pc : AT}
theorem sa_nil : PSsa K X [] tNext aNext := ⟨pss_nil, fun B ρ δ κ σ H A D s g l h i => i.nx _ _ _ _ _ _ UpN.refl g s l h⟩
theorem sa_cons (h1 : PSa K X st t1 f1) (h2 : PSsa K X rest t2 g1) : PSsa K X (st :: rest) (tSeq t1 t2) (aSeq f1 g1) :=
  ⟨pss_cons h1.ps h2.ps, fun B ρ δ κ σ H A D s g l h i => h1.sd B ρ δ κ σ H { A with nx := g1 A } { D with nx := t2 D } s g l h (i.nxTo fun B' ρ' κ' H' δ' σ' w g' s' l' h' => h2.sd _ _ _ _ _ _ _ _ s' g' l' h' (i.later w))⟩
/-- a word between a statement and the rest -/
def aCut (f g : AS) : AS := fun A δ κ => ∃ M : AD → AK → Prop, f { A with nx := M } δ κ ∧ ∀ δ' κ', M δ' κ' → A.n ≤ κ'.length → g A δ' κ'
theorem sa_cut (h1 : PSa K X st t1 f1) (h2 : PSsa K X rest t2 g1) : PSsa K X (st :: rest) (tSeq t1 t2) (aCut f1 g1) :=
  ⟨pss_cons h1.ps h2.ps, fun B ρ δ κ σ H A D s g l ⟨M, h, hM⟩ i => h1.sd B ρ δ κ σ H { A with nx := M } { D with nx := t2 D } s g l h (i.nxTo fun B' ρ' κ' H' δ' σ' w g' s' l' h' => h2.sd _ _ _ _ _ _ _ _ s' g' l' (hM _ _ h' l') (i.later w))⟩
theorem sa_one (h1 : PSa K X st t1 f1) : PSsa K X [st] t1 f1 := ⟨pss_one h1.ps, h1.sd⟩
theorem sa_pass : PSa K X (.Pass pos) tNext aNext := ⟨ps_pass, (sa_nil (X := X)).sd⟩
theorem sa_brk : PSa K X (.Break pos) tBreak aBrk := ⟨ps_break, fun B ρ δ κ σ H A D s g l h i => i.bk _ _ _ _ _ _ UpN.refl g s l h⟩
theorem sa_cont : PSa K X (.Continue pos) tCont aCont := ⟨ps_continue, fun B ρ δ κ σ H A D s g l h i => i.ct _ _ _ _ _ _ UpN.refl g s l h⟩
theorem sa_nevers {sts : List Stmt} : PSsa K X sts tNever aNever := ⟨pss_never, fun B ρ δ κ σ H A D s g l h i => h.elim⟩
theorem sa_never : PSa K X st tNever aNever := ⟨ps_never, fun B ρ δ κ σ H A D s g l h i => h.elim⟩
theorem sa_drop (h : PEa K X e t f) (hs : swapsWith e none pos.line X.env = pure false := by rfl) : PSa K X (.Expr e pos) (tDrop t) (aDrop f) :=
  ⟨ps_expr h.pe hs, fun B ρ δ κ σ H A D s g l hh i => h.sd B ρ δ κ σ H _ _ s g hh fun B' ρ' κ' H' a v w g' r h' => i.nx _ _ _ _ _ _ w.n g' (s.up w.g) (Nat.le_trans l (w.len g g')) h'⟩
theorem sa_ret (h : PEa K X e t f) : PSa K X (.Return (some e) pos) (tRet t) (aRet f) :=
  ⟨ps_ret h.pe, fun B ρ δ κ σ H A D s g l hh i => h.sd B ρ δ κ σ H _ _ s g hh fun B' ρ' κ' H' a v w g' r h' => i.rt _ _ _ _ _ _ w.n g' r (Nat.le_trans l (w.len g g')) h'⟩
theorem sa_retN : PSa K X (.Return none pos) tRetN aRetN := ⟨ps_retN, fun B ρ δ κ σ H A D s g l hh i => i.rt _ _ _ _ _ _ UpN.refl g rp_non l hh⟩
theorem sa_if {c : Expr} {bt bf : List Stmt} {u1 u2 : TS} {k1 k2 : AS} (hc : PTa K X c tc pc) (h1 : PSsa K X bt u1 k1) (h2 : PSsa K X bf u2 k2) : PSa K X (.If c bt bf pos) (tIfS tc u1 u2) (aIfS pc k1 k2) :=
  ⟨ps_if hc.pt h1.ps h2.ps, fun B ρ δ κ σ H A D s g l hh i => hc.sd B ρ δ κ σ H _ _ s g hh fun B' ρ' κ' H' b w g' h' => by
    have l' := Nat.le_trans l (w.len g g')
    cases b with
    | true => exact iteT (h1.sd _ _ _ _ _ _ _ _ (s.up w.g) g' l' h' (i.later w.n))
    | false => exact iteF (h2.sd _ _ _ _ _ _ _ _ (s.up w.g) g' l' h' (i.later w.n))⟩

variable {K : PySem.W.Frag}
/-! ### another description of the same: what is frozen, what is forgotten -/
def GhS (K : PySem.W.Frag) (n : Nat) (δ : AD) (κ : AK) (δ' : AD) (κ' : AK) : Prop := n ≤ κ'.length ∧ ∀ B ρ σ H, S K B ρ δ σ → G (Frg.of K) B ρ κ H → ∃ B' ρ', UpN n B ρ H B' ρ' H ∧ S K B' ρ' δ' σ ∧ G (Frg.of K) B' ρ' κ' H
def aGh (K : PySem.W.Frag) (f : AS) : AS := fun A δ κ => ∃ δ' κ', GhS K A.n δ κ δ' κ' ∧ f A δ' κ'
theorem ss_gh {K : Frg} {t : TS} {f : AS} (h : SS K t f) : SS K t (aGh K f) := fun B ρ δ κ σ H A D s g l ⟨δ', κ', ⟨l', gh⟩, hf⟩ i => by
  obtain ⟨B', ρ', w, s', g'⟩ := gh B ρ σ H s g.plain
  exact h B' ρ' δ' κ' σ H A D s' (g'.zone (K.up _ _ _ _ _ _ (w.mono i.kn) g.z)) l' hf (i.later w)
theorem sa_gh {K : Frg} {sts : List Stmt} (h : PSsa K X sts t1 f1) : PSsa K X sts t1 (aGh K f1) := ⟨h.ps, ss_gh h.sd⟩
theorem sa_gh1 {K : Frg} (h : PSa K X st t1 f1) : PSa K X st t1 (aGh K f1) := ⟨h.ps, ss_gh h.sd⟩
theorem GhS.refl {n : Nat} (l : n ≤ κ.length) : GhS K n δ κ δ κ := ⟨l, fun B ρ σ H s g => ⟨B, ρ, UpN.refl, s, g⟩⟩
theorem GhS.trans {n : Nat} {δ' δ2 : AD} {κ' κ2 : AK} (a : GhS K n δ κ δ' κ') (b : GhS K n δ' κ' δ2 κ2) : GhS K n δ κ δ2 κ2 := ⟨b.1, fun B ρ σ H s g => by
  obtain ⟨B', ρ', w, s', g'⟩ := a.2 B ρ σ H s g
  obtain ⟨B2, ρ2, w2, s2, g2⟩ := b.2 B' ρ' σ H s' g'
  exact ⟨B2, ρ2, w.trans w2, s2, g2⟩⟩
/-- slots forgotten -/
theorem GhS.forget {n : Nat} {δ' : AD} (l : n ≤ κ.length) (hl : δ'.length = δ.length) (h : ∀ (i : Nat) (a : AV), δ'[i]? = some (some a) → δ[i]? = some (some a)) : GhS K n δ κ δ' κ :=
  ⟨l, fun B ρ σ H s g => ⟨B, ρ, UpN.refl, ⟨hl.trans s.len, fun i a e => s.at' i a (h i a e)⟩, g⟩⟩
/-- c k is the datum x from now on -/
def fzA (k : Nat) (x : PyData) : AV → AV
  | .c j => if j = k then .d x else .c j
  | a => a
theorem Rep.fz {q : PyData} (u : Ug B ρ B' ρ) (hk : ∀ p, ρ[k]? = some p → Dp K B' (.ref p) q) {a : AV} {v : V} (r : Rep K B ρ a v) : Rep K B' ρ (fzA k q a) v := by
  cases a with
  | d x => exact Rep.up u r
  | r w => exact r
  | c j =>
    show Rep K B' ρ (if j = k then .d q else .c j) v
    by_cases e : j = k
    · rw [if_pos e]
      obtain ⟨p, hp, rfl⟩ := r
      subst e
      exact hk p hp
    · rw [if_neg e]
      exact Rep.up u r
def fzC (k : Nat) (x : PyData) : Cell → Cell
  | .lst xs => .lst (xs.map (fzA k x))
  | .tup xs => .tup (xs.map (fzA k x))
  | .ins C fs => .ins C (fs.map fun p => (p.1, fzA k x p.2))
  | c => c
theorem Reps.fz {q : PyData} (u : Ug B ρ B' ρ) (hk : ∀ p, ρ[k]? = some p → Dp K B' (.ref p) q) : ∀ {as : List AV} {vs : List V}, Reps K B ρ as vs → Reps K B' ρ (as.map (fzA k q)) vs
  | _, _, .nil => .nil
  | _, _, .cons h1 h2 => .cons (h1.fz u hk) (Reps.fz u hk h2)
theorem RepKs.fz {ι : Type} {q : PyData} (u : Ug B ρ B' ρ) (hk : ∀ p, ρ[k]? = some p → Dp K B' (.ref p) q) : ∀ {as : List (ι × AV)} {vs : List (ι × V)}, RepKs K B ρ as vs → RepKs K B' ρ (as.map fun p => (p.1, fzA k q p.2)) vs
  | _, _, .nil => .nil
  | _, _, .cons h1 h2 => .cons ⟨h1.1, h1.2.fz u hk⟩ (RepKs.fz u hk h2)
/-- the list at k is frozen -/
theorem freeze_core (g : G (Frg.of K) B ρ κ H) {xs : List PyData} (ek : κ[k]? = some (.ld xs)) : ∃ B' p, ρ[k]? = some p ∧ Up B ρ H B' ρ H ∧ Dp K B' (.ref p) (.list xs) ∧ G (Frg.of K) B' ρ ((κ.set k .dead).map (fzC k (.list xs))) H := by
  obtain ⟨p, hp, hb, vs, d, eH⟩ := g.cell ek
  have hsame : Same B (upd B p (.lst vs)) := same_upd hb
  have hB : (upd B p (.lst vs)) p = some (.lst vs) := upd_same
  have u : Up B ρ H (upd B p (.lst vs)) ρ H := ⟨hsame, fun _ _ h => h, fun q o h1 h2 h3 => by
    have hq : q ≠ p := fun e => h3 (e ▸ mem_of_get hp)
    rw [upd_ne hq]; exact ⟨h1, h2, h3⟩⟩
  have dd : Dp K (upd B p (.lst vs)) (.ref p) (.list xs) := .lst (.inl (.inl hB)) (dpa_up hsame _ _ d)
  have hk : ∀ q, ρ[k]? = some q → Dp K (upd B p (.lst vs)) (.ref q) (.list xs) := fun q hq => by rw [hp] at hq; cases hq; exact dd
  refine ⟨_, p, hp, u, dd, ⟨fun b o e => ?_, by simp [g.len], g.inj, fun i q c h1 h2 => ?_, True.intro⟩⟩
  · by_cases hbp : b = p
    · subst hbp; rw [upd_same] at e; rw [eH]; exact e
    · rw [upd_ne hbp] at e; exact g.ex b o e
  · rw [List.getElem?_map] at h2
    by_cases e : k = i
    · subst e
      rw [hp] at h1; cases h1
      rw [List.getElem?_set_self (List.getElem?_eq_some_iff.mp ek).1] at h2
      cases h2
      show H p ≠ none
      rw [eH]; simp
    · rw [List.getElem?_set_ne e] at h2
      have hq : q ≠ p := fun z => by subst z; exact e (g.inj k i q hp h1)
      obtain ⟨c0, hc0, rfl⟩ := Option.map_eq_some_iff.mp h2
      have ok := g.at' i q c0 h1 hc0
      have hbq : ∀ {z}, B q = z → upd B p (.lst vs) q = z := fun h => by rw [upd_ne hq]; exact h
      cases c0 with
      | dead => exact ok
      | ld ys => obtain ⟨n, ws, r, e⟩ := ok; exact ⟨hbq n, ws, dpa_up hsame _ _ r, e⟩
      | lst ys => obtain ⟨n, ws, r, e⟩ := ok; exact ⟨hbq n, ws, Reps.fz u.g hk r, e⟩
      | tup ys => obtain ⟨ws, r, e⟩ := ok; exact ⟨ws, Reps.fz u.g hk r, e⟩
      | dK ys => obtain ⟨n, ws, r, e⟩ := ok; exact ⟨hbq n, ws, DpKs.up hsame r, e⟩
      | dT ys => obtain ⟨n, ws, r, e⟩ := ok; exact ⟨hbq n, ws, DpKs.up hsame r, e⟩
      | ins C ys => obtain ⟨n, dx, ws, r, e⟩ := ok; exact ⟨hbq n, dx, ws, RepKs.fz u.g hk r, e⟩
theorem GhS.freeze {n : Nat} (l : n ≤ κ.length) (k : Nat) (xs : List PyData) (ek : κ[k]? = some (.ld xs)) : GhS K n δ κ (δ.map (Option.map (fzA k (.list xs)))) ((κ.set k .dead).map (fzC k (.list xs))) := by
  refine ⟨by simpa using l, fun B ρ σ H s g => ?_⟩
  obtain ⟨B', p, hp, u, dd, g'⟩ := freeze_core g ek
  refine ⟨B', ρ, u.n, ⟨by simpa using s.len, fun i a e => ?_⟩, g'⟩
  rw [List.getElem?_map] at e
  obtain ⟨o, ho, e⟩ := Option.map_eq_some_iff.mp e
  obtain ⟨a0, rfl, rfl⟩ := Option.map_eq_some_iff.mp e
  obtain ⟨v, e1, r⟩ := s.at' i a0 ho
  exact ⟨v, e1, r.fz u.g fun q hq => by rw [hp] at hq; cases hq; exact dd⟩
/-- references below n -/
def okA (n : Nat) : AV → Bool
  | .c k => decide (k < n)
  | _ => true
def okC (n : Nat) : Cell → Bool
  | .lst xs => xs.all (okA n)
  | .tup xs => xs.all (okA n)
  | .ins _ fs => fs.all fun p => okA n p.2
  | _ => true
theorem Rep.cut {m : Nat} (h : okA m a = true) (r : Rep K B ρ a v) : Rep K B (ρ.take m) a v := by
  cases a with
  | d x => exact r
  | r w => exact r
  | c j =>
    obtain ⟨p, hp, e⟩ := r
    have hj : j < m := of_decide_eq_true h
    exact ⟨p, by rw [List.getElem?_take_of_lt hj]; exact hp, e⟩
theorem Reps.cutR {m : Nat} : ∀ {as : List AV} {vs : List V}, as.all (okA m) = true → Reps K B ρ as vs → Reps K B (ρ.take m) as vs
  | _, _, _, .nil => .nil
  | _, _, h, .cons h1 h2 => by
    rw [List.all_cons, Bool.and_eq_true] at h
    exact .cons (h1.cut h.1) (Reps.cutR h.2 h2)
theorem RepKs.cutR {ι : Type} {m : Nat} : ∀ {as : List (ι × AV)} {vs : List (ι × V)}, (as.all fun p => okA m p.2) = true → RepKs K B ρ as vs → RepKs K B (ρ.take m) as vs
  | _, _, _, .nil => .nil
  | _, _, h, .cons h1 h2 => by
    rw [List.all_cons, Bool.and_eq_true] at h
    exact .cons ⟨h1.1, h1.2.cut h.1⟩ (RepKs.cutR h.2 h2)
theorem G.take (g : G (Frg.of K) B ρ κ H) (m : Nat) (h : (κ.take m).all (okC m) = true) : G (Frg.of K) B (ρ.take m) (κ.take m) H := by
  refine ⟨g.ex, by rw [List.length_take, List.length_take, g.len], fun i j p h1 h2 => ?_, fun i p c h1 h2 => ?_, True.intro⟩
  · have e1 : ρ[i]? = some p := by
      have := (List.getElem?_eq_some_iff.mp h1).1
      rw [List.length_take] at this
      rw [List.getElem?_take_of_lt (by omega)] at h1; exact h1
    have e2 : ρ[j]? = some p := by
      have := (List.getElem?_eq_some_iff.mp h2).1
      rw [List.length_take] at this
      rw [List.getElem?_take_of_lt (by omega)] at h2; exact h2
    exact g.inj i j p e1 e2
  · have hi : i < m := by
      have := (List.getElem?_eq_some_iff.mp h1).1
      rw [List.length_take] at this; omega
    have hc : okC m c = true := List.all_eq_true.mp h c (mem_of_get h2)
    rw [List.getElem?_take_of_lt hi] at h1 h2
    have ok := g.at' i p c h1 h2
    cases c with
    | dead => exact ok
    | ld ys => exact ok
    | lst ys => obtain ⟨n, ws, r, e⟩ := ok; exact ⟨n, ws, Reps.cutR hc r, e⟩
    | tup ys => obtain ⟨ws, r, e⟩ := ok; exact ⟨ws, Reps.cutR hc r, e⟩
    | dK ys => exact ok
    | dT ys => exact ok
    | ins C ys => obtain ⟨n, dx, ws, r, e⟩ := ok; exact ⟨n, dx, ws, RepKs.cutR hc r, e⟩
theorem UpN.take {n m : Nat} (h : n ≤ m) : UpN n B ρ H B (ρ.take m) H := ⟨Same.refl B, fun i a hi e => by rw [List.getElem?_take_of_lt (Nat.lt_of_lt_of_le hi h)]; exact e, fun p o h1 h2 h3 => ⟨h1, h2, fun z => h3 (List.mem_of_mem_take z)⟩⟩
def okD (n : Nat) (δ : AD) : Bool := δ.all fun o => match o with
  | some a => okA n a
  | none => true
/-- the cells from m on are forgotten -/
theorem GhS.take {n : Nat} (m : Nat) (l : n ≤ m) (l2 : m ≤ κ.length) (h : (κ.take m).all (okC m) = true) (hd : okD m δ = true) : GhS K n δ κ δ (κ.take m) := by
  refine ⟨by rw [List.length_take]; omega, fun B ρ σ H s g => ⟨B, ρ.take m, UpN.take l, ⟨s.len, fun i a e => ?_⟩, g.take m h⟩⟩
  obtain ⟨v, e1, r⟩ := s.at' i a e
  have := List.all_eq_true.mp hd (some a) (mem_of_get e)
  exact ⟨v, e1, r.cut this⟩
/-- of a value -/
def GhR (K : PySem.W.Frag) (n : Nat) (a : AV) (κ : AK) (a' : AV) (κ' : AK) : Prop := n ≤ κ'.length ∧ ∀ B ρ H v, G (Frg.of K) B ρ κ H → Rep K B ρ a v → ∃ B' ρ', UpN n B ρ H B' ρ' H ∧ Rep K B' ρ' a' v ∧ G (Frg.of K) B' ρ' κ' H
theorem GhR.refl {n : Nat} (l : n ≤ κ.length) : GhR K n a κ a κ := ⟨l, fun B ρ H v g r => ⟨B, ρ, UpN.refl, r, g⟩⟩
theorem GhR.trans {n : Nat} {a' a2 : AV} {κ' κ2 : AK} (x : GhR K n a κ a' κ') (y : GhR K n a' κ' a2 κ2) : GhR K n a κ a2 κ2 := ⟨y.1, fun B ρ H v g r => by
  obtain ⟨B', ρ', w, s', g'⟩ := x.2 B ρ H v g r
  obtain ⟨B2, ρ2, w2, s2, g2⟩ := y.2 B' ρ' H v g' s'
  exact ⟨B2, ρ2, w.trans w2, s2, g2⟩⟩
theorem GhR.freeze {n : Nat} (l : n ≤ κ.length) (k : Nat) (xs : List PyData) (ek : κ[k]? = some (.ld xs)) : GhR K n a κ (fzA k (.list xs) a) ((κ.set k .dead).map (fzC k (.list xs))) := by
  refine ⟨by simpa using l, fun B ρ H v g r => ?_⟩
  obtain ⟨B', p, hp, u, dd, g'⟩ := freeze_core g ek
  exact ⟨B', ρ, u.n, r.fz u.g fun q hq => by rw [hp] at hq; cases hq; exact dd, g'⟩
theorem GhR.take {n : Nat} (m : Nat) (l : n ≤ m) (l2 : m ≤ κ.length) (h : (κ.take m).all (okC m) = true) (hd : okA m a = true) : GhR K n a κ a (κ.take m) :=
  ⟨by rw [List.length_take]; omega, fun B ρ H v g r => ⟨B, ρ.take m, UpN.take l, r.cut hd, g.take m h⟩⟩
end Ab
set_option Elab.async false
set_option linter.all false
set_option maxRecDepth 100000
set_option maxHeartbeats 4000000
/-! Ab5: targets, what is walked, loops, comprehensions -/
namespace Ab
open PySem L2
variable {K : Frg} {B B' B2 H H' H2 : Hp} {ρ ρ' ρ2 : List Addr} {κ κ' : AK} {δ : AD} {σ : L2.St} {p : Addr} {k : Nat} {v x y z : V} {a b c : AV}
variable {X : Cx} {e e2 : Expr} {t u : TE} {f f2 : AE} {pos : Pos}

/-! ### targets -/
abbrev AG := AV → AD → AK → (AD → AK → Prop) → Prop
abbrev AGs := List AV → AD → AK → (AD → AK → Prop) → Prop
def SG (K : Frg) (t : TG) (g : AG) : Prop := ∀ B ρ δ κ σ H a v (R : AD → AK → Prop) (Q : L2.St → Hp → Prop), S K B ρ δ σ → G K B ρ κ H → Rep K B ρ a v → g a δ κ R →
  (∀ B' ρ' δ' κ' σ' H', Up B ρ H B' ρ' H' → S K B' ρ' δ' σ' → G K B' ρ' κ' H' → R δ' κ' → Q σ' H') → t v σ H Q
def SGs (K : Frg) (t : TGs) (g : AGs) : Prop := ∀ B ρ δ κ σ H as vs (R : AD → AK → Prop) (Q : L2.St → Hp → Prop), S K B ρ δ σ → G K B ρ κ H → Reps K B ρ as vs → g as δ κ R →
  (∀ B' ρ' δ' κ' σ' H', Up B ρ H B' ρ' H' → S K B' ρ' δ' σ' → G K B' ρ' κ' H' → R δ' κ' → Q σ' H') → t vs σ H Q
structure PGa (K : Frg) (X : Cx) (tg : Expr) (t : TG) (g : AG) : Prop where
  pg : PG X tg t
  sd : SG K t g
structure PGsa (K : Frg) (X : Cx) (tgs : List Expr) (t : TGs) (g : AGs) : Prop where
  pg : PGs X tgs t
  sd : SGs K t g
def aName (i : Nat) : AG := fun a δ κ R => R (δ.set i (some a)) κ
def aGNil : AGs := fun as δ κ R => match as with
  | [] => R δ κ
  | _ => False
def aGCons (g : AG) (gs : AGs) : AGs := fun as δ κ R => match as with
  | a :: r => g a δ κ fun δ' κ' => gs r δ' κ' R
  | [] => False
/-- a tuple is taken apart -/
def aGTup (n : Nat) (gs : AGs) : AG := fun a δ κ R => match a with
  | .d (.tuple ds) => ds.length = n ∧ gs (ds.map .d) δ κ R
  | .c k => match κ[k]? with
    | some (.tup xs) => xs.length = n ∧ gs xs δ κ R
    | _ => False
  | _ => False
theorem ga_name {i : Nat} {x : Str} (hN : X.N.Nodup) (hi : X.N[i]? = some x) (hx : Loc X.env.scope x) (hf : X.fn x = true ∨ X.env.scope.names.lookup x = some .local := by first | exact .inl rfl | exact .inr rfl | assumption) : PGa K X (.Name x pos) (gName i) (aName i) :=
  ⟨pg_name hN hi hx hf, fun B ρ δ κ σ H a v R Q s g r h q => q _ _ _ _ _ _ Up.refl (s.set r) g h⟩
variable {es : List Expr} {tg : TG} {tgs : TGs} {ag : AG} {ags : AGs}
theorem gsa_nil : PGsa K X [] gNil aGNil := ⟨pgs_nil, fun B ρ δ κ σ H as vs R Q s g r h q => by
  unfold aGNil at h
  split at h
  · cases r; exact ⟨rfl, q _ _ _ _ _ _ Up.refl s g h⟩
  · exact h.elim⟩
theorem gsa_cons (h1 : PGa K X e tg ag) (h2 : PGsa K X es tgs ags) (hs : (assignEach (e :: es) X.env).map (·.2) = assign e X.env :: (assignEach es X.env).map (·.2) := by rfl) : PGsa K X (e :: es) (gCons tg tgs) (aGCons ag ags) :=
  ⟨pgs_cons h1.pg h2.pg hs, fun B ρ δ κ σ H as vs R Q s g r h q => by
    unfold aGCons at h
    split at h
    · cases r with
      | cons r1 r2 =>
        exact ⟨_, _, rfl, h1.sd _ _ _ _ _ _ _ _ _ _ s g r1 h fun B' ρ' δ' κ' σ' H' w s' g' h' => h2.sd _ _ _ _ _ _ _ _ _ _ s' g' (Reps.up w.g r2) h' fun _ _ _ _ _ _ w2 s2 g2 k2 => q _ _ _ _ _ _ (w.trans w2) s2 g2 k2⟩
    · exact h.elim⟩
theorem ga_tup {kk : Nat} {n : Nat} (hc : X.calm = true) (h : PGsa K X es tgs ags) (hn : (assignEach es X.env).length = n := by rfl) (hst : (assignEach es X.env).findIdx? (·.1) = none := by rfl) (hK : X.K = K := by rfl) : PGa K X (.Tuple es kk pos) (gTup K n tgs) (aGTup n ags) := by
  obtain ⟨K, Kn, KZ, Ku⟩ := K
  change X.K = K at hK
  subst hK
  exact ⟨pg_tup hc h.pg hn hst, fun B ρ δ κ σ H a v R Q s g r hh q => by
    unfold aGTup at hh
    split at hh
    · obtain ⟨p, vs, rfl, s1, d1⟩ := of_tupG g r
      exact ⟨p, vs, rfl, s1, by rw [dpa_len d1]; exact hh.1, h.sd _ _ _ _ _ _ _ _ _ _ s g (Reps.all d1) hh.2 q⟩
    · obtain ⟨p, hp, rfl⟩ := r
      split at hh
      · rename_i xs ek
        obtain ⟨p', hp', vs, r, eH⟩ := g.cell ek
        rw [hp] at hp'; cases hp'
        exact ⟨p, vs, rfl, .inl (.inl eH), by rw [← r.len]; exact hh.1, h.sd _ _ _ _ _ _ _ _ _ _ s g r hh.2 q⟩
      · exact hh.elim
    · exact hh.elim⟩
/-- o[i] = v -/
abbrev ASet := AV → AV → AV → AK → (AK → Prop) → Prop
def SSet (K : Frg) (t : TSet) (f : ASet) : Prop := ∀ B ρ κ H o i v ao ai a (R : AK → Prop) (Q : Hp → Prop), G K B ρ κ H → Rep K B ρ ao o → Rep K B ρ ai i → Rep K B ρ a v → f ao ai a κ R →
  (∀ B' ρ' κ' H', Up B ρ H B' ρ' H' → G K B' ρ' κ' H' → R κ' → Q H') → t o i v H Q
structure SetA (K : Frg) (X : Cx) (t : TSet) (f : ASet) : Prop where
  s : PSet X t
  sd : SSet K t f
def aGSub (fo fi : AE) (fs : ASet) : AG := fun a δ κ R => fo δ κ fun o κ1 => fi δ κ1 fun i κ2 => fs o i a κ2 fun κ3 => R δ κ3
theorem ga_sub {o i : Expr} {to ti : TE} {ts : TSet} {fo fi : AE} {fs : ASet} (ho : PEa K X o to fo) (hi : PEa K X i ti fi) (hs : SetA K X ts fs)
    (ha : ∀ v, assign (.Subscript o i pos) X.env v = (do
      let ov ← holding [v] (eval o X.env)
      let iv ← holding [v, ov] (eval i X.env)
      standAt pos
      holding [v, ov, iv] (setItem ov iv v)
      release [v, ov, iv] []) := by intro _; rfl) : PGa K X (.Subscript o i pos) (gSub to ti ts) (aGSub fo fi fs) :=
  ⟨pg_sub ho.pe hi.pe hs.s ha, fun B ρ δ κ σ H a v R Q s g r h q => ho.sd _ _ _ _ _ _ _ _ s g h fun B1 ρ1 κ1 H1 ao vo w1 g1 r1 h1 => hi.sd _ _ _ _ _ _ _ _ (s.up w1.g) g1 h1 fun B2 ρ2 κ2 H2 ai vi w2 g2 r2 h2 =>
    hs.sd _ _ _ _ _ _ _ _ _ _ _ _ g2 (r1.up w2.g) r2 (r.up (w1.trans w2).g) h2 fun B3 ρ3 κ3 H3 w3 g3 h3 => q _ _ _ _ _ _ ((w1.trans w2).trans w3) (s.up ((w1.trans w2).trans w3).g) g3 h3⟩
def aSetL : ASet := fun o i a κ R => match o, i with
  | .c k, .d (.int i) => match κ[k]?, a with
    | some (.ld xs), .d x => ∃ j, ixN xs.length i = some j ∧ R (κ.set k (.ld (xs.set j x)))
    | some (.lst xs), a => ∃ j, ixN xs.length i = some j ∧ R (κ.set k (.lst (xs.set j a)))
    | _, _ => False
  | _, _ => False
theorem dpa_set : ∀ {ds : List PyData} {vs : List V} (i : Nat) {d : PyData} {v : V}, DpAll K B vs ds → Dp K B v d → DpAll K B (vs.set i v) (ds.set i d)
  | [], _, _, _, _, h, _ => by cases h; exact .nil
  | d :: ds, _, i, _, _, h, r => by
    cases h with
    | cons h1 h2 =>
      cases i with
      | zero => exact .cons r h2
      | succ i => exact .cons h1 (dpa_set i h2 r)
theorem sta_list : SetA K X rSetL aSetL := ⟨set_list, fun B ρ κ H o i v ao ai a R Q g ro ri rv h q => by
  unfold aSetL at h
  split at h
  · obtain ⟨p, hp, rfl⟩ := ro
    cases ri.int
    split at h
    · rename_i xs x ek
      obtain ⟨j, hj, h⟩ := h
      obtain ⟨vs, r, eH, wr⟩ := g.ldAt hp ek
      obtain ⟨w, g'⟩ := wr _ _ (dpa_set j r rv)
      exact ⟨p, vs, _, j, rfl, rfl, eH, by rw [dpa_len r]; exact hj, q _ _ _ _ w g' h⟩
    · rename_i xs a ek
      obtain ⟨j, hj, h⟩ := h
      obtain ⟨vs, r, eH, wr⟩ := g.lstAt hp ek
      obtain ⟨w, g'⟩ := wr _ _ (r.set j rv)
      exact ⟨p, vs, _, j, rfl, rfl, eH, by rw [← r.len]; exact hj, q _ _ _ _ w g' h⟩
    · exact h.elim
  · exact h.elim⟩

/-! ### assignments -/
def aAsg (f : AE) (g : AG) : AS := fun A δ κ => f δ κ fun a κ1 => g a δ κ1 A.nx
abbrev aSet (i : Nat) (f : AE) : AS := aAsg f (aName i)
theorem ss_asg (h : SE K t f) (hg : SG K tg ag) : SS K (tAsg t tg) (aAsg f ag) := fun B ρ δ κ σ H A D s g l hh i => h B ρ δ κ σ H _ _ s g hh fun B1 ρ1 κ1 H1 a v w1 g1 r1 h1 =>
  hg _ _ _ _ _ _ _ _ _ _ (s.up w1.g) g1 r1 h1 fun B2 ρ2 δ2 κ2 σ2 H2 w2 s2 g2 h2 => i.nx _ _ _ _ _ _ (w1.trans w2).n g2 s2 (Nat.le_trans l ((w1.trans w2).len g g2)) h2
theorem sa_asg {tge : Expr} (h : PEa K X e t f) (hg : PGa K X tge tg ag) (hs : swapsWithSole [tge] e pos.line X.env = pure false := by rfl) (hw : swappedStores [tge] e X.env = pure none := by rfl)
    (h1 : (assignEach [tge] X.env).map (·.2) = [assign tge X.env] := by rfl) : PSa K X (.Assign [tge] e pos) (tAsg t tg) (aAsg f ag) := ⟨ps_asg h.pe hg.pg hs hw h1, ss_asg h.sd hg.sd⟩
theorem sg_name {i : Nat} : SG K (gName i) (aName i) := fun B ρ δ κ σ H a v R Q s g r h q => q _ _ _ _ _ _ Up.refl (s.set r) g h
theorem sa_set {i : Nat} {x : Str} {pos' : Pos} (hN : X.N.Nodup) (hi : X.N[i]? = some x) (hx : Loc X.env.scope x) (h : PEa K X e t f) (hs : swapsWith e (some (.Name x pos')) pos.line X.env = pure false := by rfl) (hf : X.fn x = true ∨ X.env.scope.names.lookup x = some .local := by first | exact .inl rfl | exact .inr rfl | assumption) :
    PSa K X (.Assign [.Name x pos'] e pos) (tAsg t (gName i)) (aSet i f) := ⟨ps_set hN hi hx h.pe hs hf, ss_asg h.sd sg_name⟩
/-- x += e -/
def aAug (i : Nat) (f : AE) (o : AO) : AS := fun A δ κ => match δ[i]? with
  | some (some a) => f δ κ fun b κ1 => o a b κ1 fun c κ2 => A.nx (δ.set i (some c)) κ2
  | _ => False
theorem sa_aug {i : Nat} {x : Str} {pos' : Pos} {op : Operator} {ti : TIp} {o : AO} (hN : X.N.Nodup) (hi : X.N[i]? = some x) (hx : Loc X.env.scope x) (h : PEa K X e t f) (ho : PIp X op ti) (hs : SR K ti o)
    (hf : X.fn x = true ∨ X.env.scope.names.lookup x = some .local := by first | exact .inl rfl | exact .inr rfl | assumption) : PSa K X (.AugAssign (.Name x pos') op e pos) (tAug i t ti) (aAug i f o) :=
  ⟨ps_aug hN hi hx h.pe ho hf, fun B ρ δ κ σ H A D s g l hh im => by
    unfold aAug at hh
    split at hh
    · rename_i a ea
      obtain ⟨v, ev, r⟩ := s.at' i a ea
      refine ⟨v, ev, h.sd B ρ δ κ σ H _ _ s g hh fun B1 ρ1 κ1 H1 b vb w1 g1 r1 h1 => ?_⟩
      refine hs _ _ _ _ _ _ _ _ _ _ g1 (r.up w1.g) r1 h1 fun B2 ρ2 κ2 H2 c vc w2 g2 r2 h2 => ?_
      exact im.nx _ _ _ _ _ _ (w1.trans w2).n g2 ((s.up (w1.trans w2).g).set r2) (Nat.le_trans l ((w1.trans w2).len g g2)) h2
    · exact hh.elim⟩
theorem sr_ipI {f : Int → Int → Int} : SR K (ipI f) (aI0 f) := sr_I0
theorem sa_inc {i : Nat} {x : Str} {pos' : Pos} (hN : X.N.Nodup) (hi : X.N[i]? = some x) (hx : Loc X.env.scope x) (h : PEa K X e t f)
    (hf : X.fn x = true ∨ X.env.scope.names.lookup x = some .local := by first | exact .inl rfl | exact .inr rfl | assumption) : PSa K X (.AugAssign (.Name x pos') .Add e pos) (tAug i t (ipI fun i j => i + j)) (aAug i f (aI0 fun i j => i + j)) := sa_aug hN hi hx h ip_add sr_ipI hf

/-! ### while -/
variable {t1 t2 : TS} {f1 g1 : AS} {tc : TT} {pc : AT}
def aWhile (p : AT) (f : AS) : AS := fun A δ κ => ∃ W : Nat → AD → AK → Prop, (∃ m, W m δ κ) ∧ ∀ m δ' κ', W m δ' κ' → κ.length ≤ κ'.length →
  p δ' κ' fun b κ1 => bsel b (∃ N : AD → AK → Prop, (∀ δ2 κ2, N δ2 κ2 → ∃ m', m' < m ∧ W m' δ2 κ2) ∧ f { n := κ.length, nx := N, ct := N, bk := A.nx, rt := A.rt } δ' κ1) (A.nx δ' κ1)
/-- a later state, seen from the loop's start -/
def Later (K : Frg) (B : Hp) (ρ : List Addr) (H : Hp) (n : Nat) (P : AD → AK → Prop) (σ : L2.St) (H' : Hp) : Prop := ∃ B' ρ' δ' κ', UpN n B ρ H B' ρ' H' ∧ S K B' ρ' δ' σ ∧ G K B' ρ' κ' H' ∧ n ≤ κ'.length ∧ P δ' κ'
theorem sa_while {c : Expr} {body : List Stmt} (hp : PassesOwn (model X.prog X.w) X.A X.env X.xe) (hc : PTa K X c tc pc) (hb : PSsa K X body t1 f1) : PSa K X (.While c body [] pos) (tWhile tc t1) (aWhile pc f1) :=
  ⟨ps_while hp hc.pt hb.ps, fun B ρ δ κ σ H A D s g l ⟨W, ⟨m0, w0⟩, turn⟩ im => by
    refine ⟨fun m σ' H' => Later K B ρ H κ.length (W m) σ' H', ⟨m0, B, ρ, δ, κ, UpN.refl, s, g, Nat.le_refl _, w0⟩, fun m σ' H' hW => ?_⟩
    obtain ⟨B1, ρ1, δ1, κ1, w1, s1, g1, l1, hw⟩ := hW
    refine hc.sd B1 ρ1 δ1 κ1 σ' H' _ _ s1 g1 (turn m δ1 κ1 hw l1) fun B2 ρ2 κ2 H2 b w2 g2 h2 => ?_
    have l2 : κ.length ≤ κ2.length := Nat.le_trans l1 (w2.len g1 g2)
    have w12 : UpN κ.length B ρ H B2 ρ2 H2 := w1.trans w2.n
    have im2 := im.later (w12.mono l)
    cases b with
    | false => exact iteF (im.nx _ _ _ _ _ _ (w12.mono l) g2 (s1.up w2.g) (Nat.le_trans l l2) h2)
    | true =>
      obtain ⟨N, hN, h2⟩ := h2
      refine iteT ⟨fun σ3 H3 => Later K B ρ H κ.length N σ3 H3, ?_, ?_⟩
      · rintro σ3 H3 ⟨B3, ρ3, δ3, κ3, w3, s3, g3, l3, hn⟩
        obtain ⟨m', hm, hw'⟩ := hN _ _ hn
        exact ⟨m', hm, B3, ρ3, δ3, κ3, w3, s3, g3, l3, hw'⟩
      · refine hb.sd B2 ρ2 δ1 κ2 σ' H2 _ _ (s1.up w2.g) g2 l2 h2 ⟨?_, ?_, ?_, ?_, Nat.le_trans im.kn l⟩
        · exact fun B3 ρ3 κ3 H3 δ3 σ3 w3 g3 s3 l3 h3 => ⟨B3, ρ3, δ3, κ3, w12.trans w3, s3, g3, l3, h3⟩
        · exact fun B3 ρ3 κ3 H3 a v w3 g3 r3 l3 h3 => im.rt _ _ _ _ _ _ ((w12.trans w3).mono l) g3 r3 (Nat.le_trans l l3) h3
        · exact fun B3 ρ3 κ3 H3 δ3 σ3 w3 g3 s3 l3 h3 => im.nx _ _ _ _ _ _ ((w12.trans w3).mono l) g3 s3 (Nat.le_trans l l3) h3
        · exact fun B3 ρ3 κ3 H3 δ3 σ3 w3 g3 s3 l3 h3 => ⟨B3, ρ3, δ3, κ3, w12.trans w3, s3, g3, l3, h3⟩⟩

/-! ### what is walked -/
structure AIt where
  go : Nat → AK → Prop
  yld : Nat → AK → AV → Prop
  stop : Nat → AK → Prop
def RI (K : Frg) (B : Hp) (ρ : List Addr) (H : Hp) (J : It) (Ja : AIt) : Prop := ∀ B2 ρ2 κ2 H2, Up B ρ H B2 ρ2 H2 → G K B2 ρ2 κ2 H2 → ∀ i, (Ja.stop i κ2 → J.stop i H2) ∧
  (Ja.go i κ2 → J.go i H2 ∧ ∀ x H3, J.yld i H2 x H3 → ∃ B3 a, Up B2 ρ2 H2 B3 ρ2 H3 ∧ G K B3 ρ2 κ2 H3 ∧ Rep K B3 ρ2 a x ∧ Ja.yld i κ2 a)
abbrev AI := AD → AK → (AIt → AK → Prop) → Prop
def SI (K : Frg) (wi : TI) (ai : AI) : Prop := ∀ B ρ δ κ σ H (R : AIt → AK → Prop) (Q : It → Hp → Prop), S K B ρ δ σ → G K B ρ κ H → ai δ κ R →
  (∀ B' ρ' κ' H' J Ja, Up B ρ H B' ρ' H' → G K B' ρ' κ' H' → RI K B' ρ' H' J Ja → R Ja κ' → Q J H') → wi σ H Q
structure PIa (K : Frg) (X : Cx) (tg iter : Expr) (wi : TI) (ai : AI) : Prop where
  pi : PI X tg iter wi
  sd : SI K wi ai
/-- known items -/
def itD (xs : List PyData) : AIt := ⟨fun i _ => i < xs.length, fun i _ a => ∃ x, xs[i]? = some x ∧ a = .d x, fun i _ => xs.length ≤ i⟩
/-- the list at k, as it stands at each turn -/
def itC (k : Nat) : AIt := ⟨fun i κ => ∃ xs, κ[k]? = some (.ld xs) ∧ i < xs.length, fun i κ a => ∃ xs x, κ[k]? = some (.ld xs) ∧ xs[i]? = some x ∧ a = .d x, fun i κ => ∃ xs, κ[k]? = some (.ld xs) ∧ xs.length ≤ i⟩
def itR (lo : Int) (n : Nat) : AIt := ⟨fun i _ => i < n, fun i _ a => a = .d (.int (lo + i)), fun i _ => n ≤ i⟩
def itS (s : Str) : AIt := ⟨fun i _ => i < s.cps.size, fun i _ a => ∃ c, s.cps[i]? = some c ∧ a = .d (.str ⟨#[c]⟩), fun i _ => s.cps.size ≤ i⟩
def aIter (f : AE) : AI := fun δ κ R => f δ κ fun a κ1 => match a with
  | .d (.list xs) => R (itD xs) κ1
  | .d (.tuple xs) => R (itD xs) κ1
  | .d (.str s) => R (itS s) κ1
  | .c k => match κ1[k]? with
    | some (.ld _) => R (itC k) κ1
    | _ => False
  | _ => False
/-- a list, a tuple, a text: told by the value -/
def iAny (K : PySem.W.Frag) (tl : TE) : TI := fun σ H R => tl σ H fun w H1 =>
  (∃ a, w = .ref a ∧ (∃ ys, SqL K H1 a ys) ∧ R (Itl K a) H1) ∨ (∃ a, w = .ref a ∧ (∃ ys, SqT K H1 a ys) ∧ R (Itt K a) H1) ∨ ∃ z, w = .str z ∧ R (Its z) H1
theorem fresh_in {X : Cx} {pins : List (Addr × Obj)} {τ : L2.St} {H1 : Hp} {s1 : Shared} (I1 : Inv X pins τ H1 s1) {b : Addr} (hb : b ∈ [s1.heap.objs.size]) : FpOk X pins H1 b := by
  rcases List.mem_singleton.mp hb with rfl
  exact I1.fpOk Nat.le.refl (I1.hok.fresh Nat.le.refl)
theorem pi_any {X : Cx} {tge l : Expr} {tl : TE} (hl : PE X l tl) : PI X tge l (iAny X.K tl) := by
  constructor
  intro pins s τ H R I hw
  refine thn (hl.run pins s τ H _ I hw) ?_
  rintro u s1 ⟨w, H1, I1, ru, hq⟩
  rcases hq with ⟨a, rfl, ⟨ys, hy⟩, q⟩ | ⟨a, rfl, ⟨ys, hy⟩, q⟩ | ⟨z, rfl, q⟩
  · cases ru
    have ⟨its, _, pl, _⟩ := I1.list hy
    exact wpAny_pyIter_list pl.isList ⟨_, [s1.heap.objs.size], _, _, _, rfl, I1.kept fun _ _ => Heap.get?_push_of_some _, turn_list a _, ⟨_, Heap.get?_push_size _ rfl, rfl, rfl⟩, fun _ => fresh_in I1, q⟩
  · cases ru
    have ⟨its, _, pt, _⟩ := I1.tuple hy
    exact wpAny_pyIter_tuple pt ⟨_, [s1.heap.objs.size], _, _, _, rfl, I1.kept fun _ _ => Heap.get?_push_of_some _, turn_tuple a _, ⟨_, Heap.get?_push_size _ rfl, rfl, rfl⟩, fun _ => fresh_in I1, q⟩
  · obtain ⟨tk, rfl⟩ := ru
    by_cases hz : z.cps.all (· < 128) = true
    · exact wpAny_pyIter_ascii hz (pi_one (tk := s1.toks) I1 _ (turn_str _ z tk "str_ascii_iterator" (Or.inl rfl)) ⟨_, Heap.get?_push_size _ rfl, rfl, rfl⟩ q)
    · have hz' : z.cps.all (· < 128) = false := by simpa using hz
      exact wpAny_pyIter_wide hz' (pi_one (tk := s1.toks) I1 _ (turn_str _ z tk "str_iterator" (Or.inr rfl)) ⟨_, Heap.get?_push_size _ rfl, rfl, rfl⟩ q)
theorem getLt {α : Type} {l : List α} {i : Nat} (h : i < l.length) : l[i]? = some l[i] := List.getElem?_eq_getElem h
theorem ri_list {xs : List PyData} {p : Addr} {vs : List V} (hs : SqL K B p vs) (d : DpAll K B vs xs) : RI K B ρ H (Itl K p) (itD xs) := by
  intro B2 ρ2 κ2 H2 w2 g2 i
  have hs2 : SqL K H2 p vs := g2.ex.seq (w2.s.seq hs)
  have hl := dpa_len d
  refine ⟨fun h => ⟨vs, hs2, by rw [hl]; exact h⟩, fun h => ?_⟩
  obtain ⟨w, hw, r⟩ := dpa_get d (getLt h)
  refine ⟨⟨vs, w, hs2, hw⟩, fun x H3 hy => ?_⟩
  obtain ⟨rfl, f⟩ := hy
  have e := (f vs hs2).symm.trans hw
  cases e
  exact ⟨B2, .d _, Up.refl, g2, dp_up w2.s _ _ r, _, getLt h, rfl⟩
theorem ri_tup {xs : List PyData} {p : Addr} {vs : List V} (hs : SqT K B p vs) (d : DpAll K B vs xs) : RI K B ρ H (Itt K p) (itD xs) := by
  intro B2 ρ2 κ2 H2 w2 g2 i
  have hs2 : SqT K H2 p vs := sqt_up g2.ex (sqt_up w2.s hs)
  have hl := dpa_len d
  refine ⟨fun h => ⟨vs, hs2, by rw [hl]; exact h⟩, fun h => ?_⟩
  obtain ⟨w, hw, r⟩ := dpa_get d (getLt h)
  refine ⟨⟨vs, w, hs2, hw⟩, fun x H3 hy => ?_⟩
  obtain ⟨rfl, f⟩ := hy
  have e := (f vs hs2).symm.trans hw
  cases e
  exact ⟨B2, .d _, Up.refl, g2, dp_up w2.s _ _ r, _, getLt h, rfl⟩
theorem ri_str {s : Str} : RI K B ρ H (Its s) (itS s) := by
  intro B2 ρ2 κ2 H2 w2 g2 i
  refine ⟨fun h => h, fun h => ⟨h, fun x H3 hy => ?_⟩⟩
  obtain ⟨rfl, c, hc, rfl⟩ := hy
  exact ⟨B2, .d (.str ⟨#[c]⟩), Up.refl, g2, rp_str _, c, hc, rfl⟩
theorem ri_cell {p : Addr} (hp : ρ[k]? = some p) : RI K B ρ H (Itl K p) (itC k) := by
  intro B2 ρ2 κ2 H2 w2 g2 i
  have hp2 := w2.p _ _ hp
  refine ⟨fun h => ?_, fun h => ?_⟩
  · obtain ⟨xs, ek, hi⟩ := h
    obtain ⟨vs, r, eH, _⟩ := g2.ldAt hp2 ek
    exact ⟨vs, .inl (.inl eH), by rw [dpa_len r]; exact hi⟩
  · obtain ⟨xs, ek, hi⟩ := h
    obtain ⟨vs, r, eH, _⟩ := g2.ldAt hp2 ek
    obtain ⟨w, hw, rw'⟩ := dpa_get r (getLt hi)
    have hs2 : SqL K H2 p vs := .inl (.inl eH)
    refine ⟨⟨vs, w, hs2, hw⟩, fun x H3 hy => ?_⟩
    obtain ⟨rfl, f⟩ := hy
    have e := (f vs hs2).symm.trans hw
    cases e
    exact ⟨B2, .d _, Up.refl, g2, rw', xs, _, ek, getLt hi, rfl⟩
theorem ri_rng {lo : Int} {n : Nat} : RI K B ρ H (Itr lo n) (itR lo n) := by
  intro B2 ρ2 κ2 H2 w2 g2 i
  refine ⟨fun h => h, fun h => ⟨h, fun x H3 hy => ?_⟩⟩
  obtain ⟨rfl, rfl⟩ := hy
  exact ⟨B2, .d (.int (lo + i)), Up.refl, g2, rp_int _, rfl⟩
theorem ia_any {tge : Expr} (h : PEa K X e t f) (hK : X.K = K := by rfl) : PIa K X tge e (iAny K t) (aIter f) := by
  obtain ⟨K, Kn, KZ, Ku⟩ := K
  change X.K = K at hK
  subst hK
  exact ⟨pi_any h.pe, fun B ρ δ κ σ H R Q s g hh q => h.sd _ _ _ _ _ _ _ _ s g hh fun B1 ρ1 κ1 H1 a v w1 g1 r1 h1 => by
  split at h1
  · obtain ⟨p, vs, rfl, s1, d1⟩ := r1.list
    exact .inl ⟨p, rfl, ⟨vs, g1.ex.seq s1⟩, q _ _ _ _ _ _ w1 g1 (ri_list s1 d1) h1⟩
  · obtain ⟨p, vs, rfl, s1, d1⟩ := r1.tuple
    exact .inr (.inl ⟨p, rfl, ⟨vs, sqt_up g1.ex s1⟩, q _ _ _ _ _ _ w1 g1 (ri_tup s1 d1) h1⟩)
  · exact .inr (.inr ⟨_, r1.str, q _ _ _ _ _ _ w1 g1 ri_str h1⟩)
  · obtain ⟨p, hp, rfl⟩ := r1
    split at h1
    · rename_i xs ek
      obtain ⟨vs, r, eH, _⟩ := g1.ldAt hp ek
      exact .inl ⟨p, rfl, ⟨vs, .inl (.inl eH)⟩, q _ _ _ _ _ _ w1 g1 (ri_cell hp) h1⟩
    · exact h1.elim
  · exact h1.elim⟩
variable {ta : TA} {fa : AA}
def aRng1 (fa : AA) : AI := fun δ κ R => fa δ κ fun as κ1 => match as with
  | [.d (.int j)] => -(2 ^ 62) ≤ j ∧ j < 2 ^ 62 ∧ R (itR 0 j.toNat) κ1
  | _ => False
def aRng2 (fa : AA) : AI := fun δ κ R => fa δ κ fun as κ1 => match as with
  | [.d (.int i), .d (.int j)] => (-(2 ^ 62) ≤ i ∧ i < 2 ^ 62 ∧ -(2 ^ 62) ≤ j ∧ j < 2 ^ 62) ∧ R (itR i (j - i).toNat) κ1
  | _ => False
theorem ia_rng1 {tge a : Expr} {q pos : Pos} (hg : Gl X "range") (hm : X.mg "range" = none) (ha : PAa K X [a] ta fa) (hs : starEach [a] X.env = [(false, eval a X.env)] := by rfl) : PIa K X tge (.Call (.Name "range" q) [a] [] pos) (iRng1 ta) (aRng1 fa) :=
  ⟨pi_range1 hg hm ha.pa hs, fun B ρ δ κ σ H R Q s g hh q => ha.sd _ _ _ _ _ _ _ _ s g hh fun B1 ρ1 κ1 H1 as vs w1 g1 r1 h1 => by
    split at h1
    · obtain ⟨x, rfl, r⟩ := reps1 r1
      exact ⟨_, by rw [r.int], h1.1, h1.2.1, q _ _ _ _ _ _ w1 g1 ri_rng h1.2.2⟩
    · exact h1.elim⟩
theorem ia_rng2 {tge a b : Expr} {q pos : Pos} (hg : Gl X "range") (hm : X.mg "range" = none) (ha : PAa K X [a, b] ta fa) (hs : starEach [a, b] X.env = [(false, eval a X.env), (false, eval b X.env)] := by rfl) (hs2 : starEach [b] X.env = [(false, eval b X.env)] := by rfl) :
    PIa K X tge (.Call (.Name "range" q) [a, b] [] pos) (iRng2 ta) (aRng2 fa) :=
  ⟨pi_range2 hg hm ha.pa hs hs2, fun B ρ δ κ σ H R Q s g hh q => ha.sd _ _ _ _ _ _ _ _ s g hh fun B1 ρ1 κ1 H1 as vs w1 g1 r1 h1 => by
    split at h1
    · obtain ⟨x, y, rfl, rx, ry⟩ := reps2 r1
      exact ⟨_, _, by rw [rx.int, ry.int], h1.1, q _ _ _ _ _ _ w1 g1 ri_rng h1.2⟩
    · exact h1.elim⟩

/-! ### for -/
def aFor (ai : AI) (ag : AG) (f : AS) : AS := fun A δ κ => ai δ κ fun J κ1 => ∃ W : Nat → Nat → AD → AK → Prop, (∃ m, W 0 m δ κ1) ∧ ∀ i m δ' κ', W i m δ' κ' → κ1.length ≤ κ'.length →
  (J.stop i κ' ∧ A.nx δ' κ') ∨ (J.go i κ' ∧ ∃ N : AD → AK → Prop, (∀ δ3 κ3, N δ3 κ3 → ∃ m', m' < m ∧ W (i + 1) m' δ3 κ3) ∧ ∀ a, J.yld i κ' a → ag a δ' κ' fun δ2 κ2 => f { n := κ1.length, nx := N, ct := N, bk := A.nx, rt := A.rt } δ2 κ2)
theorem sa_for {iter tge : Expr} {body : List Stmt} {wi : TI} {ai : AI} (hp : PassesOwn (model X.prog X.w) X.A X.env X.xe) (hc : X.calm = true) (hi : PIa K X tge iter wi ai) (hg : PGa K X tge tg ag) (hb : PSsa K X body t1 f1)
    (hs : ∀ x, foldedSetIterable iter X.env x = pure x := by intro _; rfl) : PSa K X (.For tge iter body [] pos) (tFor wi tg t1) (aFor ai ag f1) :=
  ⟨ps_for hp hc hi.pi hg.pg hb.ps hs, fun B ρ δ κ σ H A D s g l hh im => hi.sd B ρ δ κ σ H _ _ s g hh fun B1 ρ1 κ1 H1 J Ja w1 g1 ri ⟨W, ⟨m0, w0⟩, turn⟩ => by
    have l1 : A.n ≤ κ1.length := Nat.le_trans l (w1.len g g1)
    have im1 := im.later w1.n
    refine ⟨fun i m σ' H' => Later K B1 ρ1 H1 κ1.length (W i m) σ' H', ⟨m0, B1, ρ1, δ, κ1, UpN.refl, s.up w1.g, g1, Nat.le_refl _, w0⟩, fun i m σ' H' hW => ?_⟩
    obtain ⟨B2, ρ2, δ2, κ2, w2, s2, g2, l2, hw⟩ := hW
    have full : Up B1 ρ1 H1 B2 ρ2 H' := w2.full (by rw [g1.len]; exact Nat.le_refl _)
    have r := ri B2 ρ2 κ2 H' full g2 i
    rcases turn i m δ2 κ2 hw l2 with ⟨h1, h2⟩ | ⟨h1, N, hN, h2⟩
    · exact .inl ⟨r.1 h1, im1.nx _ _ _ _ _ _ (w2.mono l1) g2 s2 (Nat.le_trans l1 l2) h2⟩
    · obtain ⟨hgo, hy⟩ := r.2 h1
      refine .inr ⟨hgo, fun σ3 H3 => Later K B1 ρ1 H1 κ1.length N σ3 H3, ?_, fun x H3 hx => ?_⟩
      · rintro σ3 H3 ⟨B3, ρ3, δ3, κ3, w3, s3, g3, l3, hn⟩
        obtain ⟨m', hm, hw'⟩ := hN _ _ hn
        exact ⟨m', hm, B3, ρ3, δ3, κ3, w3, s3, g3, l3, hw'⟩
      · obtain ⟨B3, a, w3, g3, ra, ya⟩ := hy x H3 hx
        refine hg.sd _ _ _ _ _ _ _ _ _ _ (s2.up w3.g) g3 ra (h2 a ya) fun B4 ρ4 δ4 κ4 σ4 H4 w4 s4 g4 h4 => ?_
        have wa : UpN κ1.length B1 ρ1 H1 B4 ρ4 H4 := w2.trans (w3.trans w4).n
        refine hb.sd _ _ _ _ _ _ _ _ s4 g4 (Nat.le_trans l2 (w4.len g3 g4)) h4 ⟨?_, ?_, ?_, ?_, Nat.le_trans im.kn l1⟩
        · exact fun B5 ρ5 κ5 H5 δ5 σ5 w5 g5 s5 l5 h5 => ⟨B5, ρ5, δ5, κ5, wa.trans w5, s5, g5, l5, h5⟩
        · exact fun B5 ρ5 κ5 H5 a v w5 g5 r5 l5 h5 => im1.rt _ _ _ _ _ _ ((wa.trans w5).mono l1) g5 r5 (Nat.le_trans l1 l5) h5
        · exact fun B5 ρ5 κ5 H5 δ5 σ5 w5 g5 s5 l5 h5 => im1.nx _ _ _ _ _ _ ((wa.trans w5).mono l1) g5 s5 (Nat.le_trans l1 l5) h5
        · exact fun B5 ρ5 κ5 H5 δ5 σ5 w5 g5 s5 l5 h5 => ⟨B5, ρ5, δ5, κ5, wa.trans w5, s5, g5, l5, h5⟩⟩
/-! helpers for loops: over known items, over a range, over a text, over the cell at k -/
abbrev ForW (J : AIt) (ag : AG) (f : AS) (A : AEnds) (n : Nat) (δ : AD) (κ1 : AK) : Prop := ∃ W : Nat → Nat → AD → AK → Prop, (∃ m, W 0 m δ κ1) ∧ ∀ i m δ' κ', W i m δ' κ' → n ≤ κ'.length →
  (J.stop i κ' ∧ A.nx δ' κ') ∨ (J.go i κ' ∧ ∃ N : AD → AK → Prop, (∀ δ3 κ3, N δ3 κ3 → ∃ m', m' < m ∧ W (i + 1) m' δ3 κ3) ∧ ∀ a, J.yld i κ' a → ag a δ' κ' fun δ2 κ2 => f { n := n, nx := N, ct := N, bk := A.nx, rt := A.rt } δ2 κ2)
variable {ag : AG} {f : AS} {A : AEnds} {n : Nat} {κ1 : AK}
theorem for_d {xs : List PyData} (Pv : Nat → AD → AK → Prop) (h0 : Pv 0 δ κ1) (hd : ∀ δ' κ', Pv xs.length δ' κ' → n ≤ κ'.length → A.nx δ' κ')
    (hs : ∀ i x δ' κ', xs[i]? = some x → Pv i δ' κ' → n ≤ κ'.length → ag (.d x) δ' κ' fun δ2 κ2 => f { n := n, nx := Pv (i + 1), ct := Pv (i + 1), bk := A.nx, rt := A.rt } δ2 κ2) : ForW (itD xs) ag f A n δ κ1 := by
  refine ⟨fun i m δ' κ' => m = xs.length - i ∧ i ≤ xs.length ∧ Pv i δ' κ', ⟨_, rfl, Nat.zero_le _, h0⟩, ?_⟩
  rintro i m δ' κ' ⟨rfl, hi, p⟩ ln
  by_cases hlt : i < xs.length
  · refine .inr ⟨hlt, Pv (i + 1), fun _ _ q => ⟨xs.length - (i + 1), by omega, rfl, hlt, q⟩, ?_⟩
    rintro a ⟨x, hx, rfl⟩
    exact hs i x δ' κ' hx p ln
  · have e : i = xs.length := by omega
    subst e
    exact .inl ⟨Nat.le_refl _, hd _ _ p ln⟩
theorem for_r {lo : Int} {N : Nat} (Pv : Nat → AD → AK → Prop) (h0 : Pv 0 δ κ1) (hd : ∀ δ' κ', Pv N δ' κ' → n ≤ κ'.length → A.nx δ' κ')
    (hs : ∀ i δ' κ', i < N → Pv i δ' κ' → n ≤ κ'.length → ag (.d (.int (lo + i))) δ' κ' fun δ2 κ2 => f { n := n, nx := Pv (i + 1), ct := Pv (i + 1), bk := A.nx, rt := A.rt } δ2 κ2) : ForW (itR lo N) ag f A n δ κ1 := by
  refine ⟨fun i m δ' κ' => m = N - i ∧ i ≤ N ∧ Pv i δ' κ', ⟨_, rfl, Nat.zero_le _, h0⟩, ?_⟩
  rintro i m δ' κ' ⟨rfl, hi, p⟩ ln
  by_cases hlt : i < N
  · refine .inr ⟨hlt, Pv (i + 1), fun _ _ q => ⟨N - (i + 1), by omega, rfl, hlt, q⟩, ?_⟩
    rintro a rfl
    exact hs i δ' κ' hlt p ln
  · have e : i = N := by omega
    subst e
    exact .inl ⟨Nat.le_refl _, hd _ _ p ln⟩
theorem for_s {s : Str} (Pv : Nat → AD → AK → Prop) (h0 : Pv 0 δ κ1) (hd : ∀ δ' κ', Pv s.cps.size δ' κ' → n ≤ κ'.length → A.nx δ' κ')
    (hs : ∀ (i : Nat) (c : Nat) δ' κ', s.cps[i]? = some c → Pv i δ' κ' → n ≤ κ'.length → ag (.d (.str ⟨#[c]⟩)) δ' κ' fun δ2 κ2 => f { n := n, nx := Pv (i + 1), ct := Pv (i + 1), bk := A.nx, rt := A.rt } δ2 κ2) : ForW (itS s) ag f A n δ κ1 := by
  refine ⟨fun i m δ' κ' => m = s.cps.size - i ∧ i ≤ s.cps.size ∧ Pv i δ' κ', ⟨_, rfl, Nat.zero_le _, h0⟩, ?_⟩
  rintro i m δ' κ' ⟨rfl, hi, p⟩ ln
  by_cases hlt : i < s.cps.size
  · refine .inr ⟨hlt, Pv (i + 1), fun _ _ q => ⟨s.cps.size - (i + 1), by omega, rfl, hlt, q⟩, ?_⟩
    rintro a ⟨c, hc, rfl⟩
    exact hs i c δ' κ' hc p ln
  · have e : i = s.cps.size := by omega
    subst e
    exact .inl ⟨Nat.le_refl _, hd _ _ p ln⟩
/-- the list at k stays as it is while it is walked -/
theorem for_c {k : Nat} {xs : List PyData} (Pv : Nat → AD → AK → Prop) (h0 : Pv 0 δ κ1) (hk : ∀ i δ' κ', Pv i δ' κ' → κ'[k]? = some (.ld xs)) (hd : ∀ δ' κ', Pv xs.length δ' κ' → n ≤ κ'.length → A.nx δ' κ')
    (hs : ∀ i x δ' κ', xs[i]? = some x → Pv i δ' κ' → n ≤ κ'.length → ag (.d x) δ' κ' fun δ2 κ2 => f { n := n, nx := Pv (i + 1), ct := Pv (i + 1), bk := A.nx, rt := A.rt } δ2 κ2) : ForW (itC k) ag f A n δ κ1 := by
  refine ⟨fun i m δ' κ' => m = xs.length - i ∧ i ≤ xs.length ∧ Pv i δ' κ', ⟨_, rfl, Nat.zero_le _, h0⟩, ?_⟩
  rintro i m δ' κ' ⟨rfl, hi, p⟩ ln
  by_cases hlt : i < xs.length
  · refine .inr ⟨⟨xs, hk _ _ _ p, hlt⟩, Pv (i + 1), fun _ _ q => ⟨xs.length - (i + 1), by omega, rfl, hlt, q⟩, ?_⟩
    rintro a ⟨ys, x, hy, hx, rfl⟩
    rw [hk _ _ _ p] at hy; cases hy
    exact hs i x δ' κ' hx p ln
  · have e : i = xs.length := by omega
    subst e
    exact .inl ⟨⟨xs, hk _ _ _ p, Nat.le_refl _⟩, hd _ _ p ln⟩
/-- while by a measure -/
theorem while_m {p : AT} {f : AS} {A : AEnds} (Pv : AD → AK → Prop) (μ : AD → AK → Nat) (h0 : Pv δ κ)
    (hs : ∀ δ' κ', Pv δ' κ' → κ.length ≤ κ'.length → p δ' κ' fun b κ1 => bsel b (f { n := κ.length, nx := fun δ2 κ2 => Pv δ2 κ2 ∧ μ δ2 κ2 < μ δ' κ', ct := fun δ2 κ2 => Pv δ2 κ2 ∧ μ δ2 κ2 < μ δ' κ', bk := A.nx, rt := A.rt } δ' κ1) (A.nx δ' κ1))
    (mono : ∀ δ' κ' (Q Q' : Bool → AK → Prop), (∀ b κ1, Q b κ1 → Q' b κ1) → p δ' κ' Q → p δ' κ' Q') : aWhile p f A δ κ := by
  refine ⟨fun m δ' κ' => m = μ δ' κ' ∧ Pv δ' κ', ⟨_, rfl, h0⟩, ?_⟩
  rintro m δ' κ' ⟨rfl, hp⟩ l
  refine mono δ' κ' _ _ (fun b κ1 q => ?_) (hs δ' κ' hp l)
  cases b with
  | true => exact ⟨_, fun δ2 κ2 h => ⟨_, h.2, rfl, h.1⟩, q⟩
  | false => exact q
end Ab
set_option Elab.async false
set_option linter.all false
set_option maxRecDepth 100000
set_option maxHeartbeats 4000000
/-! Ab6: list comprehensions; defs, their promises, their calls -/
namespace Ab
open PySem L2
open PyProof.Rows (envOfC)
variable {K : Frg} {B B' B2 H H' H2 : Hp} {ρ ρ' ρ2 : List Addr} {κ κ' : AK} {δ : AD} {σ : L2.St} {p : Addr} {k : Nat} {v x y z : V} {a b c : AV}
variable {X : Cx} {e e2 : Expr} {t u : TE} {f f2 : AE} {pos : Pos}

def wipeA (δ : AD) : List Nat → AD
  | [] => δ
  | v :: vs => (wipeA δ vs).set v none
theorem S.wipe (s : S K B ρ δ σ) : ∀ vs : List Nat, S K B ρ (wipeA δ vs) (L2.wipe σ vs)
  | [] => s
  | v :: vs => (S.wipe s vs).clr
theorem wipe_get (σ : L2.St) (i : Nat) : ∀ vs : List Nat, (L2.wipe σ vs)[i]? = if i ∈ vs then σ[i]?.map fun _ => none else σ[i]?
  | [] => by simp [L2.wipe]
  | v :: vs => by
    show ((L2.wipe σ vs).set v none)[i]? = _
    rw [List.getElem?_set, wipe_get σ i vs, wipe_length]
    by_cases h : v = i
    · subst h
      rw [if_pos rfl]
      by_cases hv : v < σ.length
      · rw [if_pos hv, if_pos (List.mem_cons_self ..), List.getElem?_eq_getElem hv]; rfl
      · rw [if_neg hv, if_pos (List.mem_cons_self ..), List.getElem?_eq_none (by omega)]; rfl
    · rw [if_neg h]
      have : (i ∈ v :: vs) = (i ∈ vs) := by
        apply propext
        rw [List.mem_cons]
        exact ⟨fun z => z.elim (fun w => absurd w.symm h) id, Or.inr⟩
      simp only [this]
theorem wipe_set {σ : L2.St} {vs : List Nat} {j : Nat} {w : Option V} (h : j ∈ vs) : L2.wipe (σ.set j w) vs = L2.wipe σ vs := by
  apply List.ext_getElem?
  intro i
  rw [wipe_get, wipe_get]
  by_cases hi : i ∈ vs
  · rw [if_pos hi, if_pos hi, List.getElem?_set]
    by_cases e : j = i
    · subst e
      rw [if_pos rfl]
      by_cases hl : j < σ.length
      · rw [if_pos hl, List.getElem?_eq_getElem hl]; rfl
      · rw [if_neg hl, List.getElem?_eq_none (by omega)]
    · rw [if_neg e]
  · rw [if_neg hi, if_neg hi, List.getElem?_set_ne (fun (e : j = i) => hi (e ▸ h))]
theorem wipe_wipe (σ : L2.St) (vs : List Nat) : L2.wipe (L2.wipe σ vs) vs = L2.wipe σ vs := by
  apply List.ext_getElem?
  intro i
  rw [wipe_get, wipe_get]
  by_cases hi : i ∈ vs
  · rw [if_pos hi, if_pos hi]
    cases σ[i]? <;> rfl
  · rw [if_neg hi, if_neg hi]
/-! targets within a comprehension: the own names alone -/
def SGw (K : Frg) (t : TG) (g : AG) (vs : List Nat) : Prop := ∀ B ρ δ κ σ H a v (R : AD → AK → Prop) (Q : L2.St → Hp → Prop), S K B ρ δ σ → G K B ρ κ H → Rep K B ρ a v → g a δ κ R →
  (∀ B' ρ' δ' κ' σ' H', Up B ρ H B' ρ' H' → S K B' ρ' δ' σ' → G K B' ρ' κ' H' → R δ' κ' → L2.wipe σ' vs = L2.wipe σ vs → Q σ' H') → t v σ H Q
def SGsw (K : Frg) (t : TGs) (g : AGs) (vs : List Nat) : Prop := ∀ B ρ δ κ σ H as ws (R : AD → AK → Prop) (Q : L2.St → Hp → Prop), S K B ρ δ σ → G K B ρ κ H → Reps K B ρ as ws → g as δ κ R →
  (∀ B' ρ' δ' κ' σ' H', Up B ρ H B' ρ' H' → S K B' ρ' δ' σ' → G K B' ρ' κ' H' → R δ' κ' → L2.wipe σ' vs = L2.wipe σ vs → Q σ' H') → t ws σ H Q
theorem sgw_name {i : Nat} {vs : List Nat} (h : i ∈ vs) : SGw K (gName i) (aName i) vs := fun B ρ δ κ σ H a v R Q s g r hh q => q _ _ _ _ _ _ Up.refl (s.set r) g hh (wipe_set h)
theorem sgsw_nil {vs : List Nat} : SGsw K gNil aGNil vs := fun B ρ δ κ σ H as ws R Q s g r h q => by
  unfold aGNil at h
  split at h
  · cases r; exact ⟨rfl, q _ _ _ _ _ _ Up.refl s g h rfl⟩
  · exact h.elim
theorem sgsw_cons {tg : TG} {tgs : TGs} {ag : AG} {ags : AGs} {vs : List Nat} (h1 : SGw K tg ag vs) (h2 : SGsw K tgs ags vs) : SGsw K (gCons tg tgs) (aGCons ag ags) vs := fun B ρ δ κ σ H as ws R Q s g r h q => by
  unfold aGCons at h
  split at h
  · cases r with
    | cons r1 r2 =>
      exact ⟨_, _, rfl, h1 _ _ _ _ _ _ _ _ _ _ s g r1 h fun B' ρ' δ' κ' σ' H' w s' g' h' e1 => h2 _ _ _ _ _ _ _ _ _ _ s' g' (Reps.up w.g r2) h' fun _ _ _ _ _ _ w2 s2 g2 k2 e2 => q _ _ _ _ _ _ (w.trans w2) s2 g2 k2 (e2.trans e1)⟩
  · exact h.elim
theorem sgw_tup {tgs : TGs} {ags : AGs} {vs : List Nat} {n : Nat} (h : SGsw K tgs ags vs) : SGw K (gTup K n tgs) (aGTup n ags) vs := fun B ρ δ κ σ H a v R Q s g r hh q => by
  unfold aGTup at hh
  split at hh
  · obtain ⟨p, vs, rfl, s1, d1⟩ := of_tupG g r
    exact ⟨p, vs, rfl, s1, by rw [dpa_len d1]; exact hh.1, h _ _ _ _ _ _ _ _ _ _ s g (Reps.all d1) hh.2 q⟩
  · obtain ⟨p, hp, rfl⟩ := r
    split at hh
    · rename_i xs ek
      obtain ⟨p', hp', vs, r, eH⟩ := g.cell ek
      rw [hp] at hp'; cases hp'
      exact ⟨p, vs, rfl, .inl (.inl eH), by rw [← r.len]; exact hh.1, h _ _ _ _ _ _ _ _ _ _ s g r hh.2 q⟩
    · exact hh.elim
  · exact hh.elim
structure PTsa (K : Frg) (X : Cx) (ifs : List Expr) (t : TT) (f : AT) : Prop where
  pt : PTs X ifs t
  sd : ST K t f
def aYes : AT := fun _ κ R => R true κ
theorem tsa_nil : PTsa K X [] tYes aYes := ⟨pts_nil, fun B ρ δ κ σ H R Q s g h q => q _ _ _ _ _ Up.refl g h⟩
theorem tsa_one {tc : TT} {pc : AT} (h : PTa K X e tc pc) : PTsa K X [e] tc pc := ⟨pts_one h.pt, h.sd⟩
/-- [elt for target in iter if ..], its items data: a list that never changes -/
def LcWd (J : AIt) (ag : AG) (p : AT) (f : AE) (vs : List Nat) (δ : AD) (κ1 : AK) (R : AR) : Prop := ∃ W : Nat → Nat → List PyData → AK → Prop, (∃ m, W 0 m [] κ1) ∧ ∀ i m acc κ', W i m acc κ' →
  (J.stop i κ' ∧ R (.d (.list acc)) κ') ∨ (J.go i κ' ∧ ∃ N : List PyData → AK → Prop, (∀ acc2 κ2, N acc2 κ2 → ∃ m', m' < m ∧ W (i + 1) m' acc2 κ2) ∧ ∀ a, J.yld i κ' a → ag a (wipeA δ vs) κ' fun δ2 κ2 => p δ2 κ2 fun b κ3 =>
    bsel b (f δ2 κ3 fun y κ4 => ∃ d, y = .d d ∧ acc.length < sizeLine ∧ N (acc ++ [d]) κ4) (N acc κ3))
@[irreducible] def LcW (J : AIt) (ag : AG) (p : AT) (f : AE) (vs : List Nat) (δ : AD) (κ1 : AK) (R : AR) : Prop := LcWd J ag p f vs δ κ1 R
theorem lcw {J : AIt} {ag : AG} {p : AT} {f : AE} {vs : List Nat} {δ : AD} {κ1 : AK} {R : AR} : LcW J ag p f vs δ κ1 R ↔ LcWd J ag p f vs δ κ1 R := by
  unfold LcW; exact Iff.rfl
def aLc (ai : AI) (ag : AG) (p : AT) (f : AE) (vs : List Nat) : AE := fun δ κ R => ai δ κ fun J κ1 => LcW J ag p f vs δ κ1 R
theorem Up.off {D : Addr} {o : HO} (w : Up B ρ H B' ρ' H') (hD : H D = none) : Up B ρ H B' ρ' (upd H' D o) := ⟨w.s, w.p, fun p x h1 h2 h3 => by
  have hp := ne_of_none h1 hD
  rw [upd_ne hp]; exact w.f p x h1 h2 h3⟩
theorem Up.newR {D : Addr} (w : Up B ρ H B' ρ' H') (hD : H D = none) : Up B ρ H B' (ρ' ++ [D]) H' := ⟨w.s, fun i a h => get_app (w.p i a h), fun p o z1 z2 z3 => by
  obtain ⟨y1, y2, y3⟩ := w.f p o z1 z2 z3
  refine ⟨y1, y2, fun z => ?_⟩
  rcases List.mem_append.mp z with z | z
  · exact y3 z
  · exact ne_of_none z1 hD (by simpa using z)⟩
theorem G.off (g : G K B ρ κ H) {D : Addr} {o : HO} (hb : B D = none) (hr : D ∉ ρ) (hz : K.Z B ρ (upd H D o)) : G K B ρ κ (upd H D o) := by
  refine ⟨fun b x e => ?_, g.len, g.inj, fun i q c h1 h2 => ?_, hz⟩
  · rw [upd_ne (ne_of_none e hb)]; exact g.ex b x e
  · have hq : q ≠ D := fun z => hr (z ▸ mem_of_get h1)
    exact (g.at' i q c h1 h2).up Ug.refl Or.inl fun o' e => by rw [upd_ne hq]; exact e
theorem se_lc {wi : TI} {ai : AI} {tg : TG} {ag : AG} {tt : TT} {pt : AT} {vs : List Nat} (hi : SI K wi ai) (hg : SGw K tg ag vs) (ht : ST K tt pt) (he : SE K t f) : SE K (tLc wi tg tt t vs) (aLc ai ag pt f vs) := fun B ρ δ κ σ H R Q s g hh q =>
  hi B ρ δ κ σ H _ _ s g hh fun B1 ρ1 κ1 H1 J Ja w1 g1 ri hlc => by
    obtain ⟨W, ⟨m0, w0⟩, turn⟩ := lcw.mp hlc
    intro D hD
    have q1 := q.later w1
    refine ⟨fun i m H' => ∃ B' ρ' κ' accV acc, Up B1 ρ1 H1 B' ρ' H' ∧ G K B' ρ' κ' H' ∧ H' D = some (.lst accV) ∧ B' D = none ∧ D ∉ ρ' ∧ DpAll K B' accV acc ∧ W i m acc κ', ⟨m0, B1, ρ1, κ1, [], [], Up.refl.off hD, g1.off (g1.fresh hD) (fun z => ?_) (K.up _ _ _ _ _ _ (Up.refl.off hD).n g1.z), upd_same, g1.fresh hD, fun z => ?_, .nil, w0⟩, ?_⟩
    · obtain ⟨i, hi⟩ := List.mem_iff_getElem?.mp z
      exact g1.nin hD hi rfl
    · obtain ⟨i, hi⟩ := List.mem_iff_getElem?.mp z
      exact g1.nin hD hi rfl
    rintro i m H2 ⟨B2, ρ2, κ2, accV, acc, w2, g2, eD, bD, rD, da, hw⟩
    have r := ri B2 ρ2 κ2 H2 w2 g2 i
    rcases turn i m acc κ2 hw with ⟨h1, h2⟩ | ⟨h1, N, hN, h2⟩
    · refine .inl ⟨r.1 h1, ?_⟩
      have hs : Same B2 (upd B2 D (.lst accV)) := same_upd bD
      have hBD : (upd B2 D (.lst accV)) D = some (.lst accV) := upd_same
      have wz : Up B1 ρ1 H1 (upd B2 D (.lst accV)) ρ2 H2 := ⟨w2.s.trans hs, w2.p, fun p o z1 z2 z3 => by
        obtain ⟨y1, y2, y3⟩ := w2.f p o z1 z2 z3
        exact ⟨y1, (by rw [upd_ne (ne_of_none z1 hD)]; exact y2), y3⟩⟩
      refine q1 (upd B2 D (.lst accV)) ρ2 κ2 H2 (.d (.list acc)) (.ref D) wz ⟨fun b x e => ?_, g2.len, g2.inj, fun j p cl z1 z2 => ?_, K.up _ _ _ _ _ _ wz.n g1.z⟩ (.lst (.inl (.inl hBD)) (dpa_up hs _ _ da)) h2
      · by_cases hb : b = D
        · subst hb; rw [hBD] at e; rw [eD]; exact e
        · rw [upd_ne hb] at e; exact g2.ex b x e
      · have hq : p ≠ D := fun z => rD (z ▸ mem_of_get z1)
        exact (g2.at' j p cl z1 z2).up ⟨hs, fun _ _ h => h⟩ (fun z => .inl (by rw [upd_ne hq]; exact z)) fun _ e => e
    · obtain ⟨hgo, hy⟩ := r.2 h1
      -- a turn's end
      refine .inr ⟨hgo, fun H' => ∃ B' ρ' κ' accV acc, Up B1 ρ1 H1 B' ρ' H' ∧ G K B' ρ' κ' H' ∧ H' D = some (.lst accV) ∧ B' D = none ∧ D ∉ ρ' ∧ DpAll K B' accV acc ∧ N acc κ', ?_, fun x H3 hx => ?_⟩
      · rintro H' ⟨B', ρ', κ', accV', acc', z1, z2, z3, z4, z5, z6, hn⟩
        obtain ⟨m', hm, hw'⟩ := hN _ _ hn
        exact ⟨m', hm, B', ρ', κ', accV', acc', z1, z2, z3, z4, z5, z6, hw'⟩
      · obtain ⟨B3, a, w3, g3, ra, ya⟩ := hy x H3 hx
        have sw : S K B3 ρ2 (wipeA δ vs) (L2.wipe σ vs) := (s.up ((w1.trans w2).trans w3).g).wipe vs
        refine hg _ _ _ _ _ _ _ _ _ _ sw g3 ra (h2 a ya) fun B4 ρ4 δ4 κ4 σ4 H4 w4 s4 g4 h4 e4 => ⟨by rw [e4, wipe_wipe], ?_⟩
        refine ht _ _ _ _ _ _ _ _ s4 g4 h4 fun B5 ρ5 κ5 H5 b w5 g5 h5 => ?_
        have w25 := (w3.trans w4).trans w5
        obtain ⟨e5, b5, r5⟩ := w25.f D _ eD (.inl bD) rD
        have b5 : B5 D = none := b5.elim id fun ⟨ws, z⟩ => by cases z
        cases b with
        | false =>
          refine iteF ⟨B5, ρ5, κ5, accV, acc, w2.trans w25, g5, e5, b5, r5, dpa_up w25.s _ _ da, h5⟩
        | true =>
          refine iteT (he _ _ _ _ _ _ _ _ (s4.up w5.g) g5 h5 fun B6 ρ6 κ6 H6 a6 v6 w6 g6 r6 h6 => ?_)
          obtain ⟨d, rfl, hl, hn⟩ := h6
          obtain ⟨e6, b6, r6'⟩ := w6.f D _ e5 (.inl b5) r5
          have b6 : B6 D = none := b6.elim id fun ⟨ws, z⟩ => by cases z
          have w26 := w25.trans w6
          have da6 := dpa_up w26.s _ _ da
          refine ⟨accV, e6, by rw [dpa_len da6]; exact hl, B6, ρ6, κ6, accV ++ [v6], acc ++ [d], (w2.trans w26).off hD, g6.off b6 r6' (K.up _ _ _ _ _ _ ((w2.trans w26).off hD).n g1.z), upd_same, b6, r6', dpa_app da6 (.cons r6 .nil), hn⟩
section
variable {elt tge iter : Expr} {ifs : List Expr} {scope : Scope} {own : List (Str × Nat)} {wi : TI} {ai : AI} {tg : TG} {ag : AG} {tt : TT} {pt : AT} {te : TE} {fe : AE}
theorem ea_lc (hc : X.calm = true) (hN : X.N.Nodup) (hi : PIa K X tge iter wi ai) (ok : BlkOk X.N X.env.scope scope own)
    (hg : ∀ (s : Shared) (H : Hp) (C : Addr) (cl : List (Str × Addr)) (fp : List Addr), PG (X.blk s H scope (compEnvC scope cl C X.env) fp) tge tg) (hgw : SGw K tg ag (own.map (·.2)))
    (ht : ∀ (s : Shared) (H : Hp) (C : Addr) (cl : List (Str × Addr)) (fp : List Addr), PTsa K (X.blk s H scope (compEnvC scope cl C X.env) fp) ifs tt pt)
    (he : ∀ (s : Shared) (H : Hp) (C : Addr) (cl : List (Str × Addr)) (fp : List Addr), PEa K (X.blk s H scope (compEnvC scope cl C X.env) fp) elt te fe) (hs : ∀ x, foldedSetIterable iter X.env x = pure x := by intro _; rfl) :
    PEa K X (.ListComp elt [⟨tge, iter, ifs, 0⟩] scope pos) (tLc wi tg tt te (own.map (·.2))) (aLc ai ag pt fe (own.map (·.2))) :=
  ⟨pe_lc hc hN hi.pi ok hg (fun s H C cl fp => (ht s H C cl fp).pt) (fun s H C cl fp => (he s H C cl fp).pe) hs, se_lc hi.sd hgw (ht ({} : Shared) (fun _ => none) 0 [] []).sd (he ({} : Shared) (fun _ => none) 0 [] []).sd⟩
theorem sa_setLc {i : Nat} {y : Str} {py spos : Pos} (hc : X.calm = true) (hN : X.N.Nodup) (hy : X.N[i]? = some y) (hyl : X.env.scope.names.lookup y = some .local)
    (hsw : swapsWith (.ListComp elt [⟨tge, iter, ifs, 0⟩] scope pos) (some (.Name y py)) spos.line X.env = pure true) (hi : PIa K X tge iter wi ai) (ok : BlkOk X.N X.env.scope scope own)
    (hg : ∀ (s : Shared) (H : Hp) (C : Addr) (cl : List (Str × Addr)) (fp : List Addr), PG (X.blk s H scope (compEnvC scope cl C X.env) fp) tge tg) (hgw : SGw K tg ag (own.map (·.2)))
    (ht : ∀ (s : Shared) (H : Hp) (C : Addr) (cl : List (Str × Addr)) (fp : List Addr), PTsa K (X.blk s H scope (compEnvC scope cl C X.env) fp) ifs tt pt)
    (he : ∀ (s : Shared) (H : Hp) (C : Addr) (cl : List (Str × Addr)) (fp : List Addr), PEa K (X.blk s H scope (compEnvC scope cl C X.env) fp) elt te fe) (hs : ∀ x, foldedSetIterable iter X.env x = pure x := by intro _; rfl) :
    PSa K X (.Assign [.Name y py] (.ListComp elt [⟨tge, iter, ifs, 0⟩] scope pos) spos) (tAsg (tLc wi tg tt te (own.map (·.2))) (gName i)) (aSet i (aLc ai ag pt fe (own.map (·.2)))) :=
  ⟨ps_setLc hc hN hy hyl hsw hi.pi ok hg (fun s H C cl fp => (ht s H C cl fp).pt) (fun s H C cl fp => (he s H C cl fp).pe) hs, ss_asg (se_lc hi.sd hgw (ht ({} : Shared) (fun _ => none) 0 [] []).sd (he ({} : Shared) (fun _ => none) 0 [] []).sd) sg_name⟩
end

/-! ### defs -/
/-- what leaves a def: the error's class, by its name in the module, and its fields -/
structure AX where
  cls : Str
  fs : List (Str × PyData)
/-- a promise: the arguments, the cells, what is wanted of the result, of an error -/
abbrev FSp := List AV → AK → AR → (AX → AK → Prop) → Prop
/-- an error as it stands: its class, its dict among the data -/
def RepX (K : PySem.W.Frag) (B : Hp) (x : AX) (cls : Value) (d : Option Addr) : Prop := PySem.W.nsIn K mainGlobals x.cls = some (some cls) ∧ ((d = none ∧ x.fs = []) ∨ ∃ dd ws, d = some dd ∧ B dd = some (.xd ws) ∧ DpKs K B x.fs ws)
theorem RepX.up {K : PySem.W.Frag} {x : AX} {cls : Value} {d : Option Addr} (s : Same B B') (h : RepX K B x cls d) : RepX K B' x cls d :=
  ⟨h.1, h.2.imp id fun ⟨dd, ws, e, eb, r⟩ => ⟨dd, ws, e, s _ _ eb, DpKs.up s r⟩⟩
def spA (K : PySem.W.Frag) (F : FSp) : Sp := fun vs H Q E => ∃ B ρ κ as R E', G (Frg.of K) B ρ κ H ∧ Reps K B ρ as vs ∧ F as κ R E' ∧
  (∀ B' ρ' κ' H' a v, Up B ρ H B' ρ' H' → G (Frg.of K) B' ρ' κ' H' → Rep K B' ρ' a v → R a κ' → Q v H') ∧
  (∀ B' ρ' κ' H' xa cls d, Up B ρ H B' ρ' H' → G (Frg.of K) B' ρ' κ' H' → RepX K B' xa cls d → E' xa κ' → E cls d H')
def startA (N : List Str) (as : List AV) : AD := as.map some ++ List.replicate (N.length - as.length) none
theorem s_start {N : List Str} {as : List AV} {vs : List V} (r : Reps K B ρ as vs) : S K B ρ (startA N as) (L2.start N vs) := by
  have hl := r.len
  refine ⟨by unfold startA L2.start; simp [hl], fun i a h => ?_⟩
  unfold startA at h
  by_cases hi : i < as.length
  · rw [List.getElem?_append_left (by simpa using hi), List.getElem?_map, List.getElem?_eq_getElem hi] at h
    simp at h
    obtain ⟨w, e, rw'⟩ := r.get (List.getElem?_eq_getElem hi)
    rw [h] at rw'
    refine ⟨w, ?_, rw'⟩
    unfold L2.start
    rw [List.getElem?_append_left (by simp; omega), List.getElem?_map, e]
    rfl
  · rw [List.getElem?_append_right (by simpa using hi)] at h
    have := mem_of_get h
    rw [List.mem_replicate] at this
    exact absurd this.2 (by simp)
/-- the end of a body: the result may be told anew -/
def endsA (K : PySem.W.Frag) (n : Nat) (R : AR) : AEnds := ⟨n, fun _ κ => ∃ a' κ', GhR K n (.d .none) κ a' κ' ∧ R a' κ', fun a κ => ∃ a' κ', GhR K n a κ a' κ' ∧ R a' κ', fun _ _ => False, fun _ _ => False⟩
theorem body_ok {K : PySem.W.Frag} {F : FSp} {N : List Str} {t : TS} {f : AS} {vs : List V} {H : Hp} {Q : VK} {E : XK} (hs : SS (Frg.of K) t f) (hF : ∀ as κ R E', F as κ R E' → f (endsA K κ.length R) (startA N as) κ) (h : spA K F vs H Q E) :
    t { nx := fun _ H' => Q .non H', rt := Q } (L2.start N vs) H := by
  obtain ⟨B, ρ, κ, as, R, E', g, r, hf, q, _⟩ := h
  have fin : ∀ B' ρ' κ' H' a v, UpN κ.length B ρ H B' ρ' H' → G (Frg.of K) B' ρ' κ' H' → Rep K B' ρ' a v → (∃ a' κ2, GhR K κ.length a κ' a' κ2 ∧ R a' κ2) → Q v H' := fun B' ρ' κ' H' a v w g' ra ⟨a', κ2, gh, hR⟩ => by
    obtain ⟨B2, ρ2, w2, r2, g2⟩ := gh.2 B' ρ' H' v g' ra
    exact q _ _ _ _ _ _ ((w.trans w2).full (by rw [g.len]; exact Nat.le_refl _)) g2 r2 hR
  refine hs B ρ (startA N as) κ (L2.start N vs) H (endsA K κ.length R) _ (s_start r) g (Nat.le_refl _) (hF as κ R E' hf) ⟨?_, ?_, ?_, ?_, Nat.zero_le _⟩
  · exact fun B' ρ' κ' H' δ' σ' w g' s' l h' => fin _ _ _ _ _ _ w g' rp_non h'
  · exact fun B' ρ' κ' H' a v w g' ra l h' => fin _ _ _ _ _ _ w g' ra h'
  · exact fun _ _ _ _ _ _ _ _ _ _ h' => h'.elim
  · exact fun _ _ _ _ _ _ _ _ _ _ h' => h'.elim
theorem spA_len {K : PySem.W.Frag} {F : FSp} {ps : List Str} (hl : ∀ as κ R E', F as κ R E' → as.length = ps.length) : ∀ vs H Q E, spA K F vs H Q E → vs.length = ps.length := by
  rintro vs H Q E ⟨B, ρ, κ, as, R, E', g, r, hf, _⟩
  rw [← r.len]; exact hl _ _ _ _ hf
section
variable {K : PySem.W.Frag} {P : Program} {w : World} {mg : Str → Option Value} {base : Heap}
/-- THE RULE for a def from which nothing is raised -/
theorem fn_ok {x qual : Str} {st : Stmt} {fa : Addr} {fd : FuncData} {N ps : List Str} {l : Nat} {F : FSp} (Fu : Fun K x qual st fa fd) (Sc : FnScope N ps (defScope st)) (hl : ∀ as κ R E', F as κ R E' → as.length = ps.length)
    (hb : ∀ (cdv : Value) (A : Around) (outer : List Env) (s : Shared) (H : Hp) (E : XK), Room l (A.deeper (envOfC qual (defScope st) s.heap.objs.size fa cdv)) →
      ∃ t f, PSsa (Frg.of K) (cxOf CX0 P w K mg base N qual (defScope st) fa cdv A outer s H E).nox (defBody st) t f ∧ ∀ as κ R E', F as κ R E' → f (endsA K κ.length R) (startA N as) κ) : FnOk P w K mg base CX0 (l + 1) fa fd ps (spA K F) :=
  Fu.ok Sc (spA_len hl) fun cdv A outer s H vs Q E hr h => by
    obtain ⟨t, f, hp, hF⟩ := hb cdv A outer s H E hr
    exact ⟨t, hp.ps, body_ok hp.sd hF h⟩
end
/-! ### calls: the callee sees the cells js alone -/
def posIn (k : Nat) : List Nat → Nat → Option Nat
  | [], _ => none
  | j :: js, i => if j = k then some i else posIn k js (i + 1)
def selA (js : List Nat) : AV → Option AV
  | .c k => (posIn k js 0).map .c
  | a => some a
def selAs (js : List Nat) : List AV → Option (List AV)
  | [] => some []
  | a :: r => match selA js a, selAs js r with
    | some x, some xs => some (x :: xs)
    | _, _ => none
/-- no reference within -/
def clC : Cell → Bool
  | .lst xs => xs.all (okA 0)
  | .tup xs => xs.all (okA 0)
  | .ins _ fs => fs.all fun p => okA 0 p.2
  | _ => true
def selK (js : List Nat) (κ : AK) : Option AK := match js with
  | [] => some []
  | j :: r => match κ[j]?, selK r κ with
    | some c, some cs => if clC c = true then some (c :: cs) else none
    | _, _ => none
/-- back: the callee's cells at their places, its new ones behind -/
def putK : List Nat → AK → AK → AK
  | j :: js, c :: cs, κ => putK js cs (κ.set j c)
  | _, _, κ => κ
def liveC : Cell → Bool
  | .dead => false
  | _ => true
def backA (js : List Nat) (n : Nat) : AV → AV
  | .c j => match js[j]? with
    | some k => .c k
    | none => .c (n + (j - js.length))
  | a => a
def backK (js : List Nat) (κ κ' : AK) : AK := match κ'.drop js.length with
  | [] => putK js κ' κ
  | c :: l => putK js κ' κ ++ c :: l
theorem backK_eq (js : List Nat) (κ κ' : AK) : backK js κ κ' = putK js κ' κ ++ κ'.drop js.length := by
  unfold backK
  split
  · rename_i e; rw [e, List.append_nil]
  · rename_i e; rw [e]
@[irreducible] def callW (F : FSp) (E : AX → AK → Prop) (as : List AV) (κ1 : AK) (R : AR) : Prop := ∃ js asl κl, js.Nodup ∧ selAs js as = some asl ∧ selK js κ1 = some κl ∧
  F asl κl (fun a κ' => js.length ≤ κ'.length ∧ κ'.all clC = true ∧ (κ'.drop js.length).all liveC = true ∧ R (backA js κ1.length a) (backK js κ1 κ')) (fun x κ' => js.length ≤ κ'.length ∧ κ'.all clC = true ∧ (κ'.drop js.length).all liveC = true ∧ E x (backK js κ1 κ'))
theorem callW_i {F : FSp} {E : AX → AK → Prop} {as : List AV} {κ1 : AK} {R : AR} (h : ∃ js asl κl, js.Nodup ∧ selAs js as = some asl ∧ selK js κ1 = some κl ∧
  F asl κl (fun a κ' => js.length ≤ κ'.length ∧ κ'.all clC = true ∧ (κ'.drop js.length).all liveC = true ∧ R (backA js κ1.length a) (backK js κ1 κ')) (fun x κ' => js.length ≤ κ'.length ∧ κ'.all clC = true ∧ (κ'.drop js.length).all liveC = true ∧ E x (backK js κ1 κ'))) : callW F E as κ1 R := by
  unfold callW; exact h
theorem callW_e {F : FSp} {E : AX → AK → Prop} {as : List AV} {κ1 : AK} {R : AR} (h : callW F E as κ1 R) : ∃ js asl κl, js.Nodup ∧ selAs js as = some asl ∧ selK js κ1 = some κl ∧
  F asl κl (fun a κ' => js.length ≤ κ'.length ∧ κ'.all clC = true ∧ (κ'.drop js.length).all liveC = true ∧ R (backA js κ1.length a) (backK js κ1 κ')) (fun x κ' => js.length ≤ κ'.length ∧ κ'.all clC = true ∧ (κ'.drop js.length).all liveC = true ∧ E x (backK js κ1 κ')) := by
  unfold callW at h; exact h
def aCall (F : FSp) (E : AX → AK → Prop) (fa : AA) : AE := fun δ κ R => fa δ κ fun as κ1 => callW F E as κ1 R

theorem rep_cl (h : okA 0 a = true) (r : Rep K B ρ a v) : Rep K B ρ' a v := by
  cases a with
  | d x => exact r
  | r w => exact r
  | c j => exact absurd (of_decide_eq_true (p := j < 0) h) (Nat.not_lt_zero _)
theorem reps_cl : ∀ {as : List AV} {vs : List V}, as.all (okA 0) = true → Reps K B ρ as vs → Reps K B ρ' as vs
  | _, _, _, .nil => .nil
  | _, _, h, .cons h1 h2 => by
    rw [List.all_cons, Bool.and_eq_true] at h
    exact .cons (rep_cl h.1 h1) (reps_cl h.2 h2)
theorem repks_cl {ι : Type} : ∀ {as : List (ι × AV)} {vs : List (ι × V)}, (as.all fun p => okA 0 p.2) = true → RepKs K B ρ as vs → RepKs K B ρ' as vs
  | _, _, _, .nil => .nil
  | _, _, h, .cons h1 h2 => by
    rw [List.all_cons, Bool.and_eq_true] at h
    exact .cons ⟨h1.1, rep_cl h.1 h1.2⟩ (repks_cl h.2 h2)
theorem CellOk.cl {cl : Cell} (h : clC cl = true) (ok : CellOk K B ρ H p cl) : CellOk K B ρ' H p cl := by
  cases cl with
  | dead => exact ok
  | ld ys => exact ok
  | lst ys => obtain ⟨n, ws, r, e⟩ := ok; exact ⟨n, ws, reps_cl h r, e⟩
  | tup ys => obtain ⟨ws, r, e⟩ := ok; exact ⟨ws, reps_cl h r, e⟩
  | dK ys => exact ok
  | dT ys => exact ok
  | ins C ys => obtain ⟨n, dx, ws, r, e⟩ := ok; exact ⟨n, dx, ws, repks_cl h r, e⟩
theorem posIn_get : ∀ {k : Nat} {js : List Nat} {i r : Nat}, posIn k js i = some r → ∃ m, r = i + m ∧ js[m]? = some k
  | _, [], _, _, h => by cases h
  | k, j :: js, i, r, h => by
    unfold posIn at h
    by_cases e : j = k
    · rw [if_pos e] at h
      cases h
      exact ⟨0, rfl, by rw [e]; rfl⟩
    · rw [if_neg e] at h
      obtain ⟨m, e1, e2⟩ := posIn_get h
      exact ⟨m + 1, by omega, by simpa using e2⟩
/-- the addresses of the cells js -/
def selR (js : List Nat) (ρ : List Addr) : List Addr := js.map fun j => ρ.getD j 0
theorem selR_get {js : List Nat} {i j : Nat} {p : Addr} (h : js[i]? = some j) (hp : ρ[j]? = some p) : (selR js ρ)[i]? = some p := by
  unfold selR
  rw [List.getElem?_map, h]
  show some (ρ.getD j 0) = some p
  rw [List.getD_eq_getElem?_getD, hp]; rfl
theorem selK_get : ∀ {js : List Nat} {κ κl : AK}, selK js κ = some κl → κl.length = js.length ∧ ∀ (i j : Nat), js[i]? = some j → ∃ c, κ[j]? = some c ∧ κl[i]? = some c ∧ clC c = true
  | [], κ, κl, h => by cases h; exact ⟨rfl, fun i j e => by simp at e⟩
  | j :: js, κ, κl, h => by
    unfold selK at h
    split at h
    · rename_i c cs e1 e2
      split at h
      · rename_i hc
        cases h
        obtain ⟨l, f⟩ := selK_get e2
        refine ⟨by simp [l], fun i j' e => ?_⟩
        cases i with
        | zero => simp at e; subst e; exact ⟨c, e1, rfl, hc⟩
        | succ i => obtain ⟨c', y1, y2, y3⟩ := f i j' (by simpa using e); exact ⟨c', y1, by simpa using y2, y3⟩
      · cases h
    · cases h
theorem selAs_ok {js : List Nat} (hr : ∀ (i j : Nat) (p : Addr), js[i]? = some j → ρ[j]? = some p → ρ'[i]? = some p) : ∀ {as asl : List AV} {vs : List V}, selAs js as = some asl → Reps K B ρ as vs → Reps K B ρ' asl vs
  | [], _, _, h, r => by cases h; cases r; exact .nil
  | a :: as, _, _, h, r => by
    unfold selAs at h
    split at h
    · rename_i x xs e1 e2
      cases h
      cases r with
      | cons r1 r2 =>
        refine .cons ?_ (selAs_ok hr e2 r2)
        cases a with
        | d y => cases e1; exact r1
        | r y => cases e1; exact r1
        | c k =>
          obtain ⟨i, hi, rfl⟩ := Option.map_eq_some_iff.mp e1
          obtain ⟨m, rfl, hm⟩ := posIn_get hi
          obtain ⟨p, hp, rfl⟩ := r1
          exact ⟨p, by simpa using hr m k p hm hp, rfl⟩
    · cases h
theorem putK_len : ∀ (js : List Nat) (κ' κ : AK), (putK js κ' κ).length = κ.length
  | [], _, _ => by cases ‹AK› <;> rfl
  | j :: js, [], κ => rfl
  | j :: js, c :: cs, κ => by
    show (putK js cs (κ.set j c)).length = _
    rw [putK_len, List.length_set]
theorem putK_ne : ∀ {js : List Nat} {κ' κ : AK} {i : Nat}, i ∉ js → (putK js κ' κ)[i]? = κ[i]?
  | [], _, _, _, _ => by cases ‹AK› <;> rfl
  | j :: js, [], κ, i, _ => rfl
  | j :: js, c :: cs, κ, i, h => by
    show (putK js cs (κ.set j c))[i]? = _
    rw [putK_ne (fun z => h (List.mem_cons_of_mem _ z)), List.getElem?_set_ne (fun (e : j = i) => h (e ▸ List.mem_cons_self ..))]
theorem putK_at : ∀ {js : List Nat} {κ' κ : AK} {i j : Nat} {c : Cell}, js.Nodup → js[i]? = some j → κ'[i]? = some c → j < κ.length → (putK js κ' κ)[j]? = some c
  | [], _, _, _, _, _, _, h, _, _ => by simp at h
  | j' :: js, [], κ, i, j, c, _, _, h, _ => by simp at h
  | j' :: js, c' :: cs, κ, i, j, c, nd, h, h2, hl => by
    rw [List.nodup_cons] at nd
    show (putK js cs (κ.set j' c'))[j]? = _
    cases i with
    | zero =>
      simp at h h2
      subst h; subst h2
      rw [putK_ne nd.1, List.getElem?_set_self hl]
    | succ i => exact putK_at nd.2 (by simpa using h) (by simpa using h2) (by rw [List.length_set]; exact hl)
/-- from the callee's end back to the caller -/
theorem back_ok (g : G K B ρ κ H) {js : List Nat} {κl : AK} (nd : js.Nodup) (hk : selK js κ = some κl) {ρl' : List Addr} (w : Up B (selR js ρ) H B' ρl' H') (g' : G (Frg.of K.K) B' ρl' κ' H') (l : js.length ≤ κ'.length) (cl : κ'.all clC = true) (lv : (κ'.drop js.length).all liveC = true) :
    Up B ρ H B' (ρ ++ ρl'.drop js.length) H' ∧ G K B' (ρ ++ ρl'.drop js.length) (backK js κ κ') H' ∧ ∀ {a : AV} {v : V}, Rep K B' ρl' a v → Rep K B' (ρ ++ ρl'.drop js.length) (backA js κ.length a) v := by
  obtain ⟨lk, sel⟩ := selK_get hk
  have jlt : ∀ {i j : Nat}, js[i]? = some j → j < κ.length := fun h => by
    obtain ⟨c, e, _⟩ := sel _ _ h
    exact (List.getElem?_eq_some_iff.mp e).1
  have rl : ∀ {i j : Nat} {p : Addr}, js[i]? = some j → ρ[j]? = some p → ρl'[i]? = some p := fun h hp => w.p _ _ (selR_get h hp)
  have memsel : ∀ {i : Nat} {p : Addr}, ρ[i]? = some p → p ∈ selR js ρ → i ∈ js := fun {i p} hp hm => by
    unfold selR at hm
    obtain ⟨j, hj, e⟩ := List.mem_map.mp hm
    obtain ⟨m, hm⟩ := List.mem_iff_getElem?.mp hj
    have lt := jlt hm
    rw [← g.len] at lt
    rw [List.getD_eq_getElem?_getD, List.getElem?_eq_getElem lt] at e
    have : ρ[j]? = some p := by rw [List.getElem?_eq_getElem lt]; exact congrArg some e
    rw [g.inj i j p hp this]; exact hj
  have newne : ∀ {i m : Nat} {p : Addr}, ρ[i]? = some p → (ρl'.drop js.length)[m]? = some p → False := fun {i m p} h1 h2 => by
    rw [List.getElem?_drop] at h2
    by_cases hj : i ∈ js
    · obtain ⟨q, hq⟩ := List.mem_iff_getElem?.mp hj
      have := g'.inj q _ p (rl hq h1) h2
      have := (List.getElem?_eq_some_iff.mp hq).1
      omega
    · have hm : js.length + m < κ'.length := by rw [← g'.len]; exact (List.getElem?_eq_some_iff.mp h2).1
      have ok := g'.at' _ p _ h2 (List.getElem?_eq_getElem hm)
      have live : liveC κ'[js.length + m] = true := List.all_eq_true.mp lv _ (mem_of_get (by rw [List.getElem?_drop]; exact List.getElem?_eq_getElem hm))
      have bn : B' p = none ∨ ∃ ws, H' p = some (.tup ws) := by
        cases hc : κ'[js.length + m] with
        | dead => rw [hc] at live; cases live
        | ld ys => rw [hc] at ok; exact .inl ok.1
        | lst ys => rw [hc] at ok; exact .inl ok.1
        | tup ys => rw [hc] at ok; obtain ⟨vs, _, e⟩ := ok; exact .inr ⟨vs, e⟩
        | dK ys => rw [hc] at ok; exact .inl ok.1
        | dT ys => rw [hc] at ok; exact .inl ok.1
        | ins C ys => rw [hc] at ok; exact .inl ok.1
      have hi : i < κ.length := by rw [← g.len]; exact (List.getElem?_eq_some_iff.mp h1).1
      have hn := (g.at' i p _ h1 (List.getElem?_eq_getElem hi)).nn
      cases hH : H p with
      | none => exact hn hH
      | some o =>
        have fo : B p = none ∨ IsT o := by
          rcases bn with bn | ⟨ws, e⟩
          · exact .inl (w.s.free bn)
          · cases hB : B p with
            | none => exact .inl rfl
            | some u =>
              have z1 := g.ex p u hB
              rw [hH] at z1; cases z1
              have z2 := g'.ex p _ (w.s p _ hB)
              rw [e] at z2
              exact .inr ⟨ws, (Option.some.inj z2).symm⟩
        exact (w.f p o hH fo fun z => hj (memsel h1 z)).2.2 (mem_of_get h2)
  have w2 : Up B ρ H B' (ρ ++ ρl'.drop js.length) H' := ⟨w.s, fun _ _ h => get_app h, fun p o h1 h2 h3 => by
    have hp : p ∉ selR js ρ := fun z => by
      unfold selR at z
      obtain ⟨j, hj, e⟩ := List.mem_map.mp z
      obtain ⟨m, hm⟩ := List.mem_iff_getElem?.mp hj
      have lt := jlt hm
      rw [← g.len] at lt
      rw [List.getD_eq_getElem?_getD, List.getElem?_eq_getElem lt] at e
      exact h3 (by rw [← e]; exact List.getElem_mem lt)
    obtain ⟨y1, y2, y3⟩ := w.f p o h1 h2 hp
    refine ⟨y1, y2, fun z => ?_⟩
    rcases List.mem_append.mp z with z | z
    · exact h3 z
    · exact y3 (List.mem_of_mem_drop z)⟩
  have lb : (putK js κ' κ).length = ρ.length := by rw [putK_len, g.len]
  refine ⟨w2, ⟨g'.ex, ?_, fun i j p h1 h2 => ?_, fun i p c h1 h2 => ?_, K.up _ _ _ _ _ _ w2.n g.z⟩, fun {a v} r => ?_⟩
  · rw [backK_eq, List.length_append, List.length_append, lb, List.length_drop, List.length_drop, g'.len]
  · by_cases hi : i < ρ.length
    · rw [List.getElem?_append_left hi] at h1
      by_cases hj : j < ρ.length
      · rw [List.getElem?_append_left hj] at h2
        exact g.inj i j p h1 h2
      · rw [List.getElem?_append_right (by omega)] at h2
        exact (newne h1 h2).elim
    · rw [List.getElem?_append_right (by omega)] at h1
      by_cases hj : j < ρ.length
      · rw [List.getElem?_append_left hj] at h2
        exact (newne h2 h1).elim
      · rw [List.getElem?_append_right (by omega)] at h2
        rw [List.getElem?_drop] at h1 h2
        have := g'.inj _ _ p h1 h2
        omega
  · rw [backK_eq] at h2
    by_cases hi : i < ρ.length
    · rw [List.getElem?_append_left hi] at h1
      rw [List.getElem?_append_left (by omega)] at h2
      by_cases hj : i ∈ js
      · obtain ⟨q, hq⟩ := List.mem_iff_getElem?.mp hj
        have hq' : q < κ'.length := Nat.lt_of_lt_of_le (List.getElem?_eq_some_iff.mp hq).1 l
        rw [putK_at nd hq (List.getElem?_eq_getElem hq') (jlt hq)] at h2
        cases h2
        exact (g'.at' q p _ (rl hq h1) (List.getElem?_eq_getElem hq')).cl (List.all_eq_true.mp cl _ (List.getElem_mem hq'))
      · rw [putK_ne hj] at h2
        have ok := g.at' i p c h1 h2
        have hp : p ∉ selR js ρ := fun z => hj (memsel h1 z)
        refine ok.up w2.g (fun bn => ?_) fun o ho => ?_
        · obtain ⟨o, ho⟩ := Option.ne_none_iff_exists'.mp ok.nn
          exact (w.f p o ho (.inl bn) hp).2.1.imp id fun ⟨ws, z⟩ => ⟨ws, by rw [ho, z]⟩
        · cases bp : B p with
          | none => exact (w.f p o ho (.inl bp) hp).1
          | some u =>
            have e1 := g.ex p u bp
            rw [ho] at e1; cases e1
            exact g'.ex p o (w.s p o bp)
    · rw [List.getElem?_append_right (by omega), List.getElem?_drop] at h1
      rw [List.getElem?_append_right (by omega), lb, List.getElem?_drop] at h2
      exact (g'.at' _ p c h1 h2).cl (List.all_eq_true.mp cl _ (mem_of_get h2))
  · cases a with
    | d y => exact r
    | r y => exact r
    | c j =>
      obtain ⟨p, hp, rfl⟩ := r
      show Rep K B' _ (match js[j]? with | some k => .c k | none => .c (κ.length + (j - js.length))) _
      cases e : js[j]? with
      | some k =>
        have lt := jlt e
        rw [← g.len] at lt
        have e2 := rl e (List.getElem?_eq_getElem lt)
        rw [hp] at e2; cases e2
        exact ⟨_, get_app (List.getElem?_eq_getElem lt), rfl⟩
      | none =>
        have hj : js.length ≤ j := List.getElem?_eq_none_iff.mp e
        refine ⟨p, ?_, rfl⟩
        rw [← g.len, List.getElem?_append_right (by omega), List.getElem?_drop]
        have : js.length + (ρ.length + (j - js.length) - ρ.length) = j := by omega
        rw [this]; exact hp
theorem sel_ok (g : G K B ρ κ H) {js : List Nat} {κl : AK} (nd : js.Nodup) (hk : selK js κ = some κl) : G (Frg.of K.K) B (selR js ρ) κl H := by
  obtain ⟨lk, sel⟩ := selK_get hk
  have get : ∀ {i : Nat} {p : Addr}, (selR js ρ)[i]? = some p → ∃ j c, js[i]? = some j ∧ ρ[j]? = some p ∧ κ[j]? = some c ∧ κl[i]? = some c ∧ clC c = true := fun {i p} h => by
    unfold selR at h
    rw [List.getElem?_map] at h
    obtain ⟨j, hj, e⟩ := Option.map_eq_some_iff.mp h
    obtain ⟨c, e1, e2, e3⟩ := sel i j hj
    have lt : j < ρ.length := by rw [g.len]; exact (List.getElem?_eq_some_iff.mp e1).1
    rw [List.getD_eq_getElem?_getD, List.getElem?_eq_getElem lt] at e
    exact ⟨j, c, hj, by rw [List.getElem?_eq_getElem lt]; exact congrArg some e, e1, e2, e3⟩
  refine ⟨g.ex, by unfold selR; rw [List.length_map, lk], fun i i' p h1 h2 => ?_, fun i p c h1 h2 => ?_, True.intro⟩
  · obtain ⟨j, _, y1, y2, _⟩ := get h1
    obtain ⟨j', _, z1, z2, _⟩ := get h2
    have e := g.inj j j' p y2 z2
    subst e
    have l1 := (List.getElem?_eq_some_iff.mp y1)
    have l2 := (List.getElem?_eq_some_iff.mp z1)
    obtain ⟨a1, b1⟩ := l1
    obtain ⟨a2, b2⟩ := l2
    exact (List.getElem_inj nd).mp (b1.trans b2.symm)
  · obtain ⟨j, c', y1, y2, y3, y4, y5⟩ := get h1
    rw [h2] at y4; cases y4
    exact (g.at' j p c y2 y3).cl y5
theorem se_call {F : FSp} {ta : TA} {fa : AA} {E : XK} {E' : AX → AK → Prop} (ha : SA K ta fa) (hx : ∀ B' ρ' κ' H' x cls d, G K B' ρ' κ' H' → E' x κ' → RepX K B' x cls d → E cls d H') : SE K (tCall (spA K F) [] E ta) (aCall F E' fa) := fun B ρ δ κ σ H R Q s g h q =>
  ha B ρ δ κ σ H _ _ s g h fun B1 ρ1 κ1 H1 as vs w1 g1 r1 hcw => by
    obtain ⟨js, asl, κl, nd, e1, e2, hF⟩ := callW_e hcw
    show spA K F (vs ++ []) H1 Q E
    rw [List.append_nil]
    refine ⟨B1, selR js ρ1, κl, asl, _, _, sel_ok g1 nd e2, selAs_ok (fun i j p h1 h2 => selR_get h1 h2) e1 r1, hF, ?_, ?_⟩
    · rintro B' ρ' κ' H' a v w2 g2 r2 ⟨l, cl, lv, hR⟩
      obtain ⟨w3, g3, r3⟩ := back_ok g1 nd e2 w2 g2 l cl lv
      exact q _ _ _ _ _ _ (w1.trans w3) g3 (r3 r2) hR
    · rintro B' ρ' κ' H' x cls d w2 g2 r2 ⟨l, cl, lv, hR⟩
      obtain ⟨w3, g3, r3⟩ := back_ok g1 nd e2 w2 g2 l cl lv
      exact hx _ _ _ _ _ _ _ g3 hR r2
section
variable {l : Nat} {fa : Addr} {fd : FuncData} {ps : List Str} {F : FSp} {x : Str} {q pos : Pos} {es : List Expr} {ta : TA} {ga : AA}
/-- f(..) of a def from which nothing is raised -/
theorem ea_call (Fo : FnOk X.prog X.w X.K X.mg X.base CX0 l fa fd ps (spA K F)) (hr : Room l X.A) (hg : Gl X x) (hm : X.mg x = some (.ref fa)) (hk : PySem.W.keepIn X.K (.ref fa) = true) (hb : Binds X.K fd ps []) (ha : PAa K X (e :: es) ta ga)
    (hdb : (x == ("__debug__" : Str)) = false := by decide) (he : starEach (e :: es) X.env = (false, eval e X.env) :: starEach es X.env := by rfl) (hpl : (backTo pos (starEach es X.env)).any (·.1) = false := by rfl) (hK : X.K = K := by rfl) :
    PEa K X (.Call (.Name x q) (e :: es) [] pos) (tCall (spA K F) [] E0 ta) (aCall F (fun _ _ => False) ga) := by
  obtain ⟨K, Kn, KZ, Ku⟩ := K
  change X.K = K at hK
  subst hK
  exact ⟨pe_call Fo hr hg hm hk hb .nil pass0 ha.pa hdb he hpl, se_call ha.sd fun _ _ _ _ _ _ _ _ h => h.elim⟩
end
end Ab
set_option Elab.async false
set_option linter.all false
set_option maxRecDepth 100000
set_option maxHeartbeats 4000000
/-! Ab7: the law's own promise, constants of the top, small things -/
namespace Ab
open PySem L2
variable {K : PySem.W.Frag} {B B' H H' : Hp} {ρ ρ' : List Addr} {κ κ' : AK} {X : Cx}
/-- the law: True at every script -/
def F_law : FSp := fun as κ R _ => ∃ ns : List Int, as = [.d (.list (ns.map .int))] ∧ κ = [] ∧ ns.length ≤ 63 ∧ R (.d (.bool true)) []
theorem dpa_ints : ∀ ns : List Int, DpAll K B (ns.map V.int) (ns.map .int)
  | [] => .nil
  | n :: ns => .cons (.int n) (dpa_ints ns)
theorem law_start {H : Hp} {a : Addr} {ns : List Int} (hl : ns.length ≤ 63) (hS : SqL K H a (ns.map V.int)) : spA K F_law [.ref a] H (fun v _ => v = .bl true) (fun _ _ _ => False) :=
  ⟨H, [], [], [.d (.list (ns.map .int))], fun a _ => a = .d (.bool true), fun _ _ => False, ⟨Same.refl H, rfl, fun i j p h => by simp at h, fun k p c h => by simp at h, True.intro⟩, .cons (.lst hS (dpa_ints ns)) .nil, ⟨ns, rfl, rfl, hl, rfl⟩,
    fun B' ρ' κ' H' a v w g r e => by subst e; exact r.bool, fun _ _ _ _ _ _ _ _ _ _ h => h.elim⟩
theorem len_law : ∀ as κ R E', F_law as κ R E' → as.length = (["script"] : List Str).length := by
  rintro as κ R E' ⟨ns, rfl, _⟩; rfl
theorem fd_all {P : Program} {w : World} {mg : Str → Option Value} {l : Nat} {fa : Addr} {sp : Sp} (h : ∃ fd : FuncData, (∀ (s : Shared) (v : Value), BindsTo s fd ⟨[v], []⟩ [("script", v)]) ∧ ∀ (P : Program) (w : World) (base : Heap), FnOk P w K mg base CX0 l fa fd ["script"] sp) :
    ∃ fd : FuncData, (∀ (s : Shared) (v : Value), BindsTo s fd ⟨[v], []⟩ [("script", v)]) ∧ ∀ base : Heap, K.In base → base.Ns mainGlobals mg → FnOk P w K mg base CX0 l fa fd ["script"] sp := by
  obtain ⟨fd, h1, h2⟩ := h
  exact ⟨fd, h1, fun base _ _ => h2 P w base⟩
theorem sp_imp {F F' : FSp} (h : ∀ as κ R E', F as κ R E' → F' as κ R E') {vs : List V} {Q : VK} {E : XK} (s : spA K F vs H Q E) : spA K F' vs H Q E := by
  obtain ⟨B, ρ, κ, as, R, E', g, r, f, q⟩ := s
  exact ⟨B, ρ, κ, as, R, E', g, r, h _ _ _ _ f, q⟩
/-- a tuple of texts of the top -/
inductive StrVals : List Value → List PyData → Prop where
  | nil : StrVals [] []
  | cons (x : Str) (t : Tok) {vs : List Value} {ds : List PyData} : StrVals vs ds → StrVals (.str x t :: vs) (.str x :: ds)
theorem strVals_v {vs : List Value} {ds : List PyData} (h : StrVals vs ds) : ∃ xs : List V, Vals xs vs ∧ DpAll K B xs ds := by
  induction h with
  | nil => exact ⟨[], .nil, .nil⟩
  | cons x t _ ih => obtain ⟨xs, h1, h2⟩ := ih; exact ⟨.str x :: xs, .cons ⟨t, rfl⟩ h1, .cons (.str x) h2⟩
theorem dp_strs {a : Addr} {o : Obj} {n : Nat} {vs : Array Value} {ds : List PyData} (h : K.lookup a = some o) (hc : o.cls = .type "tuple") (hd : o.data = .seq vs n) (hz : vs.size ≤ sizeLine) (hs : StrVals vs.toList ds) : Dp K B (.ref a) (.tuple ds) := by
  obtain ⟨xs, h1, h2⟩ := strVals_v (K := K) (B := B) hs
  exact .tup (.inr ⟨o, vs, n, h, hc, hd, hz, h1⟩) h2
/-- min of two numbers -/
def aMin2 : List AV → AK → AR → Prop := fun as κ R => match as with
  | [.d (.int i), .d (.int j)] => R (.d (.int (if j < i then j else i))) κ
  | _ => False
theorem ca_min {K : Frg} (hc : X.calm = true) : CallA K X (.builtin "min") (fun xs H Q => ∃ i j, xs = [.int i, .int j] ∧ Q (.int (if j < i then j else i)) H) aMin2 := ⟨call_min2 hc, fun B ρ κ H xs as R Q g rs h q => by
  unfold aMin2 at h
  split at h
  · obtain ⟨x, y, rfl, r1, r2⟩ := reps2 rs
    exact ⟨_, _, by rw [r1.int, r2.int], q.at0 g (rp_int _) h⟩
  · exact h.elim⟩
/-- isinstance's answers -/
theorem kit_b (a b : String) (r : Bool) (h : kitB a b = some r) : kitB a b = some r := h

/-! comprehensions: over known items, over a range, over a text, over the cell at k -/
variable {ag : AG} {pt : AT} {f : AE} {vs : List Nat} {δ : AD} {κ1 : AK} {R : AR}
theorem lc_d {xs : List PyData} (Pv : Nat → List PyData → AK → Prop) (h0 : Pv 0 [] κ1) (hd : ∀ acc κ', Pv xs.length acc κ' → R (.d (.list acc)) κ')
    (hs : ∀ i x acc κ', xs[i]? = some x → Pv i acc κ' → ag (.d x) (wipeA δ vs) κ' fun δ2 κ2 => pt δ2 κ2 fun b κ3 => bsel b (f δ2 κ3 fun y κ4 => ∃ d, y = .d d ∧ acc.length < sizeLine ∧ Pv (i + 1) (acc ++ [d]) κ4) (Pv (i + 1) acc κ3)) : LcW (itD xs) ag pt f vs δ κ1 R := by
  refine lcw.mpr ⟨fun i m acc κ' => m = xs.length - i ∧ i ≤ xs.length ∧ Pv i acc κ', ⟨_, rfl, Nat.zero_le _, h0⟩, ?_⟩
  rintro i m acc κ' ⟨rfl, hi, p⟩
  by_cases hlt : i < xs.length
  · refine .inr ⟨hlt, Pv (i + 1), fun _ _ q => ⟨xs.length - (i + 1), by omega, rfl, hlt, q⟩, ?_⟩
    rintro a ⟨x, hx, rfl⟩
    exact hs i x acc κ' hx p
  · have e : i = xs.length := by omega
    subst e
    exact .inl ⟨Nat.le_refl _, hd _ _ p⟩
theorem lc_r {lo : Int} {N : Nat} (Pv : Nat → List PyData → AK → Prop) (h0 : Pv 0 [] κ1) (hd : ∀ acc κ', Pv N acc κ' → R (.d (.list acc)) κ')
    (hs : ∀ i acc κ', i < N → Pv i acc κ' → ag (.d (.int (lo + i))) (wipeA δ vs) κ' fun δ2 κ2 => pt δ2 κ2 fun b κ3 => bsel b (f δ2 κ3 fun y κ4 => ∃ d, y = .d d ∧ acc.length < sizeLine ∧ Pv (i + 1) (acc ++ [d]) κ4) (Pv (i + 1) acc κ3)) : LcW (itR lo N) ag pt f vs δ κ1 R := by
  refine lcw.mpr ⟨fun i m acc κ' => m = N - i ∧ i ≤ N ∧ Pv i acc κ', ⟨_, rfl, Nat.zero_le _, h0⟩, ?_⟩
  rintro i m acc κ' ⟨rfl, hi, p⟩
  by_cases hlt : i < N
  · refine .inr ⟨hlt, Pv (i + 1), fun _ _ q => ⟨N - (i + 1), by omega, rfl, hlt, q⟩, ?_⟩
    rintro a rfl
    exact hs i acc κ' hlt p
  · have e : i = N := by omega
    subst e
    exact .inl ⟨Nat.le_refl _, hd _ _ p⟩
theorem lc_c {k : Nat} {xs : List PyData} (Pv : Nat → List PyData → AK → Prop) (h0 : Pv 0 [] κ1) (hk : ∀ i acc κ', Pv i acc κ' → κ'[k]? = some (.ld xs)) (hd : ∀ acc κ', Pv xs.length acc κ' → R (.d (.list acc)) κ')
    (hs : ∀ i x acc κ', xs[i]? = some x → Pv i acc κ' → ag (.d x) (wipeA δ vs) κ' fun δ2 κ2 => pt δ2 κ2 fun b κ3 => bsel b (f δ2 κ3 fun y κ4 => ∃ d, y = .d d ∧ acc.length < sizeLine ∧ Pv (i + 1) (acc ++ [d]) κ4) (Pv (i + 1) acc κ3)) : LcW (itC k) ag pt f vs δ κ1 R := by
  refine lcw.mpr ⟨fun i m acc κ' => m = xs.length - i ∧ i ≤ xs.length ∧ Pv i acc κ', ⟨_, rfl, Nat.zero_le _, h0⟩, ?_⟩
  rintro i m acc κ' ⟨rfl, hi, p⟩
  by_cases hlt : i < xs.length
  · refine .inr ⟨⟨xs, hk _ _ _ p, hlt⟩, Pv (i + 1), fun _ _ q => ⟨xs.length - (i + 1), by omega, rfl, hlt, q⟩, ?_⟩
    rintro a ⟨ys, x, hy, hx, rfl⟩
    rw [hk _ _ _ p] at hy; cases hy
    exact hs i x acc κ' hx p
  · have e : i = xs.length := by omega
    subst e
    exact .inl ⟨⟨xs, hk _ _ _ p, Nat.le_refl _⟩, hd _ _ p⟩
/-! items at places -/
theorem at_mem {α : Type} {xs : List α} {i : Int} (h0 : 0 ≤ i) (h : i < xs.length) : ∃ w, atI xs i = some w ∧ w ∈ xs ∧ xs[i.toNat]? = some w := by
  obtain ⟨j, rfl⟩ := Int.eq_ofNat_of_zero_le h0
  have hj : j < xs.length := by omega
  exact ⟨xs[j], atI_nat (List.getElem?_eq_getElem hj), List.getElem_mem hj, by simpa using List.getElem?_eq_getElem hj⟩
theorem at_nat {α : Type} {xs : List α} {j : Nat} {w : α} (h : xs[j]? = some w) : atI xs (j : Int) = some w := atI_nat h
/-! texts -/
abbrev tl (x : Str) : List Nat := x.cps.toList
theorem tl_app (a b : Str) : tl (a ++ b) = tl a ++ tl b := by
  show (a.cps ++ b.cps).toList = _
  rw [Array.toList_append]
theorem tl_len (a : Str) : a.length = (tl a).length := by
  show a.cps.size = a.cps.toList.length
  rw [Array.length_toList]
theorem tl_inj {a b : Str} (h : tl a = tl b) : a = b := by
  obtain ⟨x⟩ := a
  obtain ⟨y⟩ := b
  congr 1
  exact Array.toList_inj.mp h
theorem tl_one (c : Nat) : tl ⟨#[c]⟩ = [c] := rfl
theorem inD_str (z : Str) (xs : List Str) : inD (.str z) (xs.map .str) = decide (z ∈ xs) := by
  induction xs with
  | nil => rfl
  | cons x xs ih =>
    show (x == z || inD (.str z) (xs.map .str)) = _
    rw [ih, Bool.eq_iff_iff]
    simp only [Bool.or_eq_true, beq_iff_eq, decide_eq_true_eq, List.mem_cons]
    constructor
    · rintro (h | h)
      · exact .inl h.symm
      · exact .inr h
    · rintro (h | h)
      · exact .inl h.symm
      · exact .inr h
theorem flat_strs (xs : List Str) : (xs.map PyData.str).all flatD = true := by
  induction xs with
  | nil => rfl
  | cons x xs ih => exact ih
/-! slots forgotten -/
theorem wipeA_some {δ : AD} : ∀ {vs : List Nat} {i : Nat} {a : AV}, (wipeA δ vs)[i]? = some (some a) → δ[i]? = some (some a)
  | [], _, _, h => h
  | v :: vs, i, a, h => by
    have h : ((wipeA δ vs).set v none)[i]? = some (some a) := h
    rw [List.getElem?_set] at h
    split at h
    · split at h <;> cases h
    · exact wipeA_some h
theorem wipeA_len (δ : AD) : ∀ vs : List Nat, (wipeA δ vs).length = δ.length
  | [] => rfl
  | v :: vs => by
    show ((wipeA δ vs).set v none).length = _
    rw [List.length_set, wipeA_len]
theorem GhS.wipe {n : Nat} {δ : AD} (vs : List Nat) (l : n ≤ κ.length) : GhS K n δ κ (wipeA δ vs) κ := GhS.forget l (wipeA_len δ vs) fun _ _ h => wipeA_some h
end Ab
set_option Elab.async false
set_option linter.all false
set_option maxRecDepth 100000
set_option maxHeartbeats 4000000
/-! Ab8: lists one behind the other, pop, insert, tuple(x), join, f-strings, dicts -/
namespace Ab
open PySem L2
variable {K : Frg} {B B' B2 H H' H2 : Hp} {ρ ρ' ρ2 : List Addr} {κ κ' : AK} {δ : AD} {σ : L2.St} {p : Addr} {k : Nat} {v x y z : V} {a b c : AV}
variable {X : Cx} {e e2 : Expr} {t u : TE} {f f2 : AE} {pos : Pos}

/-! ### items -/
/-- the items of a list of data -/
def ldOf (κ : AK) : AV → Option (List PyData)
  | .d (.list xs) => some xs
  | .c k => match κ[k]? with
    | some (.ld xs) => some xs
    | _ => none
  | _ => none
theorem ldOf_ok (g : G K B ρ κ H) (r : Rep K B ρ a v) {xs : List PyData} (h : ldOf κ a = some xs) : ∃ p vs, v = .ref p ∧ SqL K H p vs ∧ DpAll K B vs xs := by
  unfold ldOf at h
  split at h
  · cases h; exact of_listG g r
  · obtain ⟨p, hp, rfl⟩ := r
    split at h
    · rename_i ys ek
      cases h
      obtain ⟨p', hp', _, vs, d1, eH⟩ := g.cell ek
      rw [hp] at hp'; cases hp'
      exact ⟨p, vs, rfl, .inl (.inl eH), d1⟩
    · cases h
  · cases h
def rCatS (K : PySem.W.Frag) : R2 := fun x y H Q => ∃ l b xs zs, x = .ref l ∧ y = .ref b ∧ SqL K H l xs ∧ SqL K H b zs ∧ xs.length + zs.length ≤ sizeLine ∧ ∀ p, H p = none → Q (.ref p) (upd H p (.lst (xs ++ zs)))
theorem op_catS : OpR X (binaryOp .Add) (rCatS X.K) := by
  intro pins s σ H x y v u Q I rx ry h
  obtain ⟨l, b, xs, zs, rfl, rfl, hx, hy, hz, q⟩ := h
  cases rx
  cases ry
  obtain ⟨its, r1, ⟨⟨cls, dd, data, sl⟩, n, ho, hc, hdn, hd⟩, _⟩ := I.list hx
  obtain ⟨its2, r2, ⟨⟨cls2, dd2, data2, sl2⟩, n2, ho2, hc2, hdn2, hd2⟩, _⟩ := I.list hy
  simp only at hc hd hc2 hd2
  subst hc hd hc2 hd2
  have e1 := r1.length
  have e2 := r2.length
  have e : its.toArray ++ its2.toArray = (its ++ its2).toArray := by simp
  refine concat_meets ⟨_, ho, rfl⟩ ⟨_, ho2, rfl⟩ noFill_list_add seq_list_add PySem.F.slot_list_add PySem.F.entry_list_add (PySem.F.args_list_add_2 _ _) (PyProof.Rows.list_addW l b its.toArray its2.toArray n n2 dd dd2 sl sl2 (by simp only [List.size_toArray]; omega)) ⟨ho, ho2, ?_⟩
  rw [e]
  exact ⟨.ref _, _, I.lnew (t' := s.toks) (r1.append r2) (by rw [List.length_append]; omega), rfl, q _ I.fresh⟩
/-- lists one behind the other: a new list as data, as a cell -/
def aCat (m : Bool) : AO := fun a b κ R => ∃ xs ys, ldOf κ a = some xs ∧ ldOf κ b = some ys ∧ xs.length + ys.length ≤ sizeLine ∧ (match m with
  | true => R (.c κ.length) (κ ++ [.ld (xs ++ ys)])
  | false => R (.d (.list (xs ++ ys))) κ)
theorem oa_cat (m : Bool) (hK : X.K = K := by rfl) : OpA K X (binaryOp .Add) (rCatS K) (aCat m) := by
  obtain ⟨K, Kn, KZ, Ku⟩ := K
  change X.K = K at hK
  subst hK
  refine ⟨op_catS, ?_⟩
  intro B ρ κ H x y a b R Q g rx ry h q
  obtain ⟨xs, ys, h1, h2, hz, h⟩ := h
  obtain ⟨p, vs, rfl, s1, d1⟩ := ldOf_ok g rx h1
  obtain ⟨p', vs', rfl, s2, d2⟩ := ldOf_ok g ry h2
  refine ⟨_, _, vs, vs', rfl, rfl, s1, s2, by rw [dpa_len d1, dpa_len d2]; exact hz, fun p hp => ?_⟩
  cases m with
  | true =>
    obtain ⟨u4, g4, r4⟩ := new_ld g hp (dpa_app d1 d2)
    exact q _ _ _ _ _ _ u4 g4 r4 h
  | false =>
    obtain ⟨u4, g4, r4⟩ := new_lst g hp (dpa_app d1 d2)
    exact q _ _ _ _ _ _ u4 g4 r4 h
/-- a text none or one times -/
def aMulS : AO := fun a b κ R => match a, b with
  | .d (.str s), .d (.int n) => (n = 0 ∧ R (.d (.str Str.empty)) κ) ∨ (n = 1 ∧ R (.d (.str s)) κ)
  | _, _ => False
def rMulS : R2 := fun x y H Q => ∃ s n, x = .str s ∧ y = .int n ∧ ((n = 0 ∧ Q (.str Str.empty) H) ∨ (n = 1 ∧ Q (.str s) H))
theorem op_mulS : OpR X (binaryOp .Mult) rMulS := by
  intro pins s σ H x y v u Q I rx ry h
  obtain ⟨z, n, rfl, rfl, h⟩ := h
  obtain ⟨t, rfl⟩ := rx
  obtain ⟨t2, rfl⟩ := ry
  rcases h with ⟨rfl, q⟩ | ⟨rfl, q⟩
  · exact PySem.SB.mul ⟨by decide, fun h => absurd (by decide) h, fun h => absurd (by decide) h⟩ fun t' k => ⟨.str _, H, I.tok k, ⟨t', rfl⟩, q⟩
  · exact PySem.SB.mul ⟨by decide, fun _ h => (by simp at h), fun _ h => (by simp at h)⟩ fun t' k => ⟨.str z, H, I.tok k, ⟨t', rfl⟩, q⟩
theorem oa_mulS : OpA K X (binaryOp .Mult) rMulS aMulS := by
  refine ⟨op_mulS, ?_⟩
  intro B ρ κ H x y a b R Q g rx ry h q
  unfold aMulS at h
  split at h
  · refine ⟨_, _, rx.str, ry.int, ?_⟩
    rcases h with ⟨e, h⟩ | ⟨e, h⟩
    · exact .inl ⟨e, q.at0 g (rp_str _) h⟩
    · exact .inr ⟨e, q.at0 g (rp_str _) h⟩
  · exact h.elim

/-! ### tuple(x) -/
def aTupOf : List AV → AK → AR → Prop := fun as κ R => match as with
  | [.d (.tuple ds)] => R (.d (.tuple ds)) κ
  | [a] => ∃ ds, ldOf κ a = some ds ∧ R (.d (.tuple ds)) κ
  | _ => False
theorem ca_tuple (hK : X.K = K := by rfl) : CallA K X (.type "tuple") (fun xs H Q => ∃ p ys, xs = [.ref p] ∧ ((SqL K H p ys ∧ ∀ l, H l = none → Q (.ref l) (upd H l (.tup ys))) ∨ (SqT K H p ys ∧ Q (.ref p) H))) aTupOf := by
  obtain ⟨K, Kn, KZ, Ku⟩ := K
  change X.K = K at hK
  subst hK
  refine ⟨call_tuple_of, fun B ρ κ H xs as R Q g rs h q => ?_⟩
  unfold aTupOf at h
  split at h
  · obtain ⟨x, rfl, r⟩ := reps1 rs
    have r' := r
    obtain ⟨p, vs, rfl, s1, d1⟩ := of_tupG g r
    exact ⟨p, vs, rfl, .inr ⟨s1, q.at0 g r' h⟩⟩
  · obtain ⟨x, rfl, r⟩ := reps1 rs
    obtain ⟨ds, hd, h⟩ := h
    obtain ⟨p, vs, rfl, s1, d1⟩ := ldOf_ok g r hd
    refine ⟨p, vs, rfl, .inl ⟨s1, fun l hl => ?_⟩⟩
    obtain ⟨u4, g4, r4⟩ := new_tup g hl d1
    exact q _ _ _ _ _ _ u4 g4 r4 h
  · exact h.elim

/-! ### methods -/
theorem dpa_erase : ∀ {ds : List PyData} {vs : List V} (n : Nat), DpAll K B vs ds → DpAll K B (vs.eraseIdx n) (ds.eraseIdx n)
  | [], _, n, h => by cases h; simp; exact .nil
  | d :: ds, _, n, h => by
    cases h with
    | cons h1 h2 =>
      cases n with
      | zero => exact h2
      | succ n => exact .cons h1 (dpa_erase n h2)
/-- xs.pop(i), i not below 0 -/
def aPopAt : AV → List AV → AK → AR → Prop := fun a as κ R => match a, as with
  | .c k, [.d (.int i)] => ∃ xs w, κ[k]? = some (.ld xs) ∧ 0 ≤ i ∧ i < 2 ^ 63 ∧ xs[i.toNat]? = some w ∧ R (.d w) (κ.set k (.ld (xs.eraseIdx i.toNat)))
  | _, _ => False
theorem ma_popAt : MtA K X "list.pop" rPopAt aPopAt := by
  refine ⟨mt_popAt, fun B ρ κ H x xs a as R Q g rx rs h q => ?_⟩
  unfold aPopAt at h
  split at h
  · rename_i k i
    obtain ⟨p, hp, rfl⟩ := rx
    obtain ⟨y, rfl, ry⟩ := reps1 rs
    obtain ⟨ys, w, ek, h0, h63, hw, h⟩ := h
    obtain ⟨vs, r, eH, wr⟩ := g.ldAt hp ek
    obtain ⟨v, hv, rv⟩ := dpa_get r hw
    obtain ⟨u2, g2⟩ := wr _ _ (dpa_erase i.toNat r)
    have hl : i.toNat < vs.length := (List.getElem?_eq_some_iff.mp hv).1
    refine ⟨p, vs, i, i.toNat, v, rfl, by rw [ry.int], eH, by omega, h63, ?_, hv, q _ _ _ _ (.d w) _ u2 g2 (dp_up u2.s _ _ rv) h⟩
    have hneg : ¬ i < 0 := by omega
    have hpos : (decide (0 ≤ i) && decide (i < (vs.length : Int))) = true := by rw [Bool.and_eq_true]; exact ⟨decide_eq_true h0, decide_eq_true (by omega)⟩
    simp [seqIndex?, hneg, h0]
    omega
  · exact h.elim
/-- xs.pop() -/
def aPop : AV → List AV → AK → AR → Prop := fun a as κ R => match a, as with
  | .c k, [] => ∃ xs w, κ[k]? = some (.ld (xs ++ [w])) ∧ R (.d w) (κ.set k (.ld xs))
  | _, _ => False
theorem ma_pop : MtA K X "list.pop" rPop aPop := by
  refine ⟨mt_pop, fun B ρ κ H x xs a as R Q g rx rs h q => ?_⟩
  unfold aPop at h
  split at h
  · rename_i k
    obtain ⟨p, hp, rfl⟩ := rx
    cases rs
    obtain ⟨ys, w, ek, h⟩ := h
    obtain ⟨vs, r, eH, wr⟩ := g.ldAt hp ek
    have hl := dpa_len r
    rw [List.length_append, List.length_singleton] at hl
    obtain ⟨v, hv, rv⟩ := dpa_get r (i := ys.length) (d := w) (by simp)
    have r2 : DpAll K B vs.dropLast ys := by
      have := dpa_take (vs.length - 1) r
      rw [← List.dropLast_eq_take, List.take_append_of_le_length (by omega), List.take_of_length_le (by omega)] at this
      exact this
    obtain ⟨u2, g2⟩ := wr _ _ r2
    refine ⟨p, vs, v, rfl, rfl, eH, by rw [hl]; exact hv, q _ _ _ _ (.d w) _ u2 g2 (dp_up u2.s _ _ rv) h⟩
  · exact h.elim
/-- xs.insert(i, y), i not below 0 -/
def aInsert : AV → List AV → AK → AR → Prop := fun a as κ R => match a, as with
  | .c k, [.d (.int i), .d z] => ∃ xs, κ[k]? = some (.ld xs) ∧ xs.length < sizeLine ∧ 0 ≤ i ∧ i < 2 ^ 63 ∧ R (.d .none) (κ.set k (.ld (xs.take i.toNat ++ [z] ++ xs.drop i.toNat)))
  | _, _ => False
theorem ma_insert : MtA K X "list.insert" (fun x vs H Q => ∃ (l : Addr) (xs : List V) (i : Int) (y : V), x = .ref l ∧ vs = [.int i, y] ∧ H l = some (.lst xs) ∧ xs.length < sizeLine ∧ 0 ≤ i ∧ i < 2 ^ 63 ∧
    Q .non (upd H l (.lst (xs.take i.toNat ++ [y] ++ xs.drop i.toNat)))) aInsert := by
  refine ⟨mt_insert, fun B ρ κ H x xs a as R Q g rx rs h q => ?_⟩
  unfold aInsert at h
  split at h
  · obtain ⟨p, hp, rfl⟩ := rx
    obtain ⟨y, z, rfl, r1, r2⟩ := reps2 rs
    obtain ⟨ys, ek, hl, h0, h1, h⟩ := h
    obtain ⟨vs, r, eH, wr⟩ := g.ldAt hp ek
    obtain ⟨u2, g2⟩ := wr _ _ (dpa_app (dpa_app (dpa_take _ r) (.cons r2 .nil)) (dpa_drop _ r))
    exact ⟨p, vs, _, z, rfl, by rw [r1.int], eH, by rw [dpa_len r]; exact hl, h0, h1, q _ _ _ _ _ _ u2 g2 rp_non h⟩
  · exact h.elim
theorem dpa_strs : ∀ {ys : List Str} {vs : List V}, DpAll K B vs (ys.map .str) → vs = ys.map V.str
  | [], _, h => by cases h; rfl
  | y :: ys, _, h => by
    cases h with
    | cons h1 h2 =>
      cases h1
      rw [dpa_strs h2]; rfl
/-- s.join(x) -/
def aJoin : AV → List AV → AK → AR → Prop := fun a as κ R => match a, as with
  | .d (.str s), [.d (.tuple ds)] => ∃ ys : List Str, ds = ys.map .str ∧ (ys.map (·.length)).sum + ys.length * s.length ≤ 16777216 ∧ R (.d (.str (Txt.join s ys))) κ
  | .d (.str s), [b] => ∃ ys : List Str, ldOf κ b = some (ys.map .str) ∧ (ys.map (·.length)).sum + ys.length * s.length ≤ 16777216 ∧ R (.d (.str (Txt.join s ys))) κ
  | _, _ => False
theorem ma_join (hK : X.K = K := by rfl) : MtA K X "str.join" (fun x xs H Q => ∃ a p, ∃ ys : List Str, x = .str a ∧ xs = [.ref p] ∧ (SqL K H p (ys.map V.str) ∨ SqT K H p (ys.map V.str)) ∧
    (ys.map (·.length)).sum + ys.length * a.length ≤ 16777216 ∧ Q (.str (Txt.join a ys)) H) aJoin := by
  obtain ⟨K, Kn, KZ, Ku⟩ := K
  change X.K = K at hK
  subst hK
  refine ⟨mt_join, fun B ρ κ H x xs a as R Q g rx rs h q => ?_⟩
  unfold aJoin at h
  split at h
  · obtain ⟨y, rfl, ry⟩ := reps1 rs
    cases rx.str
    obtain ⟨ys, rfl, hz, h⟩ := h
    obtain ⟨p, vs, rfl, s1, d1⟩ := of_tupG g ry
    obtain rfl := dpa_strs d1
    exact ⟨_, p, ys, rfl, rfl, .inr s1, hz, q.at0 g (rp_str _) h⟩
  · obtain ⟨y, rfl, ry⟩ := reps1 rs
    cases rx.str
    obtain ⟨ys, hl, hz, h⟩ := h
    obtain ⟨p, vs, rfl, s1, d1⟩ := ldOf_ok g ry hl
    obtain rfl := dpa_strs d1
    exact ⟨_, p, ys, rfl, rfl, .inl s1, hz, q.at0 g (rp_str _) h⟩
  · exact h.elim

/-! ### f-strings -/
def aFmt (f : AE) : AE := fun δ κ R => f δ κ fun a κ1 => match a with
  | .d (.str y) => y.length ≤ sizeLine ∧ R (.d (.str y)) κ1
  | .d (.int i) => i.natAbs.log2 < 1920 ∧ R (.d (.str (toString i))) κ1
  | _ => False
theorem ea_fmt (h : PEa K X e t f) : PEa K X (.FormattedValue e (-1) none pos) (tFmt t) (aFmt f) :=
  ⟨pe_fmt h.pe, fun B ρ δ κ σ H R Q s g hh q => h.sd B ρ δ κ σ H _ _ s g hh fun B1 ρ1 κ1 H1 a x u1 g1 r1 h1 => by
    split at h1
    · exact .inl ⟨_, r1.str, h1.1, q _ _ _ _ _ _ u1 g1 (rp_str _) h1.2⟩
    · exact .inr ⟨_, r1.int, h1.1, q _ _ _ _ _ _ u1 g1 (rp_str _) h1.2⟩
    · exact h1.elim⟩
abbrev AJ := Str → AD → AK → (Str → AK → Prop) → Prop
def aJNil : AJ := fun acc _ κ R => R acc κ
def aJCons (f : AE) (g : AJ) : AJ := fun acc δ κ R => f δ κ fun a κ1 => match a with
  | .d (.str y) => (acc ++ y).length ≤ sizeLine ∧ g (acc ++ y) δ κ1 R
  | _ => False
def SJ (K : Frg) (ts : List TE) (g : AJ) : Prop := ∀ acc B ρ δ κ σ H (R : Str → AK → Prop) (Q : Str → Hp → Prop), S K B ρ δ σ → G K B ρ κ H → g acc δ κ R →
  (∀ B' ρ' κ' H' out, Up B ρ H B' ρ' H' → G K B' ρ' κ' H' → R out κ' → Q out H') → tJs ts acc σ H Q
structure PJa (K : Frg) (X : Cx) (es : List Expr) (ts : List TE) (g : AJ) : Prop where
  pj : PJ X es ts
  sd : SJ K ts g
variable {es : List Expr} {ts : List TE} {gj : AJ}
theorem ja_nil : PJa K X [] [] aJNil := ⟨.nil, fun acc B ρ δ κ σ H R Q s g h q => q _ _ _ _ _ Up.refl g h⟩
theorem ja_cons (h1 : PEa K X e t f) (h2 : PJa K X es ts gj) : PJa K X (e :: es) (t :: ts) (aJCons f gj) :=
  ⟨.cons h1.pe h2.pj, fun acc B ρ δ κ σ H R Q s g hh q => h1.sd B ρ δ κ σ H _ _ s g hh fun B1 ρ1 κ1 H1 a x u1 g1 r1 k1 => by
    split at k1
    · exact ⟨_, r1.str, k1.1, h2.sd _ _ _ _ _ _ _ _ _ (s.up u1.g) g1 k1.2 fun B2 ρ2 κ2 H2 out u2 g2 h2 => q _ _ _ _ _ (u1.trans u2) g2 h2⟩
    · exact k1.elim⟩
def aJoined (g : AJ) : AE := fun δ κ R => g Str.empty δ κ fun out κ1 => R (.d (.str out)) κ1
theorem ea_joined {v1 v2 : Expr} {rest : List Expr} (h : PJa K X (v1 :: v2 :: rest) ts gj) : PEa K X (.JoinedStr (v1 :: v2 :: rest) pos) (fun σ H Q => tJs ts Str.empty σ H fun out H1 => Q (.str out) H1) (aJoined gj) :=
  ⟨pe_joined h.pj, fun B ρ δ κ σ H R Q s g hh q => h.sd _ _ _ _ _ _ _ _ _ s g hh fun B1 ρ1 κ1 H1 out u1 g1 h1 => q _ _ _ _ _ _ u1 g1 (rp_str _) h1⟩

/-! ### dicts with texts and numbers as keys, data as values -/
def keyD : L2.Key → PyData
  | .inl i => .int i
  | .inr s => .str s
theorem rep_key {k : L2.Key} (h : Rep K B ρ (.d (keyD k)) v) : v = kV k := by
  cases k with
  | inl i => exact h.int
  | inr s => exact h.str
def valD (kvs : List (L2.Key × PyData)) (k : L2.Key) : Option PyData := (kvs.find? fun kv => decide (kv.1 = k)).map (·.2)
def putD (kvs : List (L2.Key × PyData)) (k : L2.Key) (v : PyData) : List (L2.Key × PyData) :=
  if (kvs.any fun kv => decide (kv.1 = k)) = true then kvs.map (fun kv => if kv.1 = k then (kv.1, v) else kv) else kvs ++ [(k, v)]
def mergeD (kvs more : List (L2.Key × PyData)) : List (L2.Key × PyData) := more.foldl (fun acc kv => putD acc kv.1 kv.2) kvs
theorem valD_pos {k k' : L2.Key} {d : PyData} {r : List (L2.Key × PyData)} (h : k' = k) : valD ((k', d) :: r) k = some d := by simp [valD, List.find?_cons, h]
theorem valD_neg {k k' : L2.Key} {d : PyData} {r : List (L2.Key × PyData)} (h : k' ≠ k) : valD ((k', d) :: r) k = valD r k := by simp [valD, List.find?_cons, h]
theorem dpks_val {kvs : List (L2.Key × PyData)} {ws : List (L2.Key × V)} {k : L2.Key} {d : PyData} (h : DpKs K B kvs ws) : valD kvs k = some d → ∃ v, valV ws k = some v ∧ Dp K B v d := by
  unfold DpKs at h
  induction h with
  | nil => intro e; cases e
  | @cons p q ps qs h1 h2 ih =>
    obtain ⟨k1, d1⟩ := p
    obtain ⟨k2, v2⟩ := q
    obtain ⟨e, r⟩ := h1
    have e : k1 = k2 := e
    subst e
    intro hd
    by_cases hk : k1 = k
    · rw [valD_pos hk] at hd
      cases hd
      exact ⟨v2, valV_pos hk, r⟩
    · rw [valD_neg hk] at hd
      obtain ⟨v, h3, h4⟩ := ih hd
      exact ⟨v, by rw [valV_neg (p := (k1, v2)) hk]; exact h3, h4⟩
theorem dpks_any {kvs : List (L2.Key × PyData)} {ws : List (L2.Key × V)} {k : L2.Key} (h : DpKs K B kvs ws) : (kvs.any fun kv => decide (kv.1 = k)) = ws.any fun kv => decide (kv.1 = k) := by
  unfold DpKs at h
  induction h with
  | nil => rfl
  | @cons p q ps qs h1 h2 ih => rw [List.any_cons, List.any_cons, ih, h1.1]
theorem dpks_app {kvs kvs2 : List (L2.Key × PyData)} {ws ws2 : List (L2.Key × V)} (h : DpKs K B kvs ws) (h2 : DpKs K B kvs2 ws2) : DpKs K B (kvs ++ kvs2) (ws ++ ws2) := by
  unfold DpKs at h
  induction h with
  | nil => exact h2
  | cons h1 _ ih => exact .cons h1 ih
theorem dpks_put {kvs : List (L2.Key × PyData)} {ws : List (L2.Key × V)} {k : L2.Key} {d : PyData} (h : DpKs K B kvs ws) (r : Dp K B v d) : DpKs K B (putD kvs k d) (L2.putK ws k v) := by
  unfold putD L2.putK
  rw [dpks_any h]
  split
  · unfold DpKs at h
    induction h with
    | nil => exact .nil
    | @cons p q ps qs h1 h2 ih =>
      rw [List.map_cons, List.map_cons]
      refine .cons ?_ ?_
      · rw [h1.1]
        by_cases hk : q.1 = k
        · rw [if_pos hk, if_pos hk]; exact ⟨rfl, r⟩
        · rw [if_neg hk, if_neg hk]; exact h1
      · rename_i hany
        by_cases ha : (qs.any fun kv => decide (kv.1 = k)) = true
        · exact ih ha
        · have none : ∀ q ∈ qs, q.1 ≠ k := fun q hq e => ha (List.any_eq_true.mpr ⟨q, hq, decide_eq_true e⟩)
          have : ∀ {ps : List (L2.Key × PyData)} {qs : List (L2.Key × V)}, Paired (fun (p : L2.Key × PyData) (q : L2.Key × V) => p.1 = q.1 ∧ Dp K B q.2 p.2) ps qs → (∀ q ∈ qs, q.1 ≠ k) →
              Paired (fun (p : L2.Key × PyData) (q : L2.Key × V) => p.1 = q.1 ∧ Dp K B q.2 p.2) (ps.map fun kv => if kv.1 = k then (kv.1, d) else kv) (qs.map fun kv => if kv.1 = k then (kv.1, v) else kv) := by
            intro ps qs hp
            induction hp with
            | nil => intro _; exact .nil
            | @cons p q ps qs h1 h2 ih =>
              intro hn
              have hq := hn q (List.mem_cons_self ..)
              rw [List.map_cons, List.map_cons, h1.1, if_neg hq, if_neg hq]
              exact .cons h1 (ih fun z hz => hn z (List.mem_cons_of_mem _ hz))
          exact this h2 none
  · exact dpks_app h (.cons ⟨rfl, r⟩ .nil)
theorem dpks_merge : ∀ {more : List (L2.Key × PyData)} {rs : List (L2.Key × V)} {kvs : List (L2.Key × PyData)} {ws : List (L2.Key × V)}, DpKs K B more rs → DpKs K B kvs ws → DpKs K B (mergeD kvs more) (mergeK ws rs) := by
  intro more rs kvs ws r
  unfold DpKs at r
  induction r generalizing kvs ws with
  | nil => intro q; exact q
  | @cons p q ps qs h t ih =>
    intro r0
    refine ih (kvs := putD kvs p.1 p.2) (ws := L2.putK ws q.1 q.2) ?_
    rw [h.1]
    exact dpks_put r0 h.2
/-- a dict cell -/
theorem G.dkAt (g : G K B ρ κ H) {xs : List (L2.Key × PyData)} (hp : ρ[k]? = some p) (ek : κ[k]? = some (.dK xs)) : ∃ vs, DpKs K B xs vs ∧ H p = some (.dK vs) ∧
    ∀ xs' vs', DpKs K B xs' vs' → Up B ρ H B ρ (upd H p (.dK vs')) ∧ G K B ρ (κ.set k (.dK xs')) (upd H p (.dK vs')) := by
  obtain ⟨p', hp', hb, vs, r, eH⟩ := g.cell ek
  rw [hp] at hp'; cases hp'
  refine ⟨vs, r, eH, fun xs' vs' r' => ⟨G.writeUp hp, ?_⟩⟩
  have hc : CellOk K B ρ (upd H p (.dK vs')) p (.dK xs') := ⟨hb, vs', r', upd_same⟩
  exact g.write hp hb hc
/-- d[y] -/
def aDGet (f f2 : AE) : AE := fun δ κ R => f δ κ fun a κ1 => f2 δ κ1 fun b κ2 => match a with
  | .c k => ∃ kvs key d, κ2[k]? = some (.dK kvs) ∧ b = .d (keyD key) ∧ valD kvs key = some d ∧ R (.d d) κ2
  | _ => False
theorem ea_dget {l : Nat} (hr : Room l X.A) (h1 : PEa K X e t f) (h2 : PEa K X e2 u f2) (hs : NoSl e2 := by exact fun _ _ => rfl) : PEa K X (.Subscript e e2 pos) (tDGet t u) (aDGet f f2) :=
  ⟨pe_dget (Nat.lt_of_le_of_lt (by omega) hr.units) h1.pe h2.pe hs, fun B ρ δ κ σ H R Q s g hh q => h1.sd B ρ δ κ σ H _ _ s g hh fun B1 ρ1 κ1 H1 a x u1 g1 r1 k1 => h2.sd _ _ _ _ _ _ _ _ (s.up u1.g) g1 k1 fun B2 ρ2 κ2 H2 b y u2 g2 r2 k2 => by
    split at k2
    · obtain ⟨kvs, key, d, ek, rfl, hv, k2⟩ := k2
      obtain ⟨p, hp, rfl⟩ := r1.up u2.g
      obtain ⟨vs, r, eH, _⟩ := g2.dkAt hp ek
      obtain ⟨v, hv', rv⟩ := dpks_val r hv
      have := rep_key r2
      subst this
      exact ⟨p, v, rfl, by rw [← hv']; exact DGet.k eH, q _ _ _ _ (.d d) _ (u1.trans u2) g2 rv k2⟩
    · exact k2.elim⟩
/-- d[y] = v -/
def aDPut (fo fi fv : AE) : AS := fun A δ κ => fv δ κ fun v κ1 => fo δ κ1 fun a κ2 => fi δ κ2 fun b κ3 => match a with
  | .c k => ∃ kvs key d, κ3[k]? = some (.dK kvs) ∧ b = .d (keyD key) ∧ v = .d d ∧ kvs.length < sizeLine ∧ A.nx δ (κ3.set k (.dK (putD kvs key d)))
  | _ => False
variable {o i val : Expr} {to' ti tv : TE} {fo fi fv : AE} {pos' : Pos}
theorem sa_dput {l : Nat} (hr : Room l X.A) (ho : PEa K X o to' fo) (hi : PEa K X i ti fi) (hv : PEa K X val tv fv) (hs : swapsWith val (some (.Subscript o i pos')) pos.line X.env = pure false := by rfl) :
    PSa K X (.Assign [.Subscript o i pos'] val pos) (sDPut to' ti tv) (aDPut fo fi fv) :=
  ⟨ps_dput (Nat.lt_of_le_of_lt (by omega) hr.units) ho.pe hi.pe hv.pe hs, fun B ρ δ κ σ H A D s g l hh im => hv.sd B ρ δ κ σ H _ _ s g hh fun B1 ρ1 κ1 H1 vv xv u1 g1 r1 k1 => ho.sd _ _ _ _ _ _ _ _ (s.up u1.g) g1 k1 fun B2 ρ2 κ2 H2 a xo u2 g2 r2 k2 => hi.sd _ _ _ _ _ _ _ _ (s.up (u1.trans u2).g) g2 k2 fun B3 ρ3 κ3 H3 b xi u3 g3 r3 k3 => by
    split at k3
    · obtain ⟨kvs, key, d, ek, rfl, rfl, hl, k3⟩ := k3
      obtain ⟨p, hp, rfl⟩ := r2.up u3.g
      obtain ⟨vs, r, eH, wr⟩ := g3.dkAt hp ek
      have := rep_key r3
      subst this
      have rd : Dp K B3 xv d := dp_up (u2.trans u3).s _ _ r1
      obtain ⟨u4, g4⟩ := wr _ _ (dpks_put (k := key) r rd)
      have w := ((u1.trans u2).trans u3).trans u4
      refine ⟨p, _, rfl, DPut.k eH (by rw [← Paired.length r]; exact hl), im.nx _ _ _ _ _ _ w.n g4 (s.up w.g) (Nat.le_trans l (w.len g g4)) k3⟩
    · exact k3.elim⟩
/-- {k: v, ..} -/
abbrev APs := AD → AK → (List (AV × AV) → AK → Prop) → Prop
def aPNil : APs := fun _ κ R => R [] κ
def aPCons (fk fv : AE) (g : APs) : APs := fun δ κ R => fk δ κ fun a κ1 => fv δ κ1 fun b κ2 => g δ κ2 fun ps κ3 => R ((a, b) :: ps) κ3
abbrev RepP (K : PySem.W.Frag) (B : Hp) (ρ : List Addr) : List (AV × AV) → List (V × V) → Prop := Paired fun p q => Rep K B ρ p.1 q.1 ∧ Rep K B ρ p.2 q.2
theorem RepP.up (w : Ug B ρ B' ρ') {as : List (AV × AV)} {vs : List (V × V)} (h : RepP K B ρ as vs) : RepP K B' ρ' as vs := Paired.mapP h fun _ _ r => ⟨r.1.up w, r.2.up w⟩
def SP (K : Frg) (ts : List (TE × TE)) (g : APs) : Prop := ∀ B ρ δ κ σ H (R : List (AV × AV) → AK → Prop) (Q : List (V × V) → Hp → Prop), S K B ρ δ σ → G K B ρ κ H → g δ κ R →
  (∀ B' ρ' κ' H' as vs, Up B ρ H B' ρ' H' → G K B' ρ' κ' H' → RepP K B' ρ' as vs → R as κ' → Q vs H') → tPairs ts σ H Q
structure PPa (K : Frg) (X : Cx) (pos : Pos) (keys : List (Option Expr)) (values : List Expr) (ts : List (TE × TE)) (g : APs) : Prop where
  pp : PPs X pos keys values ts
  sd : SP K ts g
variable {ks : List (Option Expr)} {vs : List Expr} {tps : List (TE × TE)} {gp : APs}
theorem pa_pnil : PPa K X pos [] [] [] aPNil := ⟨pps_nil, fun B ρ δ κ σ H R Q s g h q => q _ _ _ _ _ _ Up.refl g .nil h⟩
theorem pa_pcons (h1 : PEa K X e t f) (h2 : PEa K X e2 u f2) (h3 : PPa K X pos ks vs tps gp) : PPa K X pos (some e :: ks) (e2 :: vs) ((t, u) :: tps) (aPCons f f2 gp) :=
  ⟨pps_cons h1.pe h2.pe h3.pp, fun B ρ δ κ σ H R Q s g hh q => h1.sd B ρ δ κ σ H _ _ s g hh fun B1 ρ1 κ1 H1 a x u1 g1 r1 k1 => h2.sd _ _ _ _ _ _ _ _ (s.up u1.g) g1 k1 fun B2 ρ2 κ2 H2 b y u2 g2 r2 k2 =>
    h3.sd _ _ _ _ _ _ _ _ (s.up (u1.trans u2).g) g2 k2 fun B3 ρ3 κ3 H3 as ws u3 g3 r3 k3 => q _ _ _ _ _ _ ((u1.trans u2).trans u3) g3 (.cons ⟨r1.up (u2.trans u3).g, r2.up u3.g⟩ r3) k3⟩
def aDisp (g : APs) : AE := fun δ κ R => g δ κ fun ps κ1 => ∃ kvs : List (L2.Key × PyData), ps = kvs.map (fun p => (.d (keyD p.1), .d p.2)) ∧ kvs.length ≤ 15 ∧ R (.c κ1.length) (κ1 ++ [.dK (mergeD [] kvs)])
theorem repP_kvs : ∀ {kvs : List (L2.Key × PyData)} {ps : List (V × V)}, RepP K B ρ (kvs.map (fun p => (.d (keyD p.1), .d p.2))) ps → ∃ ws : List (L2.Key × V), ps = ws.map (fun p => (kV p.1, p.2)) ∧ DpKs K B kvs ws
  | [], _, h => by cases h; exact ⟨[], rfl, .nil⟩
  | p :: kvs, _, h => by
    rw [List.map_cons] at h
    cases h with
    | @cons _ b _ bs h1 h2 =>
      obtain ⟨ws, rfl, r⟩ := repP_kvs h2
      obtain ⟨b1, b2⟩ := b
      have e : b1 = kV p.1 := rep_key h1.1
      subst e
      exact ⟨(p.1, b2) :: ws, rfl, .cons ⟨rfl, h1.2⟩ r⟩
theorem ea_disp {keys : List (Option Expr)} {values : List Expr} (h : PPa K X pos keys values tps gp) (hall : keys.all (·.isSome) = true := by rfl) (hl : keys.length = values.length := by rfl) (h0 : keys ≠ [] := by exact List.cons_ne_nil _ _)
    (h15 : keys.length ≤ 15 := by decide) : PEa K X (.Dict keys values pos) (tDisp tps) (aDisp gp) :=
  ⟨pe_disp h.pp hall hl h0 h15, fun B ρ δ κ σ H R Q s g hh q => by
    intro p hp
    have hb := g.fresh hp
    have hr : p ∉ ρ := fun z => by
      obtain ⟨i, hi⟩ := List.mem_iff_getElem?.mp z
      exact g.nin hp hi rfl
    refine h.sd B ρ δ κ σ _ _ _ s (g.off hb hr (K.up _ _ _ _ _ _ (Up.refl.off hp).n g.z)) hh fun B1 ρ1 κ1 H1 as vs u1 g1 r1 h1 => ?_
    obtain ⟨kvs, rfl, h15, h1⟩ := h1
    obtain ⟨ws, rfl, rd⟩ := repP_kvs r1
    obtain ⟨eD, b1, n1⟩ := u1.f p (.dK []) upd_same (.inl hb) hr
    have b1 : B1 p = none := b1.elim id fun ⟨ws, z⟩ => by cases z
    refine ⟨eD, ws, rfl, by rw [← Paired.length rd]; exact h15, ?_⟩
    have wz : Up B ρ H B1 (ρ1 ++ [p]) (upd H1 p (.dK (mergeK [] ws))) := by
      refine ⟨u1.s, fun i a h => get_app (u1.p i a h), fun r o h1 h2 h3 => ?_⟩
      have hq := ne_of_none h1 hp
      obtain ⟨y1, y2, y3⟩ := u1.f r o (by rw [upd_ne hq]; exact h1) h2 h3
      refine ⟨by rw [upd_ne hq]; exact y1, y2, fun z => ?_⟩
      rcases List.mem_append.mp z with z | z
      · exact y3 z
      · exact hq (by simpa using z)
    -- the dict becomes a cell
    have g2 : G K B1 (ρ1 ++ [p]) (κ1 ++ [.dK (mergeD [] kvs)]) (upd H1 p (.dK (mergeK [] ws))) := by
      have hc : CellOk K B1 ρ1 (upd H1 p (.dK (mergeK [] ws))) p (.dK (mergeD [] kvs)) := ⟨b1, _, dpks_merge rd .nil, upd_same⟩
      refine ⟨fun b u e => ?_, by rw [List.length_append, List.length_append, g1.len] <;> rfl, fun i j r h1 h2 => ?_, fun i r c h1 h2 => ?_, K.up _ _ _ _ _ _ wz.n g.z⟩
      · rw [upd_ne (ne_of_none e b1)]; exact g1.ex b u e
      · rcases get_snoc h1 with ⟨l1, e1⟩ | ⟨l1, e1⟩
        · rcases get_snoc h2 with ⟨l2, e2⟩ | ⟨l2, e2⟩
          · exact g1.inj i j r e1 e2
          · subst e2; exact absurd (mem_of_get e1) n1
        · rcases get_snoc h2 with ⟨l2, e2⟩ | ⟨l2, e2⟩
          · subst e1; exact absurd (mem_of_get e2) n1
          · rw [l1, l2]
      · rcases get_snoc h1 with ⟨l1, e1⟩ | ⟨l1, e1⟩
        · rw [List.getElem?_append_left (g1.len ▸ l1)] at h2
          have hq : r ≠ p := fun z => n1 (z ▸ mem_of_get e1)
          exact (g1.at' i r c e1 h2).up up_snoc Or.inl fun o' e => by rw [upd_ne hq]; exact e
        · subst e1
          rcases get_snoc h2 with ⟨l2, e2⟩ | ⟨l2, e2⟩
          · rw [l1, g1.len] at l2; exact absurd l2 (Nat.lt_irrefl _)
          · subst e2; exact hc.up up_snoc Or.inl fun _ e => e
    exact q B1 (ρ1 ++ [p]) _ _ _ _ wz g2 (rep_new g1) h1⟩
end Ab
set_option Elab.async false
set_option linter.all false
set_option maxRecDepth 100000
set_option maxHeartbeats 4000000
/-! Ab9: objects: attributes, methods, new ones; a try from whose body nothing is raised -/
namespace Ab
open PySem L2
variable {K : Frg} {B B' B2 H H' H2 : Hp} {ρ ρ' ρ2 : List Addr} {κ κ' : AK} {δ : AD} {σ : L2.St} {p : Addr} {k : Nat} {v x y z : V} {a b c : AV}
variable {X : Cx} {e e2 : Expr} {t u : TE} {f f2 : AE} {pos : Pos}
/-! ### attributes -/
def lookA (g : Str) : List (Str × AV) → Option AV
  | [] => none
  | (h, x) :: r => if h = g then some x else lookA g r
def putA (g : Str) (v : AV) : List (Str × AV) → List (Str × AV)
  | [] => [(g, v)]
  | (h, x) :: r => if h = g then (h, v) :: r else (h, x) :: putA g v r
theorem look_cons_eq {g : Str} {v : V} {r : List (Str × V)} : List.lookup g ((g, v) :: r) = some v := by simp
theorem look_cons_ne {g h : Str} {v : V} {r : List (Str × V)} (n : h ≠ g) : List.lookup g ((h, v) :: r) = List.lookup g r := by
  have : (g == h) = false := by simpa using fun e => n (Eq.symm e)
  simp [List.lookup, this]
theorem repKs_look {g : Str} : ∀ {fs : List (Str × AV)} {ws : List (Str × V)} {b : AV}, RepKs K B ρ fs ws → lookA g fs = some b → ∃ v, ws.lookup g = some v ∧ Rep K B ρ b v
  | _, _, _, .nil, e => by cases e
  | (h, x) :: r, (h', w) :: ws, b, .cons h1 h2, e => by
    obtain ⟨e1, r1⟩ := h1
    have e1 : h = h' := e1
    subst e1
    unfold lookA at e
    by_cases hg : h = g
    · rw [if_pos hg] at e; cases e
      subst hg
      exact ⟨w, look_cons_eq, r1⟩
    · rw [if_neg hg] at e
      obtain ⟨v, h3, h4⟩ := repKs_look h2 e
      exact ⟨v, by rw [look_cons_ne hg]; exact h3, h4⟩
theorem repKs_none {g : Str} : ∀ {fs : List (Str × AV)} {ws : List (Str × V)}, RepKs K B ρ fs ws → lookA g fs = none → ws.lookup g = none
  | _, _, .nil, _ => rfl
  | (h, x) :: r, (h', w) :: ws, .cons h1 h2, e => by
    obtain ⟨e1, r1⟩ := h1
    have e1 : h = h' := e1
    subst e1
    unfold lookA at e
    by_cases hg : h = g
    · rw [if_pos hg] at e; cases e
    · rw [if_neg hg] at e
      rw [look_cons_ne hg]
      exact repKs_none h2 e
theorem repKs_put {g : Str} {b : AV} {v : V} (rb : Rep K B ρ b v) : ∀ {fs : List (Str × AV)} {ws : List (Str × V)}, RepKs K B ρ fs ws → RepKs K B ρ (putA g b fs) (putF g v ws)
  | _, _, .nil => .cons ⟨rfl, rb⟩ .nil
  | (h, x) :: r, (h', w) :: ws, .cons h1 h2 => by
    obtain ⟨e1, r1⟩ := h1
    have e1 : h = h' := e1
    subst e1
    show RepKs K B ρ (if h = g then (h, b) :: r else (h, x) :: putA g b r) (if h = g then (h, v) :: ws else (h, w) :: putF g v ws)
    by_cases hg : h = g
    · rw [if_pos hg, if_pos hg]; exact .cons ⟨rfl, rb⟩ h2
    · rw [if_neg hg, if_neg hg]; exact .cons ⟨rfl, r1⟩ (repKs_put rb h2)
theorem repKs_len : ∀ {fs : List (Str × AV)} {ws : List (Str × V)}, RepKs K B ρ fs ws → ws.length = fs.length
  | _, _, .nil => rfl
  | _ :: _, _ :: _, .cons _ h2 => congrArg (· + 1) (repKs_len h2)
theorem G.insAt (g : G K B ρ κ H) {C : Addr} {fs : List (Str × AV)} (hp : ρ[k]? = some p) (ek : κ[k]? = some (.ins C fs)) : ∃ dx ws, RepKs K B ρ fs ws ∧ H p = some (.ins C dx ws) ∧
    ∀ fs' ws', RepKs K B ρ fs' ws' → Up B ρ H B ρ (upd H p (.ins C dx ws')) ∧ G K B ρ (κ.set k (.ins C fs')) (upd H p (.ins C dx ws')) := by
  obtain ⟨p', hp', hb, dx, ws, r, eH⟩ := g.cell ek
  rw [hp] at hp'; cases hp'
  refine ⟨dx, ws, r, eH, fun fs' ws' r' => ⟨G.writeUp hp, ?_⟩⟩
  have hc : CellOk K B ρ (upd H p (.ins C dx ws')) p (.ins C fs') := ⟨hb, dx, ws', r', upd_same⟩
  exact g.write hp hb hc
/-- o.g -/
def aFld (C : Addr) (g : Str) (fo : AE) : AE := fun δ κ R => fo δ κ fun a κ1 => match a with
  | .c k => ∃ fs b, κ1[k]? = some (.ins C fs) ∧ lookA g fs = some b ∧ R b κ1
  | _ => False
theorem ea_fld {C : Addr} {g : Str} (hc : Cls K C) (hn : NoAttr K C g) (h : PEa K X e t f) (hb : attributeBase e g X.env (eval e X.env) = eval e X.env := by rfl) (hK : X.K = K := by rfl) : PEa K X (.Attribute e g pos) (tFld K t g) (aFld C g f) := by
  obtain ⟨K, Kn, KZ, Ku⟩ := K
  change X.K = K at hK
  subst hK
  exact ⟨pe_fld h.pe hb, fun B ρ δ κ σ H R Q s gg hh q => h.sd B ρ δ κ σ H _ _ s gg hh fun B1 ρ1 κ1 H1 a x u1 g1 r1 h1 => by
    split at h1
    · obtain ⟨fs, b, ek, lb, h1⟩ := h1
      obtain ⟨p, hp, rfl⟩ := r1
      obtain ⟨dx, ws, r, eH, _⟩ := g1.insAt hp ek
      obtain ⟨v, lv, rv⟩ := repKs_look r lb
      exact ⟨p, C, dx, ws, v, rfl, eH, hc, hn, lv, q _ _ _ _ _ _ u1 g1 rv h1⟩
    · exact h1.elim⟩
/-- o.g = v -/
def aFldSet (C : Addr) (g : Str) (fo fv : AE) : AS := fun A δ κ => fv δ κ fun v κ1 => fo δ κ1 fun a κ2 => match a with
  | .c k => ∃ fs, κ2[k]? = some (.ins C fs) ∧ fs.length < 1000 ∧ A.nx δ (κ2.set k (.ins C (putA g v fs)))
  | _ => False
variable {o val : Expr} {to' tv : TE} {fo fv : AE} {pos' : Pos}
theorem sa_fld {C : Addr} {g : Str} (hc : Cls K C) (hn : NoAttr K C g) (ho : PEa K X o to' fo) (hv : PEa K X val tv fv) (hs : swapsWith val (some (.Attribute o g pos')) pos.line X.env = pure false := by rfl) (hK : X.K = K := by rfl) :
    PSa K X (.Assign [.Attribute o g pos'] val pos) (sFld K to' tv g) (aFldSet C g fo fv) := by
  obtain ⟨K, Kn, KZ, Ku⟩ := K
  change X.K = K at hK
  subst hK
  exact ⟨ps_fld ho.pe hv.pe hs, fun B ρ δ κ σ H A D s gg l hh im => hv.sd B ρ δ κ σ H _ _ s gg hh fun B1 ρ1 κ1 H1 vv xv u1 g1 r1 k1 => ho.sd _ _ _ _ _ _ _ _ (s.up u1.g) g1 k1 fun B2 ρ2 κ2 H2 a xo u2 g2 r2 k2 => by
    split at k2
    · obtain ⟨fs, ek, hl, k2⟩ := k2
      obtain ⟨p, hp, rfl⟩ := r2
      obtain ⟨dx, ws, r, eH, wr⟩ := g2.insAt hp ek
      obtain ⟨u3, g3⟩ := wr _ _ (repKs_put (g := g) (r1.up u2.g) r)
      have w := (u1.trans u2).trans u3
      exact ⟨p, C, dx, ws, rfl, eH, hc, hn, by rw [repKs_len r]; exact hl, im.nx _ _ _ _ _ _ w.n g3 (s.up w.g) (Nat.le_trans l (w.len gg g3)) k2⟩
    · exact k2.elim⟩
/-- o.g op= v, numbers -/
def aFldAug (C : Addr) (g : Str) (h : Int → Int → Int) (fo fv : AE) : AS := fun A δ κ => fo δ κ fun a κ1 => match a with
  | .c k => ∃ fs i, κ1[k]? = some (.ins C fs) ∧ lookA g fs = some (.d (.int i)) ∧ fv δ κ1 fun b κ2 => match b with
    | .d (.int j) => ∃ fs', κ2[k]? = some (.ins C fs') ∧ fs'.length < 1000 ∧ A.nx δ (κ2.set k (.ins C (putA g (.d (.int (h i j))) fs')))
    | _ => False
  | _ => False
theorem sa_fldaug {C : Addr} {g : Str} {op : Operator} {h : Int → Int → Int} (hc : Cls K C) (hn : NoAttr K C g) (hop : InOp X op (fun x y H Q => ∃ i j, x = .int i ∧ y = .int j ∧ Q (.int (h i j)) H)) (ho : PEa K X o to' fo) (hv : PEa K X val tv fv) (hK : X.K = K := by rfl) :
    PSa K X (.AugAssign (.Attribute o g pos') op val pos) (sFldAug K to' tv (fun x y H Q => ∃ i j, x = .int i ∧ y = .int j ∧ Q (.int (h i j)) H) g) (aFldAug C g h fo fv) := by
  obtain ⟨K, Kn, KZ, Ku⟩ := K
  change X.K = K at hK
  subst hK
  exact ⟨ps_fldaug ho.pe hv.pe hop, fun B ρ δ κ σ H A D s gg l hh im => ho.sd _ _ _ _ _ _ _ _ s gg hh fun B1 ρ1 κ1 H1 a xo u1 g1 r1 k1 => by
    split at k1
    · obtain ⟨fs, i, ek, lb, k1⟩ := k1
      obtain ⟨p, hp, rfl⟩ := r1
      obtain ⟨dx, ws, r, eH, wr⟩ := g1.insAt hp ek
      obtain ⟨v, lv, rv⟩ := repKs_look r lb
      refine ⟨p, C, dx, ws, v, rfl, eH, hc, hn, lv, hv.sd _ _ _ _ _ _ _ _ (s.up u1.g) g1 k1 fun B2 ρ2 κ2 H2 b xv u2 g2 r2 k2 => ?_⟩
      split at k2
      · rename_i j
        obtain ⟨fs', ek', hl, k2⟩ := k2
        have hp2 := u2.p _ _ hp
        obtain ⟨dx', ws', r', eH', wr'⟩ := g2.insAt hp2 ek'
        obtain ⟨u3, g3⟩ := wr' _ _ (repKs_put (g := g) (rp_int (h i j)) r')
        have w := (u1.trans u2).trans u3
        exact ⟨i, j, rv.int, r2.int, dx', ws', eH', by rw [repKs_len r']; exact hl, im.nx _ _ _ _ _ _ w.n g3 (s.up w.g) (Nat.le_trans l (w.len gg g3)) k2⟩
      · exact k2.elim
    · exact k1.elim⟩
/-! ### methods -/
def aMeth (C : Addr) (m : Str) (F : FSp) (fo : AE) (fa : AA) : AE := fun δ κ R => fo δ κ fun a κ1 => match a with
  | .c k => ∃ fs, κ1[k]? = some (.ins C fs) ∧ lookA m fs = none ∧ fa δ κ1 fun as κ2 => callW F (fun _ _ => False) (.c k :: as) κ2 R
  | _ => False
variable {ta : TA} {fa : AA} {es : List Expr}
theorem callW_sd {F : FSp} {E : XK} {as : List AV} {vs : List V} {R : AR} {Q : VK} (g : G K B ρ κ H) (r : Reps K B ρ as vs) (h : callW F (fun _ _ => False) as κ R) (q : Nx K B ρ H R Q) : spA K F vs H Q E := by
  obtain ⟨js, asl, κl, nd, e1, e2, hF⟩ := callW_e h
  refine ⟨B, selR js ρ, κl, asl, _, _, sel_ok g nd e2, selAs_ok (fun i j p h1 h2 => selR_get h1 h2) e1 r, hF, ?_, ?_⟩
  · rintro B' ρ' κ' H' a v w2 g2 r2 ⟨l, cl, lv, hR⟩
    obtain ⟨w3, g3, r3⟩ := back_ok g nd e2 w2 g2 l cl lv
    exact q _ _ _ _ _ _ w3 g3 (r3 r2) hR
  · rintro B' ρ' κ' H' x cls d w2 g2 r2 ⟨l, cl, lv, hR⟩
    exact hR.elim
theorem se_meth {C : Addr} {m : Str} {F : FSp} {E : XK} (ho : SE K t f) (ha : SA K ta fa) : SE K (tMeth C m (spA K F) [] E t ta) (aMeth C m F f fa) := fun B ρ δ κ σ H R Q s g hh q =>
  ho B ρ δ κ σ H _ _ s g hh fun B1 ρ1 κ1 H1 a x u1 g1 r1 h1 => by
    split at h1
    · rename_i j
      obtain ⟨fs, ek, ln, h1⟩ := h1
      obtain ⟨p, hp, rfl⟩ := id r1
      obtain ⟨dx, ws, r, eH, _⟩ := g1.insAt hp ek
      refine ⟨p, dx, ws, rfl, eH, repKs_none r ln, ha _ _ _ _ _ _ _ _ (s.up u1.g) g1 h1 fun B2 ρ2 κ2 H2 as vs u2 g2 r2 h2 => ?_⟩
      show spA K F (.ref p :: (vs ++ [])) H2 Q E
      rw [List.append_nil]
      exact callW_sd g2 (.cons (r1.up u2.g) r2) h2 (q.later (u1.trans u2))
    · exact h1.elim
section
variable {l : Nat} {fm C : Addr} {fd : FuncData} {ps : List Str} {F : FSp} {m : Str} {apos : Pos} {pl : Sem Bool}
theorem ea_meth (Fo : FnOk X.prog X.w X.K X.mg X.base CX0 l fm fd ps (spA K F)) (hr : Room l X.A) (hc : Cls K C) (hm : Meth K C m fm) (hb : Binds K fd ps []) (ho : PEa K X o t f) (ha : PAa K X (e :: es) ta fa)
    (hst : starEach (e :: es) X.env = (false, eval e X.env) :: starEach es X.env := by rfl) (hpl : (backTo pos (starEach es X.env)).any (·.1) = false := by rfl)
    (ht : eval (.Call (.Attribute o m apos) (e :: es) [] pos) X.env = (do
      let ov ← eval o X.env
      standAt apos.atName
      let (f, first) ← holding [ov] (getMethod ov m pl)
      callWith pos f first (backTo pos (starEach (e :: es) X.env)) (backToKw pos (keywordEach [] X.env))) := by rfl) (hK : X.K = K := by rfl) :
    PEa K X (.Call (.Attribute o m apos) (e :: es) [] pos) (tMeth C m (spA K F) [] E0 t ta) (aMeth C m F f fa) := by
  obtain ⟨K, Kn, KZ, Ku⟩ := K
  change X.K = K at hK
  subst hK
  exact ⟨pe_meth (pl := pl) ho.pe hc hm Fo hr hb .nil pass0 ha.pa hst hpl ht, se_meth ho.sd ha.sd⟩
theorem ea_meth0 (Fo : FnOk X.prog X.w X.K X.mg X.base CX0 l fm fd ps (spA K F)) (hr : Room l X.A) (hc : Cls K C) (hm : Meth K C m fm) (hb : Binds K fd ps []) (ho : PEa K X o t f)
    (ht : eval (.Call (.Attribute o m apos) [] [] pos) X.env = (do
      let ov ← eval o X.env
      standAt apos.atName
      let (f, first) ← holding [ov] (getMethod ov m pl)
      callWith pos f first (backTo pos (starEach [] X.env)) (backToKw pos (keywordEach [] X.env))) := by rfl) (hK : X.K = K := by rfl) :
    PEa K X (.Call (.Attribute o m apos) [] [] pos) (tMeth C m (spA K F) [] E0 t tNil) (aMeth C m F f aNil) := by
  obtain ⟨K, Kn, KZ, Ku⟩ := K
  change X.K = K at hK
  subst hK
  exact ⟨pe_meth0 (pl := pl) ho.pe hc hm Fo hr hb .nil pass0 ht, se_meth ho.sd fun B ρ δ κ σ H R Q s g h q => q _ _ _ _ _ _ Up.refl g .nil h⟩
end
/-! ### a new object -/
def aMake (C : Addr) (F : FSp) (fa : AA) : AE := fun δ κ R => fa δ κ fun as κ1 => callW F (fun _ _ => False) (.c κ1.length :: as) (κ1 ++ [.ins C []]) fun a κ2 => a = .d .none ∧ R (.c κ1.length) κ2
theorem se_make {C : Addr} {F : FSp} {E : XK} (ha : SA K ta fa) : SE K (tMake C (spA K F) [] E ta) (aMake C F fa) := fun B ρ δ κ σ H R Q s g hh q =>
  ha B ρ δ κ σ H _ _ s g hh fun B1 ρ1 κ1 H1 as vs u1 g1 r1 h1 => by
    intro x dx hx hdx hne
    show spA K F (.ref x :: (vs ++ [])) _ _ E
    rw [List.append_nil]
    have nin : ∀ {q : Addr}, H1 q = none → q ∉ ρ1 := fun {q} hq z => by
      obtain ⟨i, hi⟩ := List.mem_iff_getElem?.mp z
      exact g1.nin hq hi rfl
    have g2 : G K B1 ρ1 κ1 (upd H1 dx (.own x)) := g1.off (g1.fresh hdx) (nin hdx) (K.up _ _ _ _ _ _ (Up.refl.off hdx).n g1.z)
    have hx2 : (upd H1 dx (.own x)) x = none := by rw [upd_ne (Ne.symm hne)]; exact hx
    have g3 : G K B1 (ρ1 ++ [x]) (κ1 ++ [.ins C []]) (upd (upd H1 dx (.own x)) x (.ins C dx [])) := g2.alloc hx2 (show CellOk K B1 ρ1 _ x (.ins C []) from ⟨g1.fresh hx, dx, [], .nil, upd_same⟩)
    have up3 : Up B1 ρ1 H1 B1 (ρ1 ++ [x]) (upd (upd H1 dx (.own x)) x (.ins C dx [])) := ⟨Same.refl B1, fun _ _ h => get_app h, fun q o' h1 h2 h3 => by
      have n1 := ne_of_none h1 hx
      have n2 := ne_of_none h1 hdx
      rw [upd_ne n1, upd_ne n2]
      refine ⟨h1, h2, fun z => ?_⟩
      rcases List.mem_append.mp z with z | z
      · exact h3 z
      · exact n1 (by simpa using z)⟩
    have rx : Rep K B1 (ρ1 ++ [x]) (.c κ1.length) (.ref x) := rep_new g1
    refine callW_sd g3 (.cons rx (Reps.up up3.g r1)) h1 ?_
    rintro B4 ρ4 κ4 H4 a v w4 g4 r4 ⟨rfl, hR⟩
    exact ⟨r4.non, q _ _ _ _ _ _ ((u1.trans up3).trans w4) g4 (rx.up w4.g) hR⟩
section
variable {l : Nat} {fI C : Addr} {fd : FuncData} {ps : List Str} {F : FSp} {x : Str} {q : Pos}
theorem ea_make (M : Mk K C fI) (Fo : FnOk X.prog X.w X.K X.mg X.base CX0 l fI fd ps (spA K F)) (hr : Room (l + 1) X.A) (hg : Gl X x) (hm : X.mg x = some (.ref C)) (hb : Binds K fd ps []) (ha : PAa K X (e :: es) ta fa)
    (hdb : (x == ("__debug__" : Str)) = false := by decide) (he : starEach (e :: es) X.env = (false, eval e X.env) :: starEach es X.env := by rfl) (hpl : (backTo pos (starEach es X.env)).any (·.1) = false := by rfl) (hK : X.K = K := by rfl) :
    PEa K X (.Call (.Name x q) (e :: es) [] pos) (tMake C (spA K F) [] E0 ta) (aMake C F fa) := by
  obtain ⟨K, Kn, KZ, Ku⟩ := K
  change X.K = K at hK
  subst hK
  exact ⟨pe_make M Fo hr hg hm hb .nil pass0 ha.pa hdb he hpl, se_make ha.sd⟩
end
/-! ### a try from whose body nothing is raised -/
variable {t1 : TS} {f1 : AS}
theorem sa_try0 {x n : Str} {c : Value} {i : Nat} {body suite : List Stmt} {b₀ : Stmt} {np : Pos} (hs : X.stack = X.env :: X.outer) (hf : X.env.frame = some X.env.locals) (hN : X.N.Nodup) (hi : X.N[i]? = some n) (hln : X.env.kindOf n = some .local) (hc : Names X x c)
    (hb : ∀ (pn : List (Addr × Obj)) (xe : Value → Shared → Prop), PSsa K (X.tr pn xe) body t1 f1) : PSa K X (.Try body [.ExceptHandler (some (.Name x np)) (some n) (b₀ :: suite) pos'] [] [] pos) t1 f1 :=
  ⟨ps_try_as (tb := fun _ => t1) (ts := fun _ _ _ => tNever) (Wout := fun _ _ _ _ => False) hs hf hN hi hln hc (fun u s' h => by obtain ⟨a, B, sI, pins, σ, H, cls, d, e, I, nb, up, sky, na, os, ag, w⟩ := h; exact w.elim)
    (fun W pn xe tk hp => (hb pn xe).ps) (fun a oe cls d pn _ _ => pss_never), (hb [] (fun _ _ => True)).sd⟩
end Ab
set_option Elab.async false
set_option linter.all false
set_option maxRecDepth 100000
set_option maxHeartbeats 4000000
/-! Ab10: list * n, slices of tuples, in of a dict, enumerate of a list -/
namespace Ab
open PySem L2
variable {K : Frg} {B B' B2 H H' H2 : Hp} {ρ ρ' ρ2 : List Addr} {κ κ' : AK} {δ : AD} {σ : L2.St} {p : Addr} {k : Nat} {v x y z : V} {a b c : AV}
variable {X : Cx} {e e2 : Expr} {t u : TE} {f f2 : AE} {pos : Pos}
/-! ### list * n -/
theorem q_mul_int (l : Addr) (items : Array Value) (n : Nat) (d : Option Addr) (sl : Array (Option Value)) (x : Int) (u : Tok) (hc0 : ¬(!Builtin.List.listFitsIndex x) = true) (hc1 : ¬items.size * x.toNat > (2 ^ 63 - 1) / 8) (hc2 : ¬Builtin.List.listTooLong (items.size * x.toNat) = true) :
    Meets (Builtin.«list.__mul__» ⟨[.ref l, .int x u], []⟩) (fun _ R s => s.heap.get? l = some { cls := .type "list", dict := d, data := .seq items n, slots := sl } ∧ R (.ok (.ret (Value.ref s.heap.objs.size))) { s with heap := s.heap.push { cls := Value.type "list", data := Data.seq (List.foldl (fun x1 x2 => x1 ++ x2) #[] (List.replicate (if items.isEmpty = true then 0 else x.toNat) items)) }, toks := s.toks }) :=
  .of_wp fun prog w A R s h => by
    obtain ⟨hp, g, d, tk, os⟩ := s; obtain ⟨hl, h⟩ := h
    have hsz := AutoListH.joined_fits hc2
    wp_walk; refine wpAny_ite_false (decide_eq_false (Nat.not_lt.mpr hsz)) ?_; wp_walk; exact ⟨_, rfl, h⟩
theorem q_rmul_int (a : Int) (t : Tok) (l : Addr) (items : Array Value) (n : Nat) (d : Option Addr) (sl : Array (Option Value)) :
    Meets (Builtin.«int.__rmul__» ⟨[.int a t, .ref l], []⟩) (fun _ R s => s.heap.get? l = some { cls := .type "list", dict := d, data := .seq items n, slots := sl } ∧ R (.ok (.ret Value.notImplemented)) s) :=
  .of_wp fun prog w A R s h => by obtain ⟨hp, g, d, tk, os⟩ := s; obtain ⟨hl, h⟩ := h; wp_walk; exact ⟨_, rfl, h⟩
def rMulL (K : PySem.W.Frag) : R2 := fun x y H Q => ∃ a xs n, x = V.ref a ∧ y = V.int n ∧ SqL K H a xs ∧ (n = 0 ∨ n = 1) ∧ ∀ p, H p = none → Q (.ref p) (upd H p (.lst (List.replicate n.toNat xs).flatten))
theorem op_mulL : OpR X (binaryOp .Mult) (rMulL X.K) := by
  intro pins s σ H x y v u Q I rx ry h
  obtain ⟨a, xs, n, rfl, rfl, hs, hn, q⟩ := h
  obtain rfl : v = Value.ref a := rx
  obtain ⟨tk, rfl⟩ := ry
  obtain ⟨its, rv, ⟨⟨cls, dd, data, sl⟩, m, ho, hc, hdn, hd⟩, hlen⟩ := I.list hs
  have hc1 : cls = Value.type "list" := hc
  have hd1 : data = Data.seq its.toArray m := hd
  subst hc1 hd1
  have hz : its.length ≤ sizeLine := by rw [← rv.length]; exact hlen
  have hsl := sizeLine_eq
  have hk : n.toNat ≤ 1 := by rcases hn with rfl | rfl <;> decide
  have hm : its.toArray.size * n.toNat ≤ its.length := by
    rw [List.size_toArray]
    exact Nat.le_trans (Nat.mul_le_mul_left _ hk) (Nat.le_of_eq (Nat.mul_one _))
  refine wpAny_binaryOp_repeat_ref (T := "list") (U := "int") (by decide) ⟨_, ho, rfl⟩ (fun s' => typeIs_int s' n tk) noFill_list_mul PySem.F.fills_int_mul PySem.F.slot_int_rmul repeat_list PySem.F.slot_int_index.lookup
    (call_meets PySem.F.slot_int_rmul (typeIs_int s n tk) PySem.F.entry_int_rmul (PySem.F.args_int_rmul_2 _ _) (q_rmul_int n tk a its.toArray m dd sl)
      ⟨ho, rfl, ⟨_, ho, rfl⟩, call_meets PySem.F.slot_list_mul ⟨_, ho, rfl⟩ PySem.F.entry_list_mul (PySem.F.args_list_mul_2 _ _)
        (q_mul_int a its.toArray m dd sl n tk (by rcases hn with rfl | rfl <;> decide) (by omega) (by simp only [Builtin.List.listTooLong, decide_eq_true_eq]; omega))
        ⟨ho, ?_⟩⟩)
  have e : List.foldl (fun x1 x2 => x1 ++ x2) #[] (List.replicate (if its.toArray.isEmpty = true then 0 else n.toNat) its.toArray) = (List.replicate n.toNat its).flatten.toArray := by
    rw [PyProof.Rows.listMul_foldl_if]
  rw [e]
  refine ⟨.ref _, _, I.lnew (t' := s.toks) (rv.rep n.toNat) ?_, rfl, q _ I.fresh⟩
  rw [PyProof.Rows.lm_len_rep_flat]
  have : n.toNat * xs.length ≤ 1 * xs.length := Nat.mul_le_mul_right _ hk
  omega
theorem dpa_rep {ds : List PyData} {vs : List V} (h : DpAll K B vs ds) : ∀ n : Nat, DpAll K B (List.replicate n vs).flatten (List.replicate n ds).flatten
  | 0 => .nil
  | n + 1 => by
    rw [List.replicate_succ, List.replicate_succ, List.flatten_cons, List.flatten_cons]
    exact dpa_app h (dpa_rep h n)
/-- a list of data none or one times -/
def aMulL : AO := fun a b κ R => match a, b with
  | .d (.list xs), .d (.int n) => (n = 0 ∧ R (.d (.list [])) κ) ∨ (n = 1 ∧ R (.d (.list xs)) κ)
  | _, _ => False
theorem oa_mulL (hK : X.K = K := by rfl) : OpA K X (binaryOp .Mult) (rMulL K) aMulL := by
  obtain ⟨K, Kn, KZ, Ku⟩ := K
  change X.K = K at hK
  subst hK
  refine ⟨op_mulL, ?_⟩
  intro B ρ κ H x y a b R Q g rx ry h q
  unfold aMulL at h
  split at h
  · rename_i xs n
    obtain ⟨p, vs, rfl, s1, d1⟩ := of_listG g rx
    refine ⟨p, vs, n, rfl, ry.int, s1, ?_, fun l hl => ?_⟩
    · rcases h with ⟨e, _⟩ | ⟨e, _⟩
      · exact .inl e
      · exact .inr e
    · obtain ⟨u4, g4, r4⟩ := new_lst g hl (dpa_rep d1 n.toNat)
      rcases h with ⟨rfl, h⟩ | ⟨rfl, h⟩
      · exact q _ _ _ _ _ _ u4 g4 r4 h
      · have e : (List.replicate (1 : Int).toNat xs).flatten = xs := by simp
        rw [e] at r4
        exact q _ _ _ _ _ _ u4 g4 r4 h
  · exact h.elim
/-! ### slices of tuples -/
theorem cut_all {α : Type} (xs : List α) (lo hi : Option Int) (h : HT.sIx xs.length 0 lo = 0 ∧ HT.sIx xs.length xs.length hi = xs.length) : cutD xs lo hi = xs := by
  unfold cutD
  rw [h.1, h.2, List.drop_zero, Nat.sub_zero, List.take_length]
def aSlT (f : AE) (l h : AOp) : AE := fun δ κ R => f δ κ fun a κ1 => l δ κ1 fun lo κ2 => h δ κ2 fun hi κ3 => match a with
  | .d (.tuple xs) => R (.d (.tuple (cutD xs lo hi))) κ3
  | _ => False
theorem ea_sliceT {lo hi : Option Expr} {p2 : Pos} {tl th : TO} {fl fh : AOp} (h1 : PEa K X e t f) (hl : POa K X lo tl fl) (hh : POa K X hi th fh) (hK : X.K = K := by rfl) :
    PEa K X (.Subscript e (.Slice lo hi none p2) pos) (tSl (rSlA K) t tl th) (aSlT f fl fh) := by
  obtain ⟨K, Kn, KZ, Ku⟩ := K
  change X.K = K at hK
  subst hK
  refine ⟨pe_slice sl_tupA h1.pe hl.po hh.po, fun B ρ δ κ σ H R Q s g h q => ?_⟩
  refine h1.sd B ρ δ κ σ H _ _ s g h fun B1 ρ1 κ1 H1 a x u1 g1 r1 h1 => ?_
  refine hl.sd B1 ρ1 δ κ1 σ H1 _ _ (s.up u1.g) g1 h1 fun B2 ρ2 κ2 H2 lo u2 g2 h2 => ?_
  refine hh.sd B2 ρ2 δ κ2 σ H2 _ _ (s.up (u1.trans u2).g) g2 h2 fun B3 ρ3 κ3 H3 hi u3 g3 h3 => ?_
  have r3 := r1.up (u2.trans u3).g
  have q3 := q.later ((u1.trans u2).trans u3)
  split at h3
  · rename_i xs
    have r3' := r3
    obtain ⟨p, vs, rfl, s1, d1⟩ := of_tupG g3 r3
    have hlen := dpa_len d1
    refine ⟨p, vs, rfl, s1, fun hw => ?_, fun _ l hl => ?_⟩
    · rw [hlen] at hw
      rw [cut_all xs lo hi hw] at h3
      exact q3.at0 g3 r3' h3
    · obtain ⟨u4, g4, r4⟩ := new_tup g3 hl (dpa_cut d1 lo hi)
      exact q3 _ _ _ _ _ _ u4 g4 r4 h3
  · exact h3.elim
/-! ### y in d -/
theorem dpks_isSome {kvs : List (L2.Key × PyData)} {ws : List (L2.Key × V)} {k : L2.Key} (h : DpKs K B kvs ws) : (valV ws k).isSome = (valD kvs k).isSome := by
  have h1 := dpks_any (k := k) h
  rw [valV_any] at h1
  rw [← h1]
  unfold valD
  rw [Option.isSome_map, Bool.eq_iff_iff, List.any_eq_true, List.find?_isSome]
/-- y in d, y not in d -/
def aDIn (n : Bool → Bool) (fi fo : AE) : AE := fun δ κ R => fi δ κ fun b κ1 => fo δ κ1 fun a κ2 => match a with
  | .c k => ∃ kvs key, κ2[k]? = some (.dK kvs) ∧ b = .d (keyD key) ∧ R (.d (.bool (n (valD kvs key).isSome))) κ2
  | _ => False
variable {o i : Expr} {to' ti : TE} {fo fi : AE}
theorem se_din {n : Bool → Bool} (hi : SE K ti fi) (ho : SE K to' fo) : SE K (fun σ H Q => ti σ H fun y H1 => to' σ H1 fun x H2 => ∃ a o, x = .ref a ∧ DGet H2 a y o ∧ Q (.bl (n o.isSome)) H2) (aDIn n fi fo) := fun B ρ δ κ σ H R Q s g hh q =>
  hi _ _ _ _ _ _ _ _ s g hh fun B1 ρ1 κ1 H1 b y u1 g1 r1 h1 => ho _ _ _ _ _ _ _ _ (s.up u1.g) g1 h1 fun B2 ρ2 κ2 H2 a x u2 g2 r2 h2 => by
    split at h2
    · obtain ⟨kvs, key, ek, rfl, h2⟩ := h2
      obtain ⟨p, hp, rfl⟩ := r2
      obtain ⟨vs, r, eH, _⟩ := g2.dkAt hp ek
      have := rep_key (r1.up u2.g)
      subst this
      refine ⟨p, valV vs key, rfl, DGet.k eH, ?_⟩
      rw [dpks_isSome r]
      exact q _ _ _ _ _ _ (u1.trans u2) g2 (rp_bl _) h2
    · exact h2.elim
theorem ea_din {l : Nat} (hr : Room l X.A) (hi : PEa K X i ti fi) (ho : PEa K X o to' fo) (hm : behindInMarks .In o = false := by first | exact nomark _ | rfl) : PEa K X (.Compare i [.In] [o] pos) (tDIn ti to') (aDIn id fi fo) := ⟨pe_cmp (pc_din (Nat.lt_of_le_of_lt (by omega) hr.units) hi.pe ho.pe) hm, se_din (n := id) hi.sd ho.sd⟩
theorem ea_dnotin {l : Nat} (hr : Room l X.A) (hi : PEa K X i ti fi) (ho : PEa K X o to' fo) (hm : behindInMarks .NotIn o = false := by first | exact nomark _ | rfl) : PEa K X (.Compare i [.NotIn] [o] pos) (tDNotIn ti to') (aDIn not fi fo) := ⟨pe_cmp (pc_dnotin (Nat.lt_of_le_of_lt (by omega) hr.units) hi.pe ho.pe) hm, se_din (n := not) hi.sd ho.sd⟩
theorem ta_din {l : Nat} (hr : Room l X.A) (hi : PEa K X i ti fi) (ho : PEa K X o to' fo) (hm : behindInMarks .In o = false := by first | exact nomark _ | rfl) : PTa K X (.Compare i [.In] [o] pos) (tTest (tDIn ti to')) (aB (aDIn id fi fo)) := ⟨pt_cmp (pc_din (Nat.lt_of_le_of_lt (by omega) hr.units) hi.pe ho.pe) hm, st_B (se_din (n := id) hi.sd ho.sd)⟩
theorem ta_dnotin {l : Nat} (hr : Room l X.A) (hi : PEa K X i ti fi) (ho : PEa K X o to' fo) (hm : behindInMarks .NotIn o = false := by first | exact nomark _ | rfl) : PTa K X (.Compare i [.NotIn] [o] pos) (tTest (tDNotIn ti to')) (aB (aDIn not fi fo)) := ⟨pt_cmp (pc_dnotin (Nat.lt_of_le_of_lt (by omega) hr.units) hi.pe ho.pe) hm, st_B (se_din (n := not) hi.sd ho.sd)⟩
/-- {} -/
def aDNew : AE := fun _ κ R => R (.c κ.length) (κ ++ [.dK []])
theorem ea_dnew : PEa K X (.Dict [] [] pos) tDNewK aDNew := ⟨pe_dnewK, fun B ρ δ κ σ H R Q s g h q => by
  intro p hp
  refine q _ _ _ _ _ _ (g.allocUp hp) (g.alloc hp (show CellOk K B ρ _ p (.dK []) from ⟨g.fresh hp, [], .nil, upd_same⟩)) (rep_new g) h⟩
/-! ### enumerate of a list of data -/
/-- known items, with their places -/
def itE (xs : List PyData) : AIt := ⟨fun i _ => i < xs.length, fun i _ a => ∃ x, xs[i]? = some x ∧ a = .d (.tuple [.int (i : Nat), x]), fun i _ => xs.length ≤ i⟩
theorem ri_enum {xs : List PyData} {p : Addr} {vs : List V} (hs : SqL K B p vs) (d : DpAll K B vs xs) : RI K B ρ H (Ite K p) (itE xs) := by
  intro B2 ρ2 κ2 H2 w2 g2 i
  have hs2 : SqL K H2 p vs := g2.ex.seq (w2.s.seq hs)
  have hl := dpa_len d
  refine ⟨fun h => ⟨vs, hs2, by rw [hl]; exact h⟩, fun h => ?_⟩
  obtain ⟨w, hw, r⟩ := dpa_get d (getLt h)
  refine ⟨⟨vs, w, hs2, hw⟩, fun x H3 hy => ?_⟩
  obtain ⟨T, x0, rfl, hT, rfl, f⟩ := hy
  have e := (f vs hs2).symm.trans hw
  cases e
  obtain ⟨u4, g4, r4⟩ := new_tup g2 hT (ds := [.int (i : Nat), xs[i]'h]) (.cons (.int _) (.cons (dp_up w2.s _ _ r) .nil))
  exact ⟨_, _, u4, g4, r4, _, getLt h, rfl⟩
def aEnum (fa : AA) : AI := fun δ κ R => fa δ κ fun as κ1 => match as with
  | [.d (.list xs)] => R (itE xs) κ1
  | _ => False
variable {ta : TA} {fa : AA}
theorem ia_enum {a : Expr} {elts : List Expr} {kk : Nat} {tpos q pos : Pos} (hg : Gl X "enumerate") (hm : X.mg "enumerate" = none) (ha : PAa K X [a] ta fa) (hs : starEach [a] X.env = [(false, eval a X.env)] := by rfl) (hK : X.K = K := by rfl) :
    PIa K X (.Tuple elts kk tpos) (.Call (.Name "enumerate" q) [a] [] pos) (iEnum K ta) (aEnum fa) := by
  obtain ⟨K, Kn, KZ, Ku⟩ := K
  change X.K = K at hK
  subst hK
  exact ⟨pi_enum hg hm ha.pa hs, fun B ρ δ κ σ H R Q s g hh q => ha.sd _ _ _ _ _ _ _ _ s g hh fun B1 ρ1 κ1 H1 as vs w1 g1 r1 h1 => by
    split at h1
    · obtain ⟨x, rfl, r⟩ := reps1 r1
      obtain ⟨p, vs, rfl, s1, d1⟩ := r.list
      exact ⟨p, vs, rfl, g1.ex.seq s1, q _ _ _ _ _ _ w1 g1 (ri_enum s1 d1) h1⟩
    · exact h1.elim⟩
end Ab
set_option Elab.async false
set_option linter.all false
set_option maxRecDepth 100000
set_option maxHeartbeats 4000000
/-! Ab11: enumerate of a tuple -/
namespace Ab
open PySem L2 PySem.Spec PyProof.Rows
theorem meets_enumerate_newT (l : Addr) (items : Array Value) (n : Nat) (dct : Option Addr) (sl : Array (Option Value)) :
    Meets (Builtin.«enumerate.__new__» ⟨[.type "enumerate", .ref l], []⟩) (fun _ R s => s.heap.get? l = some { cls := .type "tuple", dict := dct, data := .seq items n, slots := sl } ∧
      R (.ok (.ret (.ref (s.heap.push { cls := .type "tuple_iterator", data := .fields #[.ref l, .int 0 0] }).objs.size)))
        { s with heap := (s.heap.push { cls := .type "tuple_iterator", data := .fields #[.ref l, .int 0 0] }).push { cls := .type "enumerate", data := .fields #[.none, .bool false, .ref s.heap.objs.size, rawInt 0, .none, .none] } }) :=
  .of_wp fun prog w A R s h => by
    obtain ⟨hp, g, d, tk, os⟩ := s; obtain ⟨hl, h⟩ := h
    have hsub := sub_enumerate
    have hL : Heap.IsTuple (Shared.heap ⟨hp, g, d, tk, os⟩) l items := ⟨_, hl, rfl, n, rfl⟩
    wp_walk using wpAny_loadPart' hl
    refine wpAny_stack_any fun st => wpAny_pure ?_
    split
    · rename_i c _ _ _ _ _
      cases (c == Value.type "enumerate")
      · wp_walk using wpAny_loadPart' hl, wpAny_pyIter_tuple hL
        exact ⟨_, rfl, h⟩
      · wp_walk using wpAny_loadPart' hl, wpAny_pyIter_tuple hL
        exact ⟨_, rfl, h⟩
    · wp_walk using wpAny_loadPart' hl, wpAny_pyIter_tuple hL
      exact ⟨_, rfl, h⟩
section
variable {prog : Program} {w : World} {A : Around} {E : Value → Shared → Prop} {s : Shared}
theorem call_enumerate_tuple {l : Addr} {items : Array Value} {Q : Value → Shared → Prop} (hL : s.heap.IsTuple l items)
    (h : ∀ h', IsEnum h' (s.heap.objs.size + 1) s.heap.objs.size 0 .none → h'.IsTupleIter s.heap.objs.size l 0 → h'.objs.size = s.heap.objs.size + 2 →
      (∀ b o, s.heap.get? b = some o → h'.get? b = some o) → Q (.ref (s.heap.objs.size + 1)) { s with heap := h' }) :
    wpAny (model prog w) A (call (.type "enumerate") [.ref l]) Q E s := by
  obtain ⟨⟨c, dct, dt, sl⟩, hl, hc, n, hd⟩ := hL
  replace hc : c = .type "tuple" := hc
  replace hd : dt = .seq items n := hd
  subst hc hd
  refine callType_new PySem.F.called_enumerate (by decide) (PySem.F.typeCall_enumerate_1 _) (PySem.F.newCall_enumerate_1 _) (fun obj => PySem.F.args_object_init_2 obj _) PySem.F.entry_enumerate_new
    (meets_enumerate_newT l items n dct sl) ⟨hl, ?_⟩
  have hz : (s.heap.push { cls := .type "tuple_iterator", data := .fields #[.ref l, .int 0 0] }).objs.size = s.heap.objs.size + 1 := Heap.size_push ..
  show _ ∧ _
  rw [hz]
  have he : IsEnum ((s.heap.push { cls := .type "tuple_iterator", data := .fields #[.ref l, .int 0 0] }).push
      { cls := .type "enumerate", data := .fields #[.none, .bool false, .ref s.heap.objs.size, rawInt 0, .none, .none] }) (s.heap.objs.size + 1) s.heap.objs.size 0 .none := by
    have := Heap.get?_push_size (s.heap.push { cls := .type "tuple_iterator", data := .fields #[.ref l, .int 0 0] })
      (o := { cls := .type "enumerate", data := .fields #[.none, .bool false, .ref s.heap.objs.size, rawInt 0, .none, .none] }) rfl
    rw [hz] at this; exact this
  refine ⟨⟨_, he, rfl⟩, h _ he ⟨_, Heap.get?_push_of_some _ (Heap.get?_push_size _ rfl), rfl, rfl⟩ (by rw [Heap.size_push, hz]) fun b o x => Heap.get?_push_of_some _ (Heap.get?_push_of_some _ x)⟩
theorem draws_tuple (hh : A.handled = none) (it l : Addr) (items : Array Value) : Draws prog w A it [it, l] items.size (fun i x => items[i]? = some x) (fun i h => h.IsTupleIter it l i ∧ h.IsTuple l items ∧ it ≠ l) where
  live := fun i h ⟨⟨o, ho, _⟩, _⟩ => ⟨o, ho⟩
  frame := fun i h h' ⟨⟨o, ho, c, d⟩, ⟨o2, ho2, r⟩, ne⟩ k => ⟨⟨o, k it (by simp) o ho, c, d⟩, ⟨o2, k l (by simp) o2 ho2, r⟩, ne⟩
  item := fun i s Q E hi ⟨hit, ht, ne⟩ hQ => RZ.nextOf_tuple_item hit ht (Array.getElem?_eq_getElem hi) fun h' hit' sb => by
    have := hQ items[i] h' s.toks (Array.getElem?_eq_getElem hi) ⟨hit', ht.extBut sb.extBut (Ne.symm ne), ne⟩ sb
    exact this
  done := fun s Q E ⟨hit, ht, ne⟩ hE => RZ.nextOf_tuple_end hh hit ht (by simp) fun h' e he hc => hE h' e he hc
theorem draws_end (hh : A.handled = none) (it l : Addr) (items : Array Value) (n : Nat) (hn : items[n]? = none) : Draws prog w A it [it, l] n (fun _ _ => False) (fun i h => i = n ∧ h.IsTupleIter it l i ∧ h.IsTuple l items) where
  live := fun i h ⟨_, ⟨o, ho, _⟩, _⟩ => ⟨o, ho⟩
  frame := fun i h h' ⟨e, ⟨o, ho, c, d⟩, ⟨o2, ho2, r⟩⟩ k => ⟨e, ⟨o, k it (by simp) o ho, c, d⟩, ⟨o2, k l (by simp) o2 ho2, r⟩⟩
  item := fun i s Q E hi ⟨e, _⟩ hQ => by omega
  done := fun s Q E ⟨_, hit, ht⟩ hE => RZ.nextOf_tuple_end hh hit ht hn fun h' e he hc => hE h' e he hc
end
/-- the tuple at a, the items in new pairs -/
def Itq (K : PySem.W.Frag) (a : Addr) : It :=
  ⟨fun i H => ∃ (xs : List V) (x : V), SqT K H a xs ∧ xs[i]? = some x, fun i H v H' => ∃ T x, v = .ref T ∧ H T = none ∧ H' = upd H T (.tup [.int (i : Nat), x]) ∧ ∀ xs, SqT K H a xs → xs[i]? = some x, fun i H => ∃ xs : List V, SqT K H a xs ∧ xs.length ≤ i⟩
theorem turn_enumT {P : Program} {w : World} {K : PySem.W.Frag} {elts : List Expr} {kk : Nat} {tpos : Pos} (a e it : Addr) :
    Turn P w K (.Tuple elts kk tpos) (Itq K a) [e, it] e (fun i h => (∃ old, IsEnum h e it ((i : Nat) : Int) old) ∧ h.IsTupleIter it a i ∧ e ≠ it) where
  mem := by simp
  obj := fun i h st b hb => by
    obtain ⟨⟨old, he⟩, ⟨o, ho, hc, hd⟩, _⟩ := st
    have e' : b = e ∨ b = it := by simpa using hb
    rcases e' with z | z
    · rw [z]; exact ⟨_, he, fun v q => nomatch q⟩
    · rw [z]; exact ⟨o, ho, fun v q => by rw [hd] at q; cases q⟩
  keep := fun i h h' st k => let ⟨⟨old, he⟩, hi, hne⟩ := st; ⟨⟨old, k e (by simp) _ he⟩, hi.at fun o q => k it (by simp) o q, hne⟩
  item := by
    intro X hP hw hK hc i pins s σ H E I hf st hg
    subst hP hw hK
    obtain ⟨⟨old, he⟩, hit, hne⟩ := st
    obtain ⟨xs, x, hq, hx⟩ := hg
    obtain ⟨its, rv, p, hz⟩ := I.tuple hq
    obtain ⟨u, hu, ru⟩ := rv.get hx
    have hel : e < s.heap.objs.size := Heap.lt_size he
    have hil : it < s.heap.objs.size := by obtain ⟨_, q, _⟩ := hit; exact Heap.lt_size q
    have hea : e ≠ a := fun z => by
      obtain ⟨o, ho, hcl, _⟩ := p
      rw [← z, he] at ho
      cases ho
      exact absurd (show Value.type "enumerate" = Value.type "tuple" from hcl) (by decide +kernel)
    have hia : it ≠ a := fun z => by
      obtain ⟨o, ho, hcl, _⟩ := p
      obtain ⟨o2, ho2, hc2, _⟩ := id hit
      rw [← z, ho2] at ho
      cases ho
      rw [hc2] at hcl
      exact absurd hcl (by decide +kernel)
    have hlt : i < its.toArray.size := by
      have := (List.getElem?_eq_some_iff.mp hu).1
      simpa using this
    refine wpAny_pyNext_enum_itemD (draws_tuple (A := X.A.in1) (I.ok.hd hc) it a its.toArray) he ⟨hit, p, hia⟩ hlt hne (by simp [hne, hea]) fun x' h' tk hPx ho st' hT hsz hk => ?_
    have hxu : x' = u := by
      have h2 : its[i]? = some x' := by simpa using hPx
      rw [hu] at h2; cases h2; rfl
    subst hxu
    have hit' := st'.1
    refine ⟨_, rfl, wpAny_letOwnedTupleGo_enum (s := { s with heap := h', toks := tk + 1 }) ho fun h'' he' sb => ?_⟩
    have hT2 : h''.get? s.heap.objs.size = some { cls := .type "tuple", data := .seq #[.int i tk, x'] } := (sb.2 _ (Nat.ne_of_gt hel)).trans hT
    have new : ObjOk X.prog X.w (upd H s.heap.objs.size (.tup [.int (i : Nat), x])) h'' s.heap.objs.size (.tup [.int (i : Nat), x]) :=
      ⟨by show 2 ≤ sizeLine; decide, [.int i tk, x'], .cons ⟨_, rfl⟩ (.cons ru .nil), ⟨_, hT2, rfl, _, rfl⟩⟩
    have I1 : Inv X pins σ (upd H s.heap.objs.size (.tup [.int (i : Nat), x])) { s with heap := h'', toks := tk + 1 } :=
      I.turnedNew (ch := [e, it]) (fun b ob hb q => (sb.2 b (fun z => hb (by simp [z]))).trans (hk b ob (fun z => hb (by simp [z])) (fun z => hb (by simp [z])) q)) hf (Nat.le_refl _) new
    refine ⟨.ref s.heap.objs.size, _, I1, rfl, ⟨_, x, rfl, I.hok.fresh (Nat.le_refl _), rfl, fun ys hy => by rw [I.tuple_inj hy hq]; exact hx⟩, ⟨⟨x', ?_⟩, hit'.at fun o q => (sb.2 it (Ne.symm hne)).trans q, hne⟩, fun b hb => ?_⟩
    · have e1 : ((i + 1 : Nat) : Int) = (i : Int) + 1 := by omega
      rw [e1]; exact he'
    · have hb' : b < s.heap.objs.size := by
        have e' : b = e ∨ b = it := by simpa using hb
        rcases e' with z | z
        · rw [z]; exact hel
        · rw [z]; exact hil
      rw [upd_ne (Nat.ne_of_lt hb')]
      exact (hf b hb).1
  done := by
    intro X hP hw hK hc i pins s σ H E I hf st hg
    subst hP hw hK
    obtain ⟨⟨old, he⟩, hit, hne⟩ := st
    obtain ⟨xs, hq, hx⟩ := hg
    obtain ⟨its, rv, p, hz⟩ := I.tuple hq
    obtain ⟨f0, f1, f2, f3, f4, f5⟩ := hf it (by simp)
    have hl := rv.length
    exact wpAny_pyNext_enum_endD (draws_end (A := X.A.in1) (I.ok.hd hc) it a its.toArray i (by simp; omega)) he ⟨rfl, hit, p⟩ fun h' eb => ⟨rfl, I.turned (t' := s.toks) (fun b o hb q => eb b o hb q) f0 f1 f3 f4 f5⟩
  self := fun A i s Q E st h => let ⟨⟨_, he⟩, _⟩ := st; wpAny_pyIter_enum he h
def iEnumT (K : PySem.W.Frag) (ta : TA) : TI := fun σ H R => ta σ H fun vs H1 => ∃ a xs, vs = [.ref a] ∧ SqT K H1 a xs ∧ R (Itq K a) H1
theorem pi_enumT {X : Cx} {e : Expr} {ta : TA} {p pos tpos : Pos} {elts : List Expr} {kk : Nat} (hg : Gl X "enumerate") (hm : X.mg "enumerate" = none) (ha : PA X [e] ta) (hs : starEach [e] X.env = [(false, eval e X.env)] := by rfl) :
    PI X (.Tuple elts kk tpos) (.Call (.Name "enumerate" p) [e] [] pos) (iEnumT X.K ta) := by
  refine ⟨fun pins s σ H R I h => ?_⟩
  refine Call_ (ld_blt I hg hm boot_enumerate (PyProof.Rows.callWith_type1 (thn (ha.run pos pins s σ H _ I h) fun us s1 ⟨vs, H1, I1, r1, q1⟩ => ?_) hs rfl))
  obtain ⟨a, xs, ex, hq, q⟩ := q1
  subst ex
  cases r1 with
  | cons r rr =>
    cases rr
    cases r
    obtain ⟨its, rv, p', hz⟩ := I1.tuple hq
    refine call_enumerate_tuple p' fun h' he hit hsz hk => wpAny_pyIter_enum he ?_
    have I2 : Inv X pins σ H1 { s1 with heap := h' } := I1.kept (t' := s1.toks) hk
    refine ⟨s1.heap.objs.size + 1, [s1.heap.objs.size + 1, s1.heap.objs.size], _, _, H1, rfl, I2, turn_enumT a (s1.heap.objs.size + 1) s1.heap.objs.size, ⟨⟨.none, he⟩, hit, Nat.succ_ne_self _⟩, fun b hb => ?_, q⟩
    have e' : b = s1.heap.objs.size + 1 ∨ b = s1.heap.objs.size := by simpa using hb
    have hle : s1.heap.objs.size ≤ b := by
      rcases e' with z | z
      · rw [z]; exact Nat.le_add_right _ _
      · rw [z]; exact Nat.le_refl _
    exact I1.fpOk hle (I1.hok.fresh hle)
theorem ri_enumT {K : Frg} {B H : Hp} {ρ : List Addr} {xs : List PyData} {p : Addr} {vs : List V} (hs : SqT K B p vs) (d : DpAll K B vs xs) : RI K B ρ H (Itq K p) (itE xs) := by
  intro B2 ρ2 κ2 H2 w2 g2 i
  have hs2 : SqT K H2 p vs := sqt_up g2.ex (sqt_up w2.s hs)
  have hl := dpa_len d
  refine ⟨fun h => ⟨vs, hs2, by rw [hl]; exact h⟩, fun h => ?_⟩
  obtain ⟨w, hw, r⟩ := dpa_get d (getLt h)
  refine ⟨⟨vs, w, hs2, hw⟩, fun x H3 hy => ?_⟩
  obtain ⟨T, x0, rfl, hT, rfl, f⟩ := hy
  have e := (f vs hs2).symm.trans hw
  cases e
  obtain ⟨u4, g4, r4⟩ := new_tup g2 hT (ds := [.int (i : Nat), xs[i]'h]) (.cons (.int _) (.cons (dp_up w2.s _ _ r) .nil))
  exact ⟨_, _, u4, g4, r4, _, getLt h, rfl⟩
/-- enumerate of a tuple of data -/
def aEnumT (fa : AA) : AI := fun δ κ R => fa δ κ fun as κ1 => match as with
  | [.d (.tuple xs)] => R (itE xs) κ1
  | _ => False
theorem ia_enumT {K : Frg} {X : Cx} {ta : TA} {fa : AA} {a : Expr} {elts : List Expr} {kk : Nat} {tpos q pos : Pos} (hg : Gl X "enumerate") (hm : X.mg "enumerate" = none) (ha : PAa K X [a] ta fa) (hs : starEach [a] X.env = [(false, eval a X.env)] := by rfl) (hK : X.K = K := by rfl) :
    PIa K X (.Tuple elts kk tpos) (.Call (.Name "enumerate" q) [a] [] pos) (iEnumT K ta) (aEnumT fa) := by
  obtain ⟨K, Kn, KZ, Ku⟩ := K
  change X.K = K at hK
  subst hK
  exact ⟨pi_enumT hg hm ha.pa hs, fun B ρ δ κ σ H R Q s g hh q => ha.sd _ _ _ _ _ _ _ _ s g hh fun B1 ρ1 κ1 H1 as vs w1 g1 r1 h1 => by
    split at h1
    · obtain ⟨x, rfl, r⟩ := reps1 r1
      obtain ⟨p, vs, rfl, s1, d1⟩ := r.tuple
      exact ⟨p, vs, rfl, sqt_up g1.ex s1, q _ _ _ _ _ _ w1 g1 (ri_enumT s1 d1) h1⟩
    · exact h1.elim⟩
end Ab
set_option Elab.async false
set_option linter.all false
set_option maxRecDepth 100000
set_option maxHeartbeats 4000000
/-! Ab12: calls whose cells may refer to one another -/
namespace Ab
open PySem L2
variable {K : Frg} {B B' B2 H H' H2 : Hp} {ρ ρ' ρ2 : List Addr} {κ κ' : AK} {δ : AD} {σ : L2.St} {p : Addr} {k : Nat} {v x y z : V} {a b c : AV}
def selF (js : List Nat) : List (Str × AV) → Option (List (Str × AV))
  | [] => some []
  | (g, a) :: r => match selA js a, selF js r with
    | some x, some xs => some ((g, x) :: xs)
    | _, _ => none
def selC (js : List Nat) : Cell → Option Cell
  | .lst xs => match selAs js xs with
    | some ys => some (.lst ys)
    | none => none
  | .tup xs => match selAs js xs with
    | some ys => some (.tup ys)
    | none => none
  | .ins C fs => match selF js fs with
    | some ys => some (.ins C ys)
    | none => none
  | c => some c
def selKX (js0 : List Nat) (κ : AK) : List Nat → Option AK
  | [] => some []
  | j :: r => match κ[j]?, selKX js0 κ r with
    | some c, some cs => match selC js0 c with
      | some c' => some (c' :: cs)
      | none => none
    | _, _ => none
def backC (js : List Nat) (n : Nat) : Cell → Cell
  | .lst xs => .lst (xs.map (backA js n))
  | .tup xs => .tup (xs.map (backA js n))
  | .ins C fs => .ins C (fs.map fun p => (p.1, backA js n p.2))
  | c => c
def backKX (js : List Nat) (κ κ' : AK) : AK := backK js κ (κ'.map (backC js κ.length))
@[irreducible] def callX (F : FSp) (E : AX → AK → Prop) (as : List AV) (κ1 : AK) (R : AR) : Prop := ∃ js asl κl, js.Nodup ∧ selAs js as = some asl ∧ selKX js κ1 js = some κl ∧
  F asl κl (fun a κ' => js.length ≤ κ'.length ∧ (κ'.drop js.length).all liveC = true ∧ R (backA js κ1.length a) (backKX js κ1 κ')) (fun x κ' => js.length ≤ κ'.length ∧ (κ'.drop js.length).all liveC = true ∧ E x (backKX js κ1 κ'))
theorem callX_i {F : FSp} {E : AX → AK → Prop} {as : List AV} {κ1 : AK} {R : AR} (h : ∃ js asl κl, js.Nodup ∧ selAs js as = some asl ∧ selKX js κ1 js = some κl ∧
  F asl κl (fun a κ' => js.length ≤ κ'.length ∧ (κ'.drop js.length).all liveC = true ∧ R (backA js κ1.length a) (backKX js κ1 κ')) (fun x κ' => js.length ≤ κ'.length ∧ (κ'.drop js.length).all liveC = true ∧ E x (backKX js κ1 κ'))) : callX F E as κ1 R := by
  unfold callX; exact h
theorem callX_e {F : FSp} {E : AX → AK → Prop} {as : List AV} {κ1 : AK} {R : AR} (h : callX F E as κ1 R) : ∃ js asl κl, js.Nodup ∧ selAs js as = some asl ∧ selKX js κ1 js = some κl ∧
  F asl κl (fun a κ' => js.length ≤ κ'.length ∧ (κ'.drop js.length).all liveC = true ∧ R (backA js κ1.length a) (backKX js κ1 κ')) (fun x κ' => js.length ≤ κ'.length ∧ (κ'.drop js.length).all liveC = true ∧ E x (backKX js κ1 κ')) := by
  unfold callX at h; exact h
theorem selF_ok {js : List Nat} (hr : ∀ (i j : Nat) (p : Addr), js[i]? = some j → ρ[j]? = some p → ρ'[i]? = some p) : ∀ {fs fsl : List (Str × AV)} {ws : List (Str × V)}, selF js fs = some fsl → RepKs K B ρ fs ws → RepKs K B ρ' fsl ws
  | [], _, _, h, r => by cases h; cases r; exact .nil
  | (g, a) :: fs, _, _, h, r => by
    unfold selF at h
    split at h
    · rename_i x xs e1 e2
      cases h
      cases r with
      | @cons _ q _ qs r1 r2 =>
        refine .cons ⟨r1.1, ?_⟩ (selF_ok hr e2 r2)
        have := selAs_ok (K := K) (B := B) (vs := [q.2]) hr (as := [a]) (asl := [x]) (by unfold selAs; rw [e1]; rfl) (.cons r1.2 .nil)
        cases this with
        | cons z _ => exact z
    · cases h
theorem CellOk.sel {js : List Nat} (hr : ∀ (i j : Nat) (p : Addr), js[i]? = some j → ρ[j]? = some p → ρ'[i]? = some p) {cl cl' : Cell} (h : selC js cl = some cl') (ok : CellOk K B ρ H p cl) : CellOk K B ρ' H p cl' := by
  cases cl with
  | dead => cases h; exact ok
  | ld ys => cases h; exact ok
  | dK ys => cases h; exact ok
  | dT ys => cases h; exact ok
  | lst ys =>
    have h : (match selAs js ys with | some zs => some (Cell.lst zs) | none => none) = some cl' := h
    split at h
    · rename_i zs e; cases h
      obtain ⟨n, ws, r, eH⟩ := ok
      exact ⟨n, ws, selAs_ok hr e r, eH⟩
    · cases h
  | tup ys =>
    have h : (match selAs js ys with | some zs => some (Cell.tup zs) | none => none) = some cl' := h
    split at h
    · rename_i zs e; cases h
      obtain ⟨ws, r, eH⟩ := ok
      exact ⟨ws, selAs_ok hr e r, eH⟩
    · cases h
  | ins C ys =>
    have h : (match selF js ys with | some zs => some (Cell.ins C zs) | none => none) = some cl' := h
    split at h
    · rename_i zs e; cases h
      obtain ⟨n, dx, ws, r, eH⟩ := ok
      exact ⟨n, dx, ws, selF_ok hr e r, eH⟩
    · cases h
theorem selKX_get {js0 : List Nat} : ∀ {js : List Nat} {κ κl : AK}, selKX js0 κ js = some κl → κl.length = js.length ∧ ∀ (i j : Nat), js[i]? = some j → ∃ c c', κ[j]? = some c ∧ selC js0 c = some c' ∧ κl[i]? = some c'
  | [], κ, κl, h => by cases h; exact ⟨rfl, fun i j e => by simp at e⟩
  | j :: js, κ, κl, h => by
    unfold selKX at h
    split at h
    · rename_i c cs e1 e2
      split at h
      · rename_i c' hc
        cases h
        obtain ⟨l, f⟩ := selKX_get e2
        refine ⟨by simp [l], fun i j' e => ?_⟩
        cases i with
        | zero => simp at e; subst e; exact ⟨c, c', e1, hc, rfl⟩
        | succ i => obtain ⟨d, d', y1, y2, y3⟩ := f i j' (by simpa using e); exact ⟨d, d', y1, y2, by simpa using y3⟩
      · cases h
    · cases h
theorem sel_okX (g : G K B ρ κ H) {js : List Nat} {κl : AK} (nd : js.Nodup) (hk : selKX js κ js = some κl) : G (Frg.of K.K) B (selR js ρ) κl H := by
  obtain ⟨lk, sel⟩ := selKX_get hk
  have get : ∀ {i : Nat} {p : Addr}, (selR js ρ)[i]? = some p → ∃ j c c', js[i]? = some j ∧ ρ[j]? = some p ∧ κ[j]? = some c ∧ κl[i]? = some c' ∧ selC js c = some c' := fun {i p} h => by
    unfold selR at h
    rw [List.getElem?_map] at h
    obtain ⟨j, hj, e⟩ := Option.map_eq_some_iff.mp h
    obtain ⟨c, c', e1, e2, e3⟩ := sel i j hj
    have lt : j < ρ.length := by rw [g.len]; exact (List.getElem?_eq_some_iff.mp e1).1
    rw [List.getD_eq_getElem?_getD, List.getElem?_eq_getElem lt] at e
    exact ⟨j, c, c', hj, by rw [List.getElem?_eq_getElem lt]; exact congrArg some e, e1, e3, e2⟩
  refine ⟨g.ex, by unfold selR; rw [List.length_map, lk], fun i i' p h1 h2 => ?_, fun i p c h1 h2 => ?_, True.intro⟩
  · obtain ⟨j, _, _, y1, y2, _⟩ := get h1
    obtain ⟨j', _, _, z1, z2, _⟩ := get h2
    have e := g.inj j j' p y2 z2
    subst e
    obtain ⟨a1, b1⟩ := List.getElem?_eq_some_iff.mp y1
    obtain ⟨a2, b2⟩ := List.getElem?_eq_some_iff.mp z1
    exact (List.getElem_inj nd).mp (b1.trans b2.symm)
  · obtain ⟨j, c0, c', y1, y2, y3, y4, y5⟩ := get h1
    rw [h2] at y4; cases y4
    exact (g.at' j p c0 y2 y3).sel (fun i j p h1 h2 => selR_get h1 h2) y5
theorem Reps.back {js : List Nat} {n : Nat} (hrep : ∀ {a : AV} {v : V}, Rep K B ρ a v → Rep K B ρ' (backA js n a) v) : ∀ {as : List AV} {vs : List V}, Reps K B ρ as vs → Reps K B ρ' (as.map (backA js n)) vs
  | _, _, .nil => .nil
  | _, _, .cons h1 h2 => .cons (hrep h1) (Reps.back hrep h2)
theorem RepKs.back {ι : Type} {js : List Nat} {n : Nat} (hrep : ∀ {a : AV} {v : V}, Rep K B ρ a v → Rep K B ρ' (backA js n a) v) : ∀ {as : List (ι × AV)} {vs : List (ι × V)}, RepKs K B ρ as vs → RepKs K B ρ' (as.map fun p => (p.1, backA js n p.2)) vs
  | _, _, .nil => .nil
  | _, _, .cons h1 h2 => .cons ⟨h1.1, hrep h1.2⟩ (RepKs.back hrep h2)
theorem CellOk.back {js : List Nat} {n : Nat} (hrep : ∀ {a : AV} {v : V}, Rep K B ρ a v → Rep K B ρ' (backA js n a) v) {cl : Cell} (ok : CellOk K B ρ H p cl) : CellOk K B ρ' H p (backC js n cl) := by
  cases cl with
  | dead => exact ok
  | ld ys => exact ok
  | dK ys => exact ok
  | dT ys => exact ok
  | lst ys => obtain ⟨n, ws, r, e⟩ := ok; exact ⟨n, ws, Reps.back hrep r, e⟩
  | tup ys => obtain ⟨ws, r, e⟩ := ok; exact ⟨ws, Reps.back hrep r, e⟩
  | ins C ys => obtain ⟨n, dx, ws, r, e⟩ := ok; exact ⟨n, dx, ws, RepKs.back hrep r, e⟩
theorem back_okX (g : G K B ρ κ H) {js : List Nat} {κl : AK} (nd : js.Nodup) (hk : selKX js κ js = some κl) {ρl' : List Addr} (w : Up B (selR js ρ) H B' ρl' H') (g' : G (Frg.of K.K) B' ρl' κ' H') (l : js.length ≤ κ'.length) (lv : (κ'.drop js.length).all liveC = true) :
    Up B ρ H B' (ρ ++ ρl'.drop js.length) H' ∧ G K B' (ρ ++ ρl'.drop js.length) (backKX js κ κ') H' ∧ ∀ {a : AV} {v : V}, Rep K B' ρl' a v → Rep K B' (ρ ++ ρl'.drop js.length) (backA js κ.length a) v := by
  obtain ⟨lk, sel⟩ := selKX_get hk
  have jlt : ∀ {i j : Nat}, js[i]? = some j → j < κ.length := fun h => by
    obtain ⟨c, _, e, _⟩ := sel _ _ h
    exact (List.getElem?_eq_some_iff.mp e).1
  have rl : ∀ {i j : Nat} {p : Addr}, js[i]? = some j → ρ[j]? = some p → ρl'[i]? = some p := fun h hp => w.p _ _ (selR_get h hp)
  have memsel : ∀ {i : Nat} {p : Addr}, ρ[i]? = some p → p ∈ selR js ρ → i ∈ js := fun {i p} hp hm => by
    unfold selR at hm
    obtain ⟨j, hj, e⟩ := List.mem_map.mp hm
    obtain ⟨m, hm⟩ := List.mem_iff_getElem?.mp hj
    have lt := jlt hm
    rw [← g.len] at lt
    rw [List.getD_eq_getElem?_getD, List.getElem?_eq_getElem lt] at e
    have : ρ[j]? = some p := by rw [List.getElem?_eq_getElem lt]; exact congrArg some e
    rw [g.inj i j p hp this]; exact hj
  have newne : ∀ {i m : Nat} {p : Addr}, ρ[i]? = some p → (ρl'.drop js.length)[m]? = some p → False := fun {i m p} h1 h2 => by
    rw [List.getElem?_drop] at h2
    by_cases hj : i ∈ js
    · obtain ⟨q, hq⟩ := List.mem_iff_getElem?.mp hj
      have := g'.inj q _ p (rl hq h1) h2
      have := (List.getElem?_eq_some_iff.mp hq).1
      omega
    · have hm : js.length + m < κ'.length := by rw [← g'.len]; exact (List.getElem?_eq_some_iff.mp h2).1
      have ok := g'.at' _ p _ h2 (List.getElem?_eq_getElem hm)
      have live : liveC κ'[js.length + m] = true := List.all_eq_true.mp lv _ (mem_of_get (by rw [List.getElem?_drop]; exact List.getElem?_eq_getElem hm))
      have bn : B' p = none ∨ ∃ ws, H' p = some (.tup ws) := by
        cases hc : κ'[js.length + m] with
        | dead => rw [hc] at live; cases live
        | ld ys => rw [hc] at ok; exact .inl ok.1
        | lst ys => rw [hc] at ok; exact .inl ok.1
        | tup ys => rw [hc] at ok; obtain ⟨vs, _, e⟩ := ok; exact .inr ⟨vs, e⟩
        | dK ys => rw [hc] at ok; exact .inl ok.1
        | dT ys => rw [hc] at ok; exact .inl ok.1
        | ins C ys => rw [hc] at ok; exact .inl ok.1
      have hi : i < κ.length := by rw [← g.len]; exact (List.getElem?_eq_some_iff.mp h1).1
      have hn := (g.at' i p _ h1 (List.getElem?_eq_getElem hi)).nn
      cases hH : H p with
      | none => exact hn hH
      | some o =>
        have fo : B p = none ∨ IsT o := by
          rcases bn with bn | ⟨ws, e⟩
          · exact .inl (w.s.free bn)
          · cases hB : B p with
            | none => exact .inl rfl
            | some u =>
              have z1 := g.ex p u hB
              rw [hH] at z1; cases z1
              have z2 := g'.ex p _ (w.s p _ hB)
              rw [e] at z2
              exact .inr ⟨ws, (Option.some.inj z2).symm⟩
        exact (w.f p o hH fo fun z => hj (memsel h1 z)).2.2 (mem_of_get h2)
  have w2 : Up B ρ H B' (ρ ++ ρl'.drop js.length) H' := ⟨w.s, fun _ _ h => get_app h, fun p o h1 h2 h3 => by
    have hp : p ∉ selR js ρ := fun z => by
      unfold selR at z
      obtain ⟨j, hj, e⟩ := List.mem_map.mp z
      obtain ⟨m, hm⟩ := List.mem_iff_getElem?.mp hj
      have lt := jlt hm
      rw [← g.len] at lt
      rw [List.getD_eq_getElem?_getD, List.getElem?_eq_getElem lt] at e
      exact h3 (by rw [← e]; exact List.getElem_mem lt)
    obtain ⟨y1, y2, y3⟩ := w.f p o h1 h2 hp
    refine ⟨y1, y2, fun z => ?_⟩
    rcases List.mem_append.mp z with z | z
    · exact h3 z
    · exact y3 (List.mem_of_mem_drop z)⟩
  have hrep : ∀ {a : AV} {v : V}, Rep K B' ρl' a v → Rep K B' (ρ ++ ρl'.drop js.length) (backA js κ.length a) v := fun {a v} r => by
    cases a with
    | d y => exact r
    | r y => exact r
    | c j =>
      obtain ⟨p, hp, rfl⟩ := r
      show Rep K B' _ (match js[j]? with | some k => .c k | none => .c (κ.length + (j - js.length))) _
      cases e : js[j]? with
      | some k =>
        have lt := jlt e
        rw [← g.len] at lt
        have e2 := rl e (List.getElem?_eq_getElem lt)
        rw [hp] at e2; cases e2
        exact ⟨_, get_app (List.getElem?_eq_getElem lt), rfl⟩
      | none =>
        have hj : js.length ≤ j := List.getElem?_eq_none_iff.mp e
        refine ⟨p, ?_, rfl⟩
        rw [← g.len, List.getElem?_append_right (by omega), List.getElem?_drop]
        have : js.length + (ρ.length + (j - js.length) - ρ.length) = j := by omega
        rw [this]; exact hp
  have lb : (putK js (κ'.map (backC js κ.length)) κ).length = ρ.length := by rw [putK_len, g.len]
  refine ⟨w2, ⟨g'.ex, ?_, fun i j p h1 h2 => ?_, fun i p c h1 h2 => ?_, K.up _ _ _ _ _ _ w2.n g.z⟩, hrep⟩
  · rw [backKX, backK_eq, List.length_append, List.length_append, lb, List.length_drop, List.length_drop, List.length_map, g'.len]
  · by_cases hi : i < ρ.length
    · rw [List.getElem?_append_left hi] at h1
      by_cases hj : j < ρ.length
      · rw [List.getElem?_append_left hj] at h2
        exact g.inj i j p h1 h2
      · rw [List.getElem?_append_right (by omega)] at h2
        exact (newne h1 h2).elim
    · rw [List.getElem?_append_right (by omega)] at h1
      by_cases hj : j < ρ.length
      · rw [List.getElem?_append_left hj] at h2
        exact (newne h2 h1).elim
      · rw [List.getElem?_append_right (by omega)] at h2
        rw [List.getElem?_drop] at h1 h2
        have := g'.inj _ _ p h1 h2
        omega
  · rw [backKX, backK_eq] at h2
    by_cases hi : i < ρ.length
    · rw [List.getElem?_append_left hi] at h1
      rw [List.getElem?_append_left (by omega)] at h2
      by_cases hj : i ∈ js
      · obtain ⟨q, hq⟩ := List.mem_iff_getElem?.mp hj
        have hq' : q < κ'.length := Nat.lt_of_lt_of_le (List.getElem?_eq_some_iff.mp hq).1 l
        rw [putK_at nd hq (by rw [List.getElem?_map, List.getElem?_eq_getElem hq']; rfl) (jlt hq)] at h2
        cases h2
        exact (g'.at' q p _ (rl hq h1) (List.getElem?_eq_getElem hq')).back hrep
      · rw [putK_ne hj] at h2
        have ok := g.at' i p c h1 h2
        have hp : p ∉ selR js ρ := fun z => hj (memsel h1 z)
        refine ok.up w2.g (fun bn => ?_) fun o ho => ?_
        · obtain ⟨o, ho⟩ := Option.ne_none_iff_exists'.mp ok.nn
          exact (w.f p o ho (.inl bn) hp).2.1.imp id fun ⟨ws, z⟩ => ⟨ws, by rw [ho, z]⟩
        · cases bp : B p with
          | none => exact (w.f p o ho (.inl bp) hp).1
          | some u =>
            have e1 := g.ex p u bp
            rw [ho] at e1; cases e1
            exact g'.ex p o (w.s p o bp)
    · rw [List.getElem?_append_right (by omega), List.getElem?_drop] at h1
      rw [List.getElem?_append_right (by omega), lb, List.getElem?_drop, List.getElem?_map] at h2
      obtain ⟨c0, hc0, rfl⟩ := Option.map_eq_some_iff.mp h2
      exact (g'.at' _ p c0 h1 hc0).back hrep
def aCallX (F : FSp) (E : AX → AK → Prop) (fa : AA) : AE := fun δ κ R => fa δ κ fun as κ1 => callX F E as κ1 R
theorem callX_sd {F : FSp} {E : XK} {E' : AX → AK → Prop} {as : List AV} {vs : List V} {R : AR} {Q : VK} (g : G K B ρ κ H) (r : Reps K B ρ as vs) (h : callX F E' as κ R) (q : Nx K B ρ H R Q) (hx : ∀ B' ρ' κ' H' x cls d, G K B' ρ' κ' H' → E' x κ' → RepX K B' x cls d → E cls d H') : spA K F vs H Q E := by
  obtain ⟨js, asl, κl, nd, e1, e2, hF⟩ := callX_e h
  refine ⟨B, selR js ρ, κl, asl, _, _, sel_okX g nd e2, selAs_ok (fun i j p h1 h2 => selR_get h1 h2) e1 r, hF, ?_, ?_⟩
  · rintro B' ρ' κ' H' a v w2 g2 r2 ⟨l, lv, hR⟩
    obtain ⟨w3, g3, r3⟩ := back_okX g nd e2 w2 g2 l lv
    exact q _ _ _ _ _ _ w3 g3 (r3 r2) hR
  · rintro B' ρ' κ' H' x cls d w2 g2 r2 ⟨l, lv, hR⟩
    obtain ⟨w3, g3, r3⟩ := back_okX g nd e2 w2 g2 l lv
    exact hx _ _ _ _ _ _ _ g3 hR r2
theorem se_callX {F : FSp} {ta : TA} {fa : AA} {E : XK} {E' : AX → AK → Prop} (ha : SA K ta fa) (hx : ∀ B' ρ' κ' H' x cls d, G K B' ρ' κ' H' → E' x κ' → RepX K B' x cls d → E cls d H') : SE K (tCall (spA K F) [] E ta) (aCallX F E' fa) := fun B ρ δ κ σ H R Q s g h q =>
  ha B ρ δ κ σ H _ _ s g h fun B1 ρ1 κ1 H1 as vs w1 g1 r1 hcw => by
    show spA K F (vs ++ []) H1 Q E
    rw [List.append_nil]
    exact callX_sd g1 r1 hcw (q.later w1) hx
section
variable {X : Cx} {e e2 : Expr} {t u : TE} {f f2 : AE} {pos : Pos}
variable {l : Nat} {fa : Addr} {fd : FuncData} {ps : List Str} {F : FSp} {x : Str} {q pos : Pos} {es : List Expr} {ta : TA} {ga : AA}
theorem ea_callX (Fo : FnOk X.prog X.w X.K X.mg X.base CX0 l fa fd ps (spA K F)) (hr : Room l X.A) (hg : Gl X x) (hm : X.mg x = some (.ref fa)) (hk : PySem.W.keepIn X.K (.ref fa) = true) (hb : Binds X.K fd ps []) (ha : PAa K X (e :: es) ta ga)
    (hdb : (x == ("__debug__" : Str)) = false := by decide) (he : starEach (e :: es) X.env = (false, eval e X.env) :: starEach es X.env := by rfl) (hpl : (backTo pos (starEach es X.env)).any (·.1) = false := by rfl) (hK : X.K = K := by rfl) :
    PEa K X (.Call (.Name x q) (e :: es) [] pos) (tCall (spA K F) [] E0 ta) (aCallX F (fun _ _ => False) ga) := by
  obtain ⟨K, Kn, KZ, Ku⟩ := K
  change X.K = K at hK
  subst hK
  exact ⟨pe_call Fo hr hg hm hk hb .nil pass0 ha.pa hdb he hpl, se_callX ha.sd fun _ _ _ _ _ _ _ _ h => h.elim⟩
end
end Ab
set_option Elab.async false
set_option linter.all false
set_option maxRecDepth 100000
set_option maxHeartbeats 4000000
/-! Ab13: find, split, all, ord, int of a text, a text several times, a list taken apart -/
namespace Ab
open PySem L2
variable {K : Frg} {B B' B2 H H' H2 : Hp} {ρ ρ' ρ2 : List Addr} {κ κ' : AK} {δ : AD} {σ : L2.St} {p : Addr} {k : Nat} {v x y z : V} {a b c : AV}
variable {X : Cx} {e e2 : Expr} {t u : TE} {f f2 : AE} {pos : Pos}
/-- s.find(x, i) -/
def aFind3 : AV → List AV → AK → AR → Prop := fun a as κ R => match a, as with
  | .d (.str s), [.d (.str t), .d (.int i)] => R (.d (.int (Txt.find3 s t i))) κ
  | _, _ => False
theorem ma_find3 : MtA K X "str.find" (fun x xs H Q => ∃ (a b : Str) (i : Int), x = .str a ∧ xs = [.str b, .int i] ∧ Q (.int (Txt.find3 a b i)) H) aFind3 := by
  refine ⟨mt_find3, fun B ρ κ H x xs a as R Q g rx rs h q => ?_⟩
  unfold aFind3 at h
  split at h
  · obtain ⟨y, z, rfl, r1, r2⟩ := reps2 rs
    cases rx.str; cases r1.str; cases r2.int
    exact ⟨_, _, _, rfl, rfl, q.at0 g (rp_int _) h⟩
  · exact h.elim
theorem dpa_strs_of : ∀ ys : List Str, DpAll K B (ys.map V.str) (ys.map .str)
  | [] => .nil
  | y :: ys => .cons (.str y) (dpa_strs_of ys)
/-- s.split(x): data -/
def aSplit : AV → List AV → AK → AR → Prop := fun a as κ R => match a, as with
  | .d (.str s), [.d (.str t)] => (t.length == 0) = false ∧ s.length + 2 ≤ sizeLine ∧ R (.d (.list ((Txt.split s t).map .str))) κ
  | _, _ => False
theorem ma_split : MtA K X "str.split" (fun x xs H Q => ∃ a b, x = .str a ∧ xs = [.str b] ∧ (b.length == 0) = false ∧ a.length + 2 ≤ sizeLine ∧ rNewStrs (Txt.split a b) H Q) aSplit := by
  refine ⟨mt_split, fun B ρ κ H x xs a as R Q g rx rs h q => ?_⟩
  unfold aSplit at h
  split at h
  · obtain ⟨y, rfl, r1⟩ := reps1 rs
    cases rx.str; cases r1.str
    refine ⟨_, _, rfl, rfl, h.1, h.2.1, fun p hp => ?_⟩
    obtain ⟨u4, g4, r4⟩ := new_lst g hp (dpa_strs_of _)
    exact q _ _ _ _ _ _ u4 g4 r4 h.2.2
  · exact h.elim
theorem dpa_bools : ∀ {bs : List Bool} {vs : List V}, DpAll K B vs (bs.map .bool) → vs = bs.map V.bl
  | [], _, h => by cases h; rfl
  | y :: ys, _, h => by
    cases h with
    | cons h1 h2 =>
      cases h1
      rw [dpa_bools h2]; rfl
/-- all([..]) of truths -/
def aAll : List AV → AK → AR → Prop := fun as κ R => match as with
  | [.d (.list ds)] => ∃ bs : List Bool, ds = bs.map .bool ∧ R (.d (.bool (bs.all id))) κ
  | _ => False
theorem ca_all (hc : X.calm = true) (hK : X.K = K := by rfl) : CallA K X (.builtin "all") (rAll K) aAll := by
  obtain ⟨K, Kn, KZ, Ku⟩ := K
  change X.K = K at hK
  subst hK
  refine ⟨cr_all hc, fun B ρ κ H xs as R Q g rs h q => ?_⟩
  unfold aAll at h
  split at h
  · obtain ⟨x, rfl, r⟩ := reps1 rs
    obtain ⟨bs, rfl, h⟩ := h
    obtain ⟨p, vs, rfl, s1, d1⟩ := of_listG g r
    obtain rfl := dpa_bools d1
    exact ⟨p, bs, rfl, s1, q.at0 g (rp_bl _) h⟩
  · exact h.elim
/-- ord(c) -/
def aOrd : List AV → AK → AR → Prop := fun as κ R => match as with
  | [.d (.str s)] => ∃ c, s.cps.toList = [c] ∧ R (.d (.int (c : Nat))) κ
  | _ => False
theorem ca_ord : CallA K X (.builtin "ord") (fun xs H Q => ∃ x, xs = [.str x] ∧ x.length = 1 ∧ Q (.int (x.cps.getD 0 0 : Nat)) H) aOrd := by
  refine ⟨call_ord, fun B ρ κ H xs as R Q g rs h q => ?_⟩
  unfold aOrd at h
  split at h
  · obtain ⟨x, rfl, r⟩ := reps1 rs
    obtain ⟨c, e, h⟩ := h
    rw [str_one e] at r
    refine ⟨⟨#[c]⟩, by rw [r.str], rfl, q.at0 g (rp_int _) h⟩
  · exact h.elim
/-- int of a text of digits -/
def aIntS : List AV → AK → AR → Prop := fun as κ R => match as with
  | [.d (.str s)] => ∃ n, PySem.intText? s = some n ∧ s.length ≤ 640 ∧ R (.d (.int n)) κ
  | _ => False
theorem ca_intS : CallA K X (.type "int") (fun xs H Q => ∃ a n, xs = [.str a] ∧ PySem.intText? a = some n ∧ a.length ≤ 640 ∧ Q (.int n) H) aIntS := by
  refine ⟨call_int_str, fun B ρ κ H xs as R Q g rs h q => ?_⟩
  unfold aIntS at h
  split at h
  · obtain ⟨x, rfl, r⟩ := reps1 rs
    obtain ⟨n, e, hl, h⟩ := h
    cases r.str
    exact ⟨_, n, rfl, e, hl, q.at0 g (rp_int _) h⟩
  · exact h.elim
/-- a text n times -/
def aMulT : AO := fun a b κ R => match a, b with
  | .d (.str s), .d (.int n) => s.length ≤ 1000 ∧ 1 < n ∧ n ≤ 1000 ∧ R (.d (.str (Txt.mul s n))) κ
  | _, _ => False
def rMulT : R2 := fun x y H Q => ∃ s n, x = .str s ∧ y = .int n ∧ s.length ≤ 1000 ∧ 1 < n ∧ n ≤ 1000 ∧ Q (.str (Txt.mul s n)) H
theorem op_mulT : OpR X (binaryOp .Mult) rMulT := by
  intro pins s σ H x y v u Q I rx ry h
  obtain ⟨z, n, rfl, rfl, h1, h2, h3, q⟩ := h
  obtain ⟨t, rfl⟩ := rx
  obtain ⟨t2, rfl⟩ := ry
  refine PySem.SB.mul ⟨?_, fun _ _ => ?_, fun _ _ => ?_⟩ fun t' k => ⟨.str _, H, I.tok k, ⟨t', rfl⟩, q⟩
  · rw [Bool.or_eq_false_iff]
    exact ⟨decide_eq_false (by omega), decide_eq_false (by omega)⟩
  · have : (1000 : Int) ≤ (2 ^ 63 - 1) / n := by
      rw [Int.le_ediv_iff_mul_le (by omega)]; omega
    omega
  · have : z.length * n.toNat ≤ 1000 * 1000 := Nat.mul_le_mul h1 (by omega)
    have hs : (1000000 : Nat) ≤ sizeLine := by decide
    unfold Builtin.Str.tooLong
    exact decide_eq_false (by omega)
theorem oa_mulT : OpA K X (binaryOp .Mult) rMulT aMulT := by
  refine ⟨op_mulT, ?_⟩
  intro B ρ κ H x y a b R Q g rx ry h q
  unfold aMulT at h
  split at h
  · exact ⟨_, _, rx.str, ry.int, h.1, h.2.1, h.2.2.1, q.at0 g (rp_str _) h.2.2.2⟩
  · exact h.elim
/-- a list is taken apart -/
def aGUnl (n : Nat) (gs : AGs) : AG := fun a δ κ R => match a with
  | .d (.list ds) => ds.length = n ∧ gs (ds.map .d) δ κ R
  | _ => False
theorem ga_unl {es : List Expr} {tgs : TGs} {ags : AGs} {kk : Nat} {n : Nat} (hc : X.calm = true) (h : PGsa K X es tgs ags) (hn : (assignEach es X.env).length = n := by rfl) (hst : (assignEach es X.env).findIdx? (·.1) = none := by rfl) (hK : X.K = K := by rfl) : PGa K X (.Tuple es kk pos) (gUnl K n tgs) (aGUnl n ags) := by
  obtain ⟨K, Kn, KZ, Ku⟩ := K
  change X.K = K at hK
  subst hK
  exact ⟨pg_unl hc h.pg hn hst, fun B ρ δ κ σ H a v R Q s g r hh q => by
    unfold aGUnl at hh
    split at hh
    · obtain ⟨p, vs, rfl, s1, d1⟩ := of_listG g r
      exact ⟨p, vs, rfl, s1, by rw [dpa_len d1]; exact hh.1, h.sd _ _ _ _ _ _ _ _ _ _ s g (Reps.all d1) hh.2 q⟩
    · exact hh.elim⟩
end Ab
set_option Elab.async false
set_option linter.all false
set_option maxRecDepth 100000
set_option maxHeartbeats 4000000
/-! Ab14: dicts whose keys are tuples, sorted -/
namespace Ab
open PySem L2 PyProof.Rows PyProof.Rows.G PySem.W
/-! ### keys as rows of numbers and signs -/
def kI (k : List L2.Key) : List (Int ⊕ List Nat) := k.map fun
  | .inl n => .inl n
  | .inr s => .inr s.cps.toList
/-- one shape: which items are texts -/
def okSh (shape : Nat → Bool) : Nat → List L2.Key → Prop
  | _, [] => True
  | i, .inl _ :: r => shape i = false ∧ okSh shape (i + 1) r
  | i, .inr _ :: r => shape i = true ∧ okSh shape (i + 1) r
def kLt (a b : List L2.Key) : Bool := lexLt itemOrd (kI a) (kI b)
def SrtKs (ks : List (List L2.Key)) : Prop := ks.Pairwise fun a b => kLt b a = false
theorem items_of {shape : Nat → Bool} : ∀ {k : List L2.Key} {i : Nat} {its : List Value}, Vals (k.map kV) its → okSh shape i k → tupItems shape i its = some (kI k)
  | [], _, _, h, _ => by cases h; rfl
  | .inl n :: r, i, _, h, hs => by
    cases h with
    | cons h1 h2 =>
      obtain ⟨t, rfl⟩ := h1
      show (if shape i = true then none else (tupItems shape (i + 1) _).map (Sum.inl n :: ·)) = _
      rw [if_neg (by rw [hs.1]; exact Bool.false_ne_true), items_of h2 hs.2]; rfl
  | .inr s :: r, i, _, h, hs => by
    cases h with
    | cons h1 h2 =>
      obtain ⟨t, rfl⟩ := h1
      show (if shape i = true then (tupItems shape (i + 1) _).map (Sum.inr s.cps.toList :: ·) else none) = _
      rw [if_pos hs.1, items_of h2 hs.2]; rfl
/-- a key tuple in the heap -/
def KtAt (h : Heap) (k : List L2.Key) (b : Addr) : Prop := ∃ its, Vals (k.map kV) its ∧ IsTup h b its.toArray
theorem KtAt.keep {h h' : Heap} {k : List L2.Key} {b : Addr} (x : KtAt h k b) (q : ∀ b o, h.get? b = some o → h'.get? b = some o) : KtAt h' k b := let ⟨its, r, t⟩ := x; ⟨its, r, t.keeps q⟩
theorem ktAt_of {P : Program} {w : World} {H : Hp} {h : Heap} {k : List L2.Key} {b : Addr} (ok : HOk P w H h) (hb : H b = some (.tup (k.map kV))) : KtAt h k b := by
  obtain ⟨_, its, rv, t⟩ := (show ObjOk P w H h b (.tup (k.map kV)) from ok b _ hb)
  exact ⟨its, rv, t⟩
theorem keyC_of {h : Heap} {b : Addr} {shape : Nat → Bool} {k : List L2.Key} (hb : KtAt h k b) (hs : okSh shape 0 k) : tupKeyC h shape (.ref b) = some (kI k) := by
  obtain ⟨its, rv, o, ho, hc, n, hd⟩ := hb
  unfold tupKeyC tupKey isTupObj
  simp only [ho, hc, hd]
  rw [if_pos (by simp)]
  exact items_of rv hs
theorem tupOf_of {h : Heap} {b : Addr} {shape : Nat → Bool} {k : List L2.Key} (hb : KtAt h k b) (hs : okSh shape 0 k) (hne : k ≠ []) : ∃ f, TupOf h shape (.ref b) f := by
  obtain ⟨its, rv, o, ho, hc, n, hd⟩ := hb
  cases k with
  | nil => exact absurd rfl hne
  | cons x r =>
    cases rv with
    | @cons _ f _ us h1 h2 =>
      refine ⟨f, b, o, _, n, rfl, ho, hc, hd, by simp, fun h0 => ?_, fun h0 => ?_⟩
      · cases x with
        | inl z => obtain ⟨t, rfl⟩ := h1; exact ⟨z, t, rfl⟩
        | inr z => rw [hs.1] at h0; cases h0
      · cases x with
        | inl z => rw [hs.1] at h0; cases h0
        | inr z => obtain ⟨t, rfl⟩ := h1; exact ⟨z, t, rfl⟩
/-- a list of key tuples, with their places -/
def KAts (h : Heap) (shape : Nat → Bool) (l : List (List L2.Key × Addr)) : Prop := ∀ x ∈ l, KtAt h x.1 x.2 ∧ okSh shape 0 x.1 ∧ x.1 ≠ []
theorem KAts.keep {h h' : Heap} {shape : Nat → Bool} {l : List (List L2.Key × Addr)} (x : KAts h shape l) (q : ∀ b o, h.get? b = some o → h'.get? b = some o) : KAts h' shape l := fun y hy => let ⟨a, b, c⟩ := x y hy; ⟨a.keep q, b, c⟩
theorem tups_of {h : Heap} {shape : Nat → Bool} : ∀ {l : List (List L2.Key × Addr)}, KAts h shape l → ∃ fs, TupsOf h shape (l.map fun x => Value.ref x.2) fs
  | [], _ => ⟨[], .nil⟩
  | x :: l, hl => by
    obtain ⟨h1, h2, h3⟩ := hl x (List.mem_cons_self ..)
    obtain ⟨f, hf⟩ := tupOf_of h1 h2 h3
    obtain ⟨fs, hfs⟩ := tups_of (l := l) fun y hy => hl y (List.mem_cons_of_mem _ hy)
    exact ⟨f :: fs, .cons hf hfs⟩
theorem sort_out {h : Heap} {shape : Nat → Bool} {l : List (List L2.Key × Addr)} (hl : KAts h shape l) {arr : Array Keyed} (hp : arr.Perm (pairsOf (l.map fun x => Value.ref x.2))) (hs : SortedToK (tupKindC h shape) arr (pairsOf (l.map fun x => Value.ref x.2)).size) :
    ∃ l' : List (List L2.Key × Addr), l'.Perm l ∧ (arr.map (·.2)).toList = l'.map (fun x => Value.ref x.2) ∧ SrtKs (l'.map (·.1)) := by
  have hz : arr.toList.Perm ((l.map fun x => Value.ref x.2).zip (l.map fun x => Value.ref x.2)) := by rw [← pairsOf_toList]; exact Array.perm_iff_toList_perm.mp hp
  have ez : ∀ l : List (List L2.Key × Addr), l.map (fun x => ((Value.ref x.2, Value.ref x.2) : Value × Value)) = (l.map fun x => Value.ref x.2).zip (l.map fun x => Value.ref x.2) := by
    intro l
    induction l with
    | nil => rfl
    | cons a l ih => rw [List.map_cons, List.map_cons, List.zip_cons_cons, ih]
  obtain ⟨l', p', e'⟩ := perm_lift (fun x : List L2.Key × Addr => ((Value.ref x.2, Value.ref x.2) : Value × Value)) hz l (ez l)
  have hl' : KAts h shape l' := fun x hx => hl x (p'.mem_iff.mp hx)
  refine ⟨l', p', ?_, ?_⟩
  · rw [Array.toList_map, ← e', List.map_map]; rfl
  · unfold SrtKs
    rw [List.pairwise_map, List.pairwise_iff_getElem]
    intro i j hi hj hij
    have hsz : arr.size = l'.length := by
      have := congrArg List.length e'
      rw [List.length_map, Array.length_toList] at this
      exact this.symm
    have h1 := hs i j (Nat.le_of_lt hij) (by rw [← hp.size_eq, hsz]; exact hj)
    have kk : ∀ m (hm : m < l'.length), KK (tupKindC h shape) arr m = kI l'[m].1 := by
      intro m hm
      have em : arr[m]? = some (Value.ref l'[m].2, Value.ref l'[m].2) := by
        rw [← Array.getElem?_toList, ← e', List.getElem?_map, List.getElem?_eq_getElem hm]; rfl
      obtain ⟨h3, h4, _⟩ := hl' l'[m] (List.getElem_mem hm)
      unfold KK
      rw [em]
      show (tupKeyC h shape (.ref l'[m].2)).getD [] = _
      rw [keyC_of h3 h4]; rfl
    rw [kk i hi, kk j hj] at h1
    exact h1
/-! ### sorted(d): a dict with tuple keys -/
section
variable {X : L2.Cx}
def rSortDT : List V → Hp → VK → Prop := fun xs H Q => ∃ (a : Addr) (kvs : List (List L2.Key × V)) (shape : Nat → Bool), xs = [V.ref a] ∧ Rd H a (.dT kvs) ∧ (∀ kv ∈ kvs, okSh shape 0 kv.1 ∧ kv.1 ≠ []) ∧
  ∀ (l : List (List L2.Key × Addr)) p, (l.map (·.1)).Perm (kvs.map (·.1)) → SrtKs (l.map (·.1)) → (∀ x ∈ l, H x.2 = some (.tup (x.1.map kV))) → H p = none → Q (.ref p) (upd H p (.lst (l.map fun x => V.ref x.2)))
theorem cr_sortedDT (hcalm : X.calm = true) : CallR X (.builtin "sorted") rSortDT := by
  intro pins s σ H xs us Q I r h
  obtain ⟨d, kvs, shape, rfl, hd, hsh, q⟩ := h
  obtain ⟨u, rfl, rx⟩ := r.one
  cases rx
  obtain ⟨z, hs, ks, pr, o, es, ep, ho, hx, hdt, he, hn⟩ := (show ObjOk X.prog X.w H s.heap d (.dT kvs) from hd.ok I.hok)
  have l1 : es.size = ks.length := size_of_entries he
  have l2 : kvs.length = ks.length := Paired.length pr
  refine Calls.call_function_entry kind_sorted plain_sorted entry_sorted (args_sorted1 _) ?_
  unfold Builtin.«sorted»
  refine wpAny_bind (m := checkCount "sorted" 1 1 _) (wpAny_pure ?_)
  refine wpAny_bind (PySem.W.kdu_collect (A := X.A.in1) (kdl_raw hs hx hdt) (I.ok.hd hcalm) ho (by omega) fun h' tk acc hk it => ?_)
  have ea : acc.toList = (ks.map fun x => (x.1, x.2.1)).map fun x => Value.ref x.2 := by
    have hl : acc.toList.length = ks.length := by rw [Array.length_toList, it.1]; exact l1
    apply List.ext_getElem?
    intro j
    rw [List.map_map, List.getElem?_map]
    cases hj : acc.toList[j]? with
    | none =>
      have h1 := List.getElem?_eq_none_iff.mp hj
      rw [List.getElem?_eq_none (by omega)]
      rfl
    | some v =>
      obtain ⟨en, hen, hv⟩ := it.2 j v (by rw [← Array.getElem?_toList]; exact hj)
      have qe := entry_at he j
      rw [hen] at qe
      cases hb : ks[j]? with
      | none =>
        rw [hb] at qe
        exact nomatch (show some en = none from qe)
      | some b =>
        rw [hb] at qe
        have e2 : en = entryOfKey (tupleKind (mixKind X.prog X.w)) b := Option.some.inj qe
        rw [hv, e2]
        rfl
  have hks : ks.map (·.1) = kvs.map (·.1) := by
    have : ∀ {l : List (List L2.Key × V)} {m : List (List L2.Key × Addr × Value)}, KT H l m → m.map (·.1) = l.map (·.1) := by
      intro l m q
      induction q with
      | nil => rfl
      | cons h _ ih => rw [List.map_cons, List.map_cons, h.1, ih]
    exact this pr
  have hH : ∀ x ∈ ks, H x.2.1 = some (.tup (x.1.map kV)) := by
    have : ∀ {l : List (List L2.Key × V)} {m : List (List L2.Key × Addr × Value)}, KT H l m → ∀ x ∈ m, H x.2.1 = some (.tup (x.1.map kV)) := by
      intro l m q
      induction q with
      | nil => intro x hx; cases hx
      | cons h _ ih =>
        intro x hx
        rcases List.mem_cons.mp hx with rfl | hx
        · rw [← h.1]; exact h.2.1
        · exact ih x hx
    exact this pr
  generalize hL : (ks.map fun x => (x.1, x.2.1)) = L at ea
  have hLH : ∀ x ∈ L, H x.2 = some (.tup (x.1.map kV)) := fun x hx => by
    rw [← hL] at hx
    obtain ⟨y, hy, rfl⟩ := List.mem_map.mp hx
    exact hH y hy
  have hLk : L.map (·.1) = kvs.map (·.1) := by rw [← hL, List.map_map, ← hks]; rfl
  have I1 : Inv X pins σ H { s with heap := h', toks := tk } := I.kept hk
  have hLA : KAts h' shape L := fun x hx => by
    have hm : x.1 ∈ kvs.map (·.1) := by rw [← hLk]; exact List.mem_map.mpr ⟨x, hx, rfl⟩
    obtain ⟨kv, hkv, e⟩ := List.mem_map.mp hm
    have := hsh kv hkv
    rw [e] at this
    exact ⟨ktAt_of I1.hok (hLH x hx), this⟩
  have hLl : L.length = kvs.length := by
    have := congrArg List.length hLk
    rwa [List.length_map, List.length_map] at this
  have hal : acc.toList.length = L.length := by rw [ea, List.length_map]
  refine wpAny_bind (wpAny_newList ?_ (by have := z; omega))
  have hoL : (h'.push (seqObj "list" acc.toList.toArray 0)).get? h'.objs.size = some (seqObj "list" acc.toList.toArray 0) := Heap.get?_push_size _ rfl
  show wpAny _ _ _ _ _ { s with heap := h'.push (seqObj "list" acc.toList.toArray 0), toks := tk }
  have hLP : KAts (h'.push (seqObj "list" acc.toList.toArray 0)) shape L := hLA.keep fun _ _ e => Heap.get?_push_of_some _ e
  obtain ⟨fs, hfs⟩ := tups_of hLP
  rw [← ea] at hfs
  refine wpAny_bind (wpAny_holding (wpAny_call_entry slot_list_sort ⟨_, hoL, rfl⟩ entry_list_sort
    (list_sort_tups (s := { s with heap := h'.push (seqObj "list" acc.toList.toArray 0), toks := tk }) (shape := shape) hoL hfs (fun v hv => ?_) (by omega) fun st' hp hs _ => ⟨_, rfl, ?_⟩) (args_list_sort _)))
  · rw [ea] at hv
    obtain ⟨x, hx, rfl⟩ := List.mem_map.mp hv
    exact ⟨_, keyC_of (hLP x hx).1 (hLP x hx).2.1⟩
  · have hp2 : (arrOf st').Perm (pairsOf (L.map fun x => Value.ref x.2)) := by rw [← ea]; exact hp
    have hs2 : SortedToK (tupKindC (h'.push (seqObj "list" acc.toList.toArray 0)) shape) (arrOf st') (pairsOf (L.map fun x => Value.ref x.2)).size := by rw [← ea]; exact hs
    obtain ⟨l', g1, g2, g3⟩ := sort_out hLP hp2 hs2
    obtain ⟨e', he'⟩ := sortedHeap_at (vs := acc.toList) (out := (arrOf st').map (·.2)) hoL
    have hl' : l'.length = L.length := g1.length_eq
    have hlen : (l'.map fun x => V.ref x.2).length ≤ sizeLine := by rw [List.length_map, hl', hLl]; exact z
    refine wpAny_pure ⟨_, rfl, .ref h'.objs.size, upd H h'.objs.size (.lst (l'.map fun x => V.ref x.2)), I1.laid (t' := tk) (fun b u e => ?_) (Nat.le_refl _)
      (show ObjOk X.prog X.w _ _ _ (.lst (l'.map fun x => V.ref x.2)) from ⟨hlen, ((arrOf st').map (·.2)).toList, e', by rw [g2]; exact vals_maps _ _ _ fun x _ => rfl, by rw [Array.toArray_toList]; exact he'⟩), rfl,
      q l' _ ((g1.map _).trans (by rw [hLk])) g3 (fun x hx => hLH x (g1.mem_iff.mp hx)) (I1.hok.fresh (Nat.le_refl _))⟩
    have hb : b < h'.objs.size := Heap.lt_size e
    rw [sortedHeap_old (Nat.ne_of_lt hb) (by rw [size_push']; exact Nat.lt_succ_of_lt hb)]
    exact Heap.get?_push_of_some _ e
end
/-! ### tuples become data -/
section
variable {K : Frg} {B B' : Hp} {ρ : List Addr} {κ : AK} {H : Hp} {X : L2.Cx}
theorem dpa_key : ∀ k : List L2.Key, DpAll K B (k.map kV) (k.map keyD)
  | [] => .nil
  | .inl i :: k => .cons (.int i) (dpa_key k)
  | .inr s :: k => .cons (.str s) (dpa_key k)
theorem absorb1 (g : G K B ρ κ H) {b : Addr} {ws : List V} {ds : List PyData} (hb : H b = some (.tup ws)) (d : DpAll K B ws ds) : ∃ B', Up B ρ H B' ρ H ∧ G K B' ρ κ H ∧ Dp K B' (.ref b) (.tuple ds) := by
  cases hB : B b with
  | some o =>
    have e := g.ex b o hB
    rw [hb] at e; cases e
    exact ⟨B, Up.refl, g, .tup (.inl (.inl hB)) d⟩
  | none =>
    have hs : Same B (upd B b (.tup ws)) := same_upd hB
    have u : Up B ρ H (upd B b (.tup ws)) ρ H := ⟨hs, fun _ _ h => h, fun q o h1 h2 h3 => by
      refine ⟨h1, ?_, h3⟩
      by_cases e : q = b
      · subst e
        rw [hb] at h1; cases h1
        exact .inr ⟨ws, rfl⟩
      · rw [upd_ne e]; exact h2⟩
    refine ⟨_, u, ⟨fun q o e => ?_, g.len, g.inj, fun i q c h1 h2 => ?_, K.up _ _ _ _ _ _ u.n g.z⟩, .tup (.inl (.inl upd_same)) (dpa_up hs _ _ d)⟩
    · by_cases e2 : q = b
      · subst e2; rw [upd_same] at e; rw [hb]; exact e
      · rw [upd_ne e2] at e; exact g.ex q o e
    · refine (g.at' i q c h1 h2).up u.g (fun z => ?_) fun _ e => e
      by_cases e2 : q = b
      · subst e2; exact .inr ⟨ws, hb⟩
      · rw [upd_ne e2]; exact .inl z
theorem absorb : ∀ {l : List (List L2.Key × Addr)} {B : Hp}, G K B ρ κ H → (∀ x ∈ l, H x.2 = some (.tup (x.1.map kV))) → ∃ B', Up B ρ H B' ρ H ∧ G K B' ρ κ H ∧ DpAll K B' (l.map fun x => V.ref x.2) (l.map fun x => PyData.tuple (x.1.map keyD))
  | [], B, g, _ => ⟨B, Up.refl, g, .nil⟩
  | x :: l, B, g, h => by
    obtain ⟨B1, u1, g1, d1⟩ := absorb1 g (h x (List.mem_cons_self ..)) (dpa_key x.1)
    obtain ⟨B2, u2, g2, d2⟩ := absorb (l := l) g1 fun y hy => h y (List.mem_cons_of_mem _ hy)
    exact ⟨B2, u1.trans u2, g2, .cons (dp_up u2.s _ _ d1) d2⟩
theorem dpks_keys {κ' : Type} {kvs : List (κ' × PyData)} {ws : List (κ' × V)} (h : DpKs K B kvs ws) : ws.map (·.1) = kvs.map (·.1) := by
  unfold DpKs at h
  induction h with
  | nil => rfl
  | cons h _ ih => rw [List.map_cons, List.map_cons, ih, h.1]
theorem dpa_ints' : ∀ ns : List Int, DpAll K B (ns.map V.int) (ns.map .int)
  | [] => .nil
  | n :: ns => .cons (.int n) (dpa_ints' ns)
theorem dpa_ints_eq : ∀ {ns : List Int} {vs : List V}, DpAll K B vs (ns.map .int) → vs = ns.map V.int
  | [], _, h => by cases h; rfl
  | n :: ns, _, h => by
    cases h with
    | cons h1 h2 => cases h1; rw [dpa_ints_eq h2]; rfl
theorem dpa_strs_eq : ∀ {ys : List Str} {vs : List V}, DpAll K B vs (ys.map .str) → vs = ys.map V.str
  | [], _, h => by cases h; rfl
  | n :: ns, _, h => by
    cases h with
    | cons h1 h2 => cases h1; rw [dpa_strs_eq h2]; rfl
/-- what sorted makes of a list of data -/
def SortD (ds : List PyData) (R : PyData → Prop) : Prop :=
  (∃ ns : List Int, ds = ns.map .int ∧ ns.length < 64 ∧ ∀ ns' : List Int, ns'.Perm ns → ns'.Pairwise (· ≤ ·) → R (.list (ns'.map .int))) ∨
  ∃ xs : List Str, ds = xs.map .str ∧ xs.length < 64 ∧ ∀ ys : List Str, ys.Perm xs → sortedS ys = true → R (.list (ys.map .str))
/-- sorted(..): numbers, texts, a dict with tuple keys -/
def aSort : List AV → AK → AR → Prop := fun as κ R => match as with
  | [.d (.list ds)] => SortD ds fun x => R (.d x) κ
  | [.c k] => match κ[k]? with
    | some (.ld ds) => SortD ds fun x => R (.d x) κ
    | some (.dT kvs) => ∃ shape, (∀ kv ∈ kvs, okSh shape 0 kv.1 ∧ kv.1 ≠ []) ∧ ∀ ys : List (List L2.Key), ys.Perm (kvs.map (·.1)) → SrtKs ys → R (.d (.list (ys.map fun k => .tuple (k.map keyD)))) κ
    | _ => False
  | _ => False
def rSort3 (K : PySem.W.Frag) : List V → Hp → VK → Prop := fun xs H Q => (rSorted K xs H Q ∨ rSortedS K xs H Q) ∨ rSortDT xs H Q
theorem sortD_ok {Q : VK} {R : AR} {ds : List PyData} {vs : List V} {p : Addr} (g : G K B ρ κ H) (s1 : SqL K H p vs) (d1 : DpAll K B vs ds) (h : SortD ds fun x => R (.d x) κ) (q : Nx K B ρ H R Q) : rSorted K [.ref p] H Q ∨ rSortedS K [.ref p] H Q := by
  rcases h with ⟨ns, rfl, hl, h⟩ | ⟨xs, rfl, hl, h⟩
  · have := dpa_ints_eq d1
    subst this
    refine .inl ⟨p, ns, rfl, s1, hl, fun ns' p' hp hs hn => ?_⟩
    obtain ⟨u, g2, r⟩ := new_lst g hn (dpa_ints' (K := K) (B := B) ns')
    exact q _ _ _ _ _ _ u g2 r (h ns' hp hs)
  · have := dpa_strs_eq d1
    subst this
    refine .inr ⟨p, xs, rfl, s1, hl, fun ys p' hp hs hn => ?_⟩
    obtain ⟨u, g2, r⟩ := new_lst g hn (dpa_strs_of (K := K) (B := B) ys)
    exact q _ _ _ _ _ _ u g2 r (h ys hp hs)
theorem ca_sort (hc : X.calm = true) (hK : X.K = K := by rfl) : CallA K X (.builtin "sorted") (rSort3 K) aSort := by
  obtain ⟨K, Kn, KZ, Ku⟩ := K
  change X.K = K at hK
  subst hK
  refine ⟨callr_or (callr_or cr_sorted cr_sortedS) (cr_sortedDT hc), fun B ρ κ H xs as R Q g rs h q => ?_⟩
  unfold aSort at h
  split at h
  · obtain ⟨x, rfl, r⟩ := reps1 rs
    obtain ⟨p, vs, rfl, s1, d1⟩ := of_listG g r
    exact .inl (sortD_ok g s1 d1 h q)
  · rename_i k
    obtain ⟨x, rfl, r⟩ := reps1 rs
    obtain ⟨p, hp, rfl⟩ := r
    split at h
    · rename_i ds ek
      obtain ⟨p', hp', _, vs, r, eH⟩ := g.cell ek
      rw [hp] at hp'; cases hp'
      exact .inl (sortD_ok g (.inl (.inl eH)) r h q)
    · rename_i kvs ek
      obtain ⟨shape, hsh, h⟩ := h
      obtain ⟨p', hp', _, ws, r, eH⟩ := g.cell ek
      rw [hp] at hp'; cases hp'
      have hk := dpks_keys r
      refine .inr ⟨p, ws, shape, rfl, .inl eH, fun kv hkv => ?_, fun l p2 h1 h2 h3 hn => ?_⟩
      · have hm : kv.1 ∈ kvs.map (·.1) := by rw [← hk]; exact List.mem_map.mpr ⟨kv, hkv, rfl⟩
        obtain ⟨kv', h1, h2⟩ := List.mem_map.mp hm
        rw [← h2]; exact hsh kv' h1
      · obtain ⟨B1, u1, g1, d1⟩ := absorb g h3
        obtain ⟨u2, g2, r2⟩ := new_lst g1 hn d1
        refine q _ _ _ _ _ _ (u1.trans u2) g2 r2 ?_
        have := h (l.map (·.1)) (h1.trans (by rw [hk])) h2
        rw [List.map_map] at this
        exact this
    · exact h.elim
  · exact h.elim
end
end Ab
set_option Elab.async false
set_option linter.all false
set_option maxRecDepth 100000
set_option maxHeartbeats 4000000
/-! Ab15: dicts whose keys are tuples: {}, in, d[k], d[k] = v; a tuple that is always a cell; lists of cells -/
namespace Ab
open PySem L2
variable {K : Frg} {B B' B2 H H' H2 : Hp} {ρ ρ' ρ2 : List Addr} {κ κ' : AK} {δ : AD} {σ : L2.St} {p : Addr} {k : Nat} {v x y z : V} {a b c : AV}
variable {X : Cx} {e e2 : Expr} {t u : TE} {f f2 : AE} {pos : Pos}
section
variable {ι : Type} [DecidableEq ι]
def valT (kvs : List (ι × PyData)) (k : ι) : Option PyData := (kvs.find? fun kv => decide (kv.1 = k)).map (·.2)
def putT (kvs : List (ι × PyData)) (k : ι) (v : PyData) : List (ι × PyData) :=
  if (kvs.any fun kv => decide (kv.1 = k)) = true then kvs.map (fun kv => if kv.1 = k then (kv.1, v) else kv) else kvs ++ [(k, v)]
theorem valT_pos {k k' : ι} {d : PyData} {r : List (ι × PyData)} (h : k' = k) : valT ((k', d) :: r) k = some d := by simp [valT, List.find?_cons, h]
theorem valT_neg {k k' : ι} {d : PyData} {r : List (ι × PyData)} (h : k' ≠ k) : valT ((k', d) :: r) k = valT r k := by simp [valT, List.find?_cons, h]
theorem dpkt_val {kvs : List (ι × PyData)} {ws : List (ι × V)} {k : ι} {d : PyData} (h : DpKs K B kvs ws) : valT kvs k = some d → ∃ v, valV ws k = some v ∧ Dp K B v d := by
  unfold DpKs at h
  induction h with
  | nil => intro e; cases e
  | @cons p q ps qs h1 h2 ih =>
    obtain ⟨k1, d1⟩ := p
    obtain ⟨k2, v2⟩ := q
    obtain ⟨e, r⟩ := h1
    have e : k1 = k2 := e
    subst e
    intro hd
    by_cases hk : k1 = k
    · rw [valT_pos hk] at hd
      cases hd
      exact ⟨v2, valV_pos hk, r⟩
    · rw [valT_neg hk] at hd
      obtain ⟨v, h3, h4⟩ := ih hd
      exact ⟨v, by rw [valV_neg (p := (k1, v2)) hk]; exact h3, h4⟩
theorem dpkt_any {kvs : List (ι × PyData)} {ws : List (ι × V)} {k : ι} (h : DpKs K B kvs ws) : (kvs.any fun kv => decide (kv.1 = k)) = ws.any fun kv => decide (kv.1 = k) := by
  unfold DpKs at h
  induction h with
  | nil => rfl
  | @cons p q ps qs h1 h2 ih => rw [List.any_cons, List.any_cons, ih, h1.1]
theorem dpkt_app {kvs kvs2 : List (ι × PyData)} {ws ws2 : List (ι × V)} (h : DpKs K B kvs ws) (h2 : DpKs K B kvs2 ws2) : DpKs K B (kvs ++ kvs2) (ws ++ ws2) := by
  unfold DpKs at h
  induction h with
  | nil => exact h2
  | cons h1 _ ih => exact .cons h1 ih
theorem dpkt_put {kvs : List (ι × PyData)} {ws : List (ι × V)} {k : ι} {d : PyData} (h : DpKs K B kvs ws) (r : Dp K B v d) : DpKs K B (putT kvs k d) (L2.putK ws k v) := by
  unfold putT L2.putK
  rw [dpkt_any h]
  split
  · unfold DpKs at h
    induction h with
    | nil => exact .nil
    | @cons p q ps qs h1 h2 ih =>
      rw [List.map_cons, List.map_cons]
      refine .cons ?_ ?_
      · rw [h1.1]
        by_cases hk : q.1 = k
        · rw [if_pos hk, if_pos hk]; exact ⟨rfl, r⟩
        · rw [if_neg hk, if_neg hk]; exact h1
      · rename_i hany
        by_cases ha : (qs.any fun kv => decide (kv.1 = k)) = true
        · exact ih ha
        · have none : ∀ q ∈ qs, q.1 ≠ k := fun q hq e => ha (List.any_eq_true.mpr ⟨q, hq, decide_eq_true e⟩)
          have : ∀ {ps : List (ι × PyData)} {qs : List (ι × V)}, Paired (fun (p : ι × PyData) (q : ι × V) => p.1 = q.1 ∧ Dp K B q.2 p.2) ps qs → (∀ q ∈ qs, q.1 ≠ k) →
              Paired (fun (p : ι × PyData) (q : ι × V) => p.1 = q.1 ∧ Dp K B q.2 p.2) (ps.map fun kv => if kv.1 = k then (kv.1, d) else kv) (qs.map fun kv => if kv.1 = k then (kv.1, v) else kv) := by
            intro ps qs hp
            induction hp with
            | nil => intro _; exact .nil
            | @cons p q ps qs h1 h2 ih =>
              intro hn
              have hq := hn q (List.mem_cons_self ..)
              rw [List.map_cons, List.map_cons, h1.1, if_neg hq, if_neg hq]
              exact .cons h1 (ih fun z hz => hn z (List.mem_cons_of_mem _ hz))
          exact this h2 none
  · exact dpkt_app h (.cons ⟨rfl, r⟩ .nil)
theorem dpkt_isSome {kvs : List (ι × PyData)} {ws : List (ι × V)} {k : ι} (h : DpKs K B kvs ws) : (valV ws k).isSome = (valT kvs k).isSome := by
  have h1 := dpkt_any (k := k) h
  rw [valV_any] at h1
  rw [← h1]
  unfold valT
  rw [Option.isSome_map, Bool.eq_iff_iff, List.any_eq_true, List.find?_isSome]
end
/-! ### keys -/
theorem dpa_key_eq : ∀ {k : List L2.Key} {vs : List V}, DpAll K B vs (k.map keyD) → vs = k.map kV
  | [], _, h => by cases h; rfl
  | .inl i :: k, _, h => by
    cases h with
    | cons h1 h2 => cases h1; rw [dpa_key_eq h2]; rfl
  | .inr s :: k, _, h => by
    cases h with
    | cons h1 h2 => cases h1; rw [dpa_key_eq h2]; rfl
/-- a key tuple: a cell; data or a cell -/
def KyC (κ : AK) (b : AV) (key : List L2.Key) : Prop := ∃ j, b = .c j ∧ κ[j]? = some (.tup ((key.map keyD).map .d))
def Ky (κ : AK) (b : AV) (key : List L2.Key) : Prop := b = .d (.tuple (key.map keyD)) ∨ KyC κ b key
theorem kyC_at (g : G K B ρ κ H) {key : List L2.Key} (h : KyC κ b key) (r : Rep K B ρ b y) : ∃ q, y = .ref q ∧ H q = some (.tup (key.map kV)) := by
  obtain ⟨j, rfl, ek⟩ := h
  obtain ⟨q, hq, rfl⟩ := r
  obtain ⟨q', hq', vs, r', eH⟩ := g.cell ek
  rw [hq] at hq'; cases hq'
  have := dpa_key_eq (Reps.of_all r')
  subst this
  exact ⟨q, rfl, eH⟩
theorem ky_at (g : G K B ρ κ H) {key : List L2.Key} (h : Ky κ b key) (r : Rep K B ρ b y) : ∃ q, y = .ref q ∧ SqT K H q (key.map kV) := by
  rcases h with rfl | h
  · obtain ⟨q, xs, rfl, s1, d1⟩ := of_tupG g r
    have := dpa_key_eq d1
    subst this
    exact ⟨q, rfl, s1⟩
  · obtain ⟨q, e, eH⟩ := kyC_at g h r
    exact ⟨q, e, .inl (.inl eH)⟩
theorem G.dtAt (g : G K B ρ κ H) {xs : List (List L2.Key × PyData)} (hp : ρ[k]? = some p) (ek : κ[k]? = some (.dT xs)) : ∃ vs, DpKs K B xs vs ∧ H p = some (.dT vs) ∧
    ∀ xs' vs', DpKs K B xs' vs' → Up B ρ H B ρ (upd H p (.dT vs')) ∧ G K B ρ (κ.set k (.dT xs')) (upd H p (.dT vs')) := by
  obtain ⟨p', hp', hb, vs, r, eH⟩ := g.cell ek
  rw [hp] at hp'; cases hp'
  refine ⟨vs, r, eH, fun xs' vs' r' => ⟨G.writeUp hp, ?_⟩⟩
  have hc : CellOk K B ρ (upd H p (.dT vs')) p (.dT xs') := ⟨hb, vs', r', upd_same⟩
  exact g.write hp hb hc
/-! ### d[k] of a key tuple that stands anywhere -/
section
variable {pins : List (Addr × Obj)} {s : Shared} {A : Around} {E : Value → Shared → Prop} {q w : Value}
theorem key_ofS {pins : List (Addr × Obj)} {s : Shared} {ks : List L2.Key} {q : Addr} (I : Inv X pins σ H s) (h : SqT X.K H q (ks.map kV)) : (tupleKind (mixKind X.prog X.w)).is s.heap ks q := by
  obtain ⟨its, r, ⟨o, h1, h2, n, h3⟩, _⟩ := I.tuple h
  exact ⟨o, its.toArray, n, h1, h2, h3, by simpa using items_are r⟩
def tTGet (K : PySem.W.Frag) (td ty : TE) : TE := fun σ H Q => td σ H fun x H1 => ty σ H1 fun y H2 => ∃ a q v kvs key, x = .ref a ∧ y = .ref q ∧ Rd H2 a (.dT kvs) ∧ SqT K H2 q (key.map kV) ∧ valV kvs key = some v ∧ Q v H2
theorem pe_tget {o i : Expr} {td ty : TE} (hu : X.A.units + 1 < cLine) (ho : PE X o td) (hi : PE X i ty) (hs : NoSl i) : PE X (.Subscript o i pos) (tTGet X.K td ty) := by
  refine ⟨fun pins s σ H Q I h => ?_⟩
  refine subD_of PySem.F.slot_dict_getitem.lookup hs (thn (ho.run pins s σ H _ I h) fun u s1 ⟨x, H1, I1, rx, q1⟩ => thn (hi.run pins s1 σ H1 _ I1 q1) fun iv s2 ⟨y, H2, I2, ry, a, b, v, kvs, key, ex, ey, e, hk, l, q2⟩ => ?_)
  subst ex
  subst ey
  obtain rfl : u = Value.ref a := rx
  obtain rfl : iv = Value.ref b := ry
  obtain ⟨z, hd, xs, rel, dd⟩ := dt_rd I2.hok e
  refine ⟨dd.typeIs, ?_⟩
  obtain ⟨w', hw, rw'⟩ := RelO.some_of (v := v) (o := (atKey xs key).map (·.2)) (by rw [← l]; exact rel.val key)
  obtain ⟨p, hp, hp2⟩ := Option.map_eq_some_iff.mp hw
  refine wpAny_getItem_heap (tupleKind_room_in1 hu) (key_ofS I2 hk) dd hp ?_
  rw [hp2]
  exact ⟨v, H2, I2.tok _, rw', q2⟩
end
def aTGet (f f2 : AE) : AE := fun δ κ R => f δ κ fun a κ1 => f2 δ κ1 fun b κ2 => match a with
  | .c k => ∃ kvs key d, κ2[k]? = some (.dT kvs) ∧ Ky κ2 b key ∧ valT kvs key = some d ∧ R (.d d) κ2
  | _ => False
theorem ea_tget {l : Nat} (hr : Room l X.A) (h1 : PEa K X e t f) (h2 : PEa K X e2 u f2) (hs : NoSl e2 := by exact fun _ _ => rfl) (hK : X.K = K := by rfl) : PEa K X (.Subscript e e2 pos) (tTGet K t u) (aTGet f f2) := by
  obtain ⟨K, Kn, KZ, Ku⟩ := K
  change X.K = K at hK
  subst hK
  exact ⟨pe_tget (Nat.lt_of_le_of_lt (by omega) hr.units) h1.pe h2.pe hs, fun B ρ δ κ σ H R Q s g hh q => h1.sd B ρ δ κ σ H _ _ s g hh fun B1 ρ1 κ1 H1 a x u1 g1 r1 k1 => h2.sd _ _ _ _ _ _ _ _ (s.up u1.g) g1 k1 fun B2 ρ2 κ2 H2 b y u2 g2 r2 k2 => by
    split at k2
    · obtain ⟨kvs, key, d, ek, hk, hv, k2⟩ := k2
      obtain ⟨p, hp, rfl⟩ := r1.up u2.g
      obtain ⟨vs, r, eH, _⟩ := g2.dtAt hp ek
      obtain ⟨v, hv', rv⟩ := dpkt_val r hv
      obtain ⟨qa, rfl, sq⟩ := ky_at g2 hk r2
      exact ⟨p, qa, v, vs, key, rfl, rfl, .inl eH, sq, hv', q _ _ _ _ (.d d) _ (u1.trans u2) g2 rv k2⟩
    · exact k2.elim⟩
/-- d[k] = v -/
def aTPut (fo fi fv : AE) : AS := fun A δ κ => fv δ κ fun v κ1 => fo δ κ1 fun a κ2 => fi δ κ2 fun b κ3 => match a with
  | .c k => ∃ kvs key d, κ3[k]? = some (.dT kvs) ∧ KyC κ3 b key ∧ v = .d d ∧ kvs.length < sizeLine ∧ A.nx δ (κ3.set k (.dT (putT kvs key d)))
  | _ => False
variable {o i val : Expr} {to' ti tv : TE} {fo fi fv : AE} {pos' : Pos}
theorem sa_tput {l : Nat} (hr : Room l X.A) (ho : PEa K X o to' fo) (hi : PEa K X i ti fi) (hv : PEa K X val tv fv) (hs : swapsWith val (some (.Subscript o i pos')) pos.line X.env = pure false := by rfl) :
    PSa K X (.Assign [.Subscript o i pos'] val pos) (sDPut to' ti tv) (aTPut fo fi fv) :=
  ⟨ps_dput (Nat.lt_of_le_of_lt (by omega) hr.units) ho.pe hi.pe hv.pe hs, fun B ρ δ κ σ H A D s g l hh im => hv.sd B ρ δ κ σ H _ _ s g hh fun B1 ρ1 κ1 H1 vv xv u1 g1 r1 k1 => ho.sd _ _ _ _ _ _ _ _ (s.up u1.g) g1 k1 fun B2 ρ2 κ2 H2 a xo u2 g2 r2 k2 => hi.sd _ _ _ _ _ _ _ _ (s.up (u1.trans u2).g) g2 k2 fun B3 ρ3 κ3 H3 b y u3 g3 r3 k3 => by
    split at k3
    · obtain ⟨kvs, key, d, ek, hk, rfl, hl, k3⟩ := k3
      obtain ⟨p, hp, rfl⟩ := r2.up u3.g
      obtain ⟨vs, r, eH, wr⟩ := g3.dtAt hp ek
      obtain ⟨qa, rfl, eb⟩ := kyC_at g3 hk r3
      have rd : Dp K B3 xv d := dp_up (u2.trans u3).s _ _ r1
      obtain ⟨u4, g4⟩ := wr _ _ (dpkt_put (k := key) r rd)
      have w := ((u1.trans u2).trans u3).trans u4
      refine ⟨p, _, rfl, DPut.t eH eb (by rw [← Paired.length r]; exact hl), im.nx _ _ _ _ _ _ w.n g4 (s.up w.g) (Nat.le_trans l (w.len g g4)) k3⟩
    · exact k3.elim⟩
/-- k in d, k not in d: the key a cell -/
def aTIn (n : Bool → Bool) (fi fo : AE) : AE := fun δ κ R => fi δ κ fun b κ1 => fo δ κ1 fun a κ2 => match a with
  | .c k => ∃ kvs key, κ2[k]? = some (.dT kvs) ∧ KyC κ2 b key ∧ R (.d (.bool (n (valT kvs key).isSome))) κ2
  | _ => False
theorem se_tin {n : Bool → Bool} (hi : SE K ti fi) (ho : SE K to' fo) : SE K (fun σ H Q => ti σ H fun y H1 => to' σ H1 fun x H2 => ∃ a o, x = .ref a ∧ DGet H2 a y o ∧ Q (.bl (n o.isSome)) H2) (aTIn n fi fo) := fun B ρ δ κ σ H R Q s g hh q =>
  hi _ _ _ _ _ _ _ _ s g hh fun B1 ρ1 κ1 H1 b y u1 g1 r1 h1 => ho _ _ _ _ _ _ _ _ (s.up u1.g) g1 h1 fun B2 ρ2 κ2 H2 a x u2 g2 r2 h2 => by
    split at h2
    · obtain ⟨kvs, key, ek, hk, h2⟩ := h2
      obtain ⟨p, hp, rfl⟩ := r2
      obtain ⟨vs, r, eH, _⟩ := g2.dtAt hp ek
      obtain ⟨qa, rfl, eb⟩ := kyC_at g2 hk (r1.up u2.g)
      refine ⟨p, valV vs key, rfl, DGet.t eH eb, ?_⟩
      rw [dpkt_isSome r]
      exact q _ _ _ _ _ _ (u1.trans u2) g2 (rp_bl _) h2
    · exact h2.elim
theorem ea_tin {l : Nat} (hr : Room l X.A) (hi : PEa K X i ti fi) (ho : PEa K X o to' fo) (hm : behindInMarks .In o = false := by first | exact nomark _ | rfl) : PEa K X (.Compare i [.In] [o] pos) (tDIn ti to') (aTIn id fi fo) := ⟨pe_cmp (pc_din (Nat.lt_of_le_of_lt (by omega) hr.units) hi.pe ho.pe) hm, se_tin (n := id) hi.sd ho.sd⟩
theorem ea_tnotin {l : Nat} (hr : Room l X.A) (hi : PEa K X i ti fi) (ho : PEa K X o to' fo) (hm : behindInMarks .NotIn o = false := by first | exact nomark _ | rfl) : PEa K X (.Compare i [.NotIn] [o] pos) (tDNotIn ti to') (aTIn not fi fo) := ⟨pe_cmp (pc_dnotin (Nat.lt_of_le_of_lt (by omega) hr.units) hi.pe ho.pe) hm, se_tin (n := not) hi.sd ho.sd⟩
theorem ta_tin {l : Nat} (hr : Room l X.A) (hi : PEa K X i ti fi) (ho : PEa K X o to' fo) (hm : behindInMarks .In o = false := by first | exact nomark _ | rfl) : PTa K X (.Compare i [.In] [o] pos) (tTest (tDIn ti to')) (aB (aTIn id fi fo)) := ⟨pt_cmp (pc_din (Nat.lt_of_le_of_lt (by omega) hr.units) hi.pe ho.pe) hm, st_B (se_tin (n := id) hi.sd ho.sd)⟩
theorem ta_tnotin {l : Nat} (hr : Room l X.A) (hi : PEa K X i ti fi) (ho : PEa K X o to' fo) (hm : behindInMarks .NotIn o = false := by first | exact nomark _ | rfl) : PTa K X (.Compare i [.NotIn] [o] pos) (tTest (tDNotIn ti to')) (aB (aTIn not fi fo)) := ⟨pt_cmp (pc_dnotin (Nat.lt_of_le_of_lt (by omega) hr.units) hi.pe ho.pe) hm, st_B (se_tin (n := not) hi.sd ho.sd)⟩
/-- {}: one whose keys will be tuples -/
def aTNew : AE := fun _ κ R => R (.c κ.length) (κ ++ [.dT []])
theorem ea_tnew : PEa K X (.Dict [] [] pos) tDNewT aTNew := ⟨pe_dnewT, fun B ρ δ κ σ H R Q s g h q => by
  intro p hp
  refine q _ _ _ _ _ _ (g.allocUp hp) (g.alloc hp (show CellOk K B ρ _ p (.dT []) from ⟨g.fresh hp, [], .nil, upd_same⟩)) (rep_new g) h⟩
/-- a tuple that is a cell in any case -/
def aTupC (g : AA) : AE := fun δ κ R => g δ κ fun as κ1 => as.length ≤ sizeLine ∧ R (.c κ1.length) (κ1 ++ [.tup as])
theorem ea_tupC {es : List Expr} {ta : TA} {fa : AA} {x1} (h : PAa K X es ta fa) : PEa K X (.Tuple es x1 pos) (tTup ta) (aTupC fa) := by
  refine ⟨pe_tup h.pa, fun B ρ δ κ σ H R Q s g hh q => h.sd B ρ δ κ σ H _ _ s g hh fun B1 ρ1 κ1 H1 as xs u1 g1 r1 h1 => ?_⟩
  refine ⟨by rw [← r1.len]; exact h1.1, fun p hp => ?_⟩
  obtain ⟨u2, g2, r2⟩ := new_tcell g1 hp r1
  exact q _ _ _ _ _ _ (u1.trans u2) g2 r2 h1.2
end Ab
set_option Elab.async false
set_option linter.all false
set_option maxRecDepth 100000
set_option maxHeartbeats 4000000
/-! Ab16: comprehensions that give cells; lists of cells walked -/
namespace Ab
open PySem L2
variable {K : Frg} {B B' B2 H H' H2 : Hp} {ρ ρ' ρ2 : List Addr} {κ κ' : AK} {δ : AD} {σ : L2.St} {p : Addr} {k : Nat} {v x y z : V} {a b c : AV}
variable {X : Cx} {e e2 : Expr} {t u : TE} {f f2 : AE} {pos : Pos}
/-- [elt for target in iter if ..]: a list that is a cell, of any things -/
def LcCd (J : AIt) (ag : AG) (p : AT) (f : AE) (vs : List Nat) (δ : AD) (κ1 : AK) (R : AR) : Prop := ∃ W : Nat → Nat → List AV → AK → Prop, (∃ m, W 0 m [] κ1) ∧ ∀ i m acc κ', W i m acc κ' →
  (J.stop i κ' ∧ R (.c κ'.length) (κ' ++ [.lst acc])) ∨ (J.go i κ' ∧ ∃ N : List AV → AK → Prop, (∀ acc2 κ2, N acc2 κ2 → ∃ m', m' < m ∧ W (i + 1) m' acc2 κ2) ∧ ∀ a, J.yld i κ' a → ag a (wipeA δ vs) κ' fun δ2 κ2 => p δ2 κ2 fun b κ3 =>
    bsel b (f δ2 κ3 fun y κ4 => acc.length < sizeLine ∧ N (acc ++ [y]) κ4) (N acc κ3))
@[irreducible] def LcC (J : AIt) (ag : AG) (p : AT) (f : AE) (vs : List Nat) (δ : AD) (κ1 : AK) (R : AR) : Prop := LcCd J ag p f vs δ κ1 R
theorem lcC {J : AIt} {ag : AG} {p : AT} {f : AE} {vs : List Nat} {δ : AD} {κ1 : AK} {R : AR} : LcC J ag p f vs δ κ1 R ↔ LcCd J ag p f vs δ κ1 R := by
  unfold LcC; exact Iff.rfl
def aLcC (ai : AI) (ag : AG) (p : AT) (f : AE) (vs : List Nat) : AE := fun δ κ R => ai δ κ fun J κ1 => LcC J ag p f vs δ κ1 R
theorem se_lcC {wi : TI} {ai : AI} {tg : TG} {ag : AG} {tt : TT} {pt : AT} {vs : List Nat} (hi : SI K wi ai) (hg : SGw K tg ag vs) (ht : ST K tt pt) (he : SE K t f) : SE K (tLc wi tg tt t vs) (aLcC ai ag pt f vs) := fun B ρ δ κ σ H R Q s g hh q =>
  hi B ρ δ κ σ H _ _ s g hh fun B1 ρ1 κ1 H1 J Ja w1 g1 ri hlc => by
    obtain ⟨W, ⟨m0, w0⟩, turn⟩ := lcC.mp hlc
    intro D hD
    have q1 := q.later w1
    refine ⟨fun i m H' => ∃ B' ρ' κ' accV acc, Up B1 ρ1 H1 B' ρ' H' ∧ G K B' ρ' κ' H' ∧ H' D = some (.lst accV) ∧ B' D = none ∧ D ∉ ρ' ∧ Reps K B' ρ' acc accV ∧ W i m acc κ', ⟨m0, B1, ρ1, κ1, [], [], Up.refl.off hD, g1.off (g1.fresh hD) (fun z => ?_) (K.up _ _ _ _ _ _ (Up.refl.off hD).n g1.z), upd_same, g1.fresh hD, fun z => ?_, .nil, w0⟩, ?_⟩
    · obtain ⟨i, hi⟩ := List.mem_iff_getElem?.mp z
      exact g1.nin hD hi rfl
    · obtain ⟨i, hi⟩ := List.mem_iff_getElem?.mp z
      exact g1.nin hD hi rfl
    rintro i m H2 ⟨B2, ρ2, κ2, accV, acc, w2, g2, eD, bD, rD, da, hw⟩
    have r := ri B2 ρ2 κ2 H2 w2 g2 i
    rcases turn i m acc κ2 hw with ⟨h1, h2⟩ | ⟨h1, N, hN, h2⟩
    · refine .inl ⟨r.1 h1, ?_⟩
      have g3 : G K B2 (ρ2 ++ [D]) (κ2 ++ [.lst acc]) H2 := by
        have hc : CellOk K B2 ρ2 H2 D (.lst acc) := ⟨bD, _, da, eD⟩
        refine ⟨g2.ex, by rw [List.length_append, List.length_append, g2.len] <;> rfl, fun i j r h1 h2 => ?_, fun i r c h1 h2 => ?_, K.up _ _ _ _ _ _ (w2.newR hD).n g1.z⟩
        · rcases get_snoc h1 with ⟨l1, e1⟩ | ⟨l1, e1⟩
          · rcases get_snoc h2 with ⟨l2, e2⟩ | ⟨l2, e2⟩
            · exact g2.inj i j r e1 e2
            · subst e2; exact absurd (mem_of_get e1) rD
          · rcases get_snoc h2 with ⟨l2, e2⟩ | ⟨l2, e2⟩
            · subst e1; exact absurd (mem_of_get e2) rD
            · rw [l1, l2]
        · rcases get_snoc h1 with ⟨l1, e1⟩ | ⟨l1, e1⟩
          · rw [List.getElem?_append_left (g2.len ▸ l1)] at h2
            exact (g2.at' i r c e1 h2).up up_snoc Or.inl fun o' e => e
          · subst e1
            rcases get_snoc h2 with ⟨l2, e2⟩ | ⟨l2, e2⟩
            · rw [l1, g2.len] at l2; exact absurd l2 (Nat.lt_irrefl _)
            · subst e2; exact hc.up up_snoc Or.inl fun _ e => e
      refine q1 B2 (ρ2 ++ [D]) _ H2 _ _ ⟨w2.s, fun i a h => get_app (w2.p i a h), fun p o z1 z2 z3 => ?_⟩ g3 (rep_new g2) h2
      obtain ⟨y1, y2, y3⟩ := w2.f p o z1 z2 z3
      refine ⟨y1, y2, fun z => ?_⟩
      rcases List.mem_append.mp z with z | z
      · exact y3 z
      · exact ne_of_none z1 hD (by simpa using z)
    · obtain ⟨hgo, hy⟩ := r.2 h1
      -- a turn's end
      refine .inr ⟨hgo, fun H' => ∃ B' ρ' κ' accV acc, Up B1 ρ1 H1 B' ρ' H' ∧ G K B' ρ' κ' H' ∧ H' D = some (.lst accV) ∧ B' D = none ∧ D ∉ ρ' ∧ Reps K B' ρ' acc accV ∧ N acc κ', ?_, fun x H3 hx => ?_⟩
      · rintro H' ⟨B', ρ', κ', accV', acc', z1, z2, z3, z4, z5, z6, hn⟩
        obtain ⟨m', hm, hw'⟩ := hN _ _ hn
        exact ⟨m', hm, B', ρ', κ', accV', acc', z1, z2, z3, z4, z5, z6, hw'⟩
      · obtain ⟨B3, a, w3, g3, ra, ya⟩ := hy x H3 hx
        have sw : S K B3 ρ2 (wipeA δ vs) (L2.wipe σ vs) := (s.up ((w1.trans w2).trans w3).g).wipe vs
        refine hg _ _ _ _ _ _ _ _ _ _ sw g3 ra (h2 a ya) fun B4 ρ4 δ4 κ4 σ4 H4 w4 s4 g4 h4 e4 => ⟨by rw [e4, wipe_wipe], ?_⟩
        refine ht _ _ _ _ _ _ _ _ s4 g4 h4 fun B5 ρ5 κ5 H5 b w5 g5 h5 => ?_
        have w25 := (w3.trans w4).trans w5
        obtain ⟨e5, b5, r5⟩ := w25.f D _ eD (.inl bD) rD
        have b5 : B5 D = none := b5.elim id fun ⟨ws, z⟩ => by cases z
        cases b with
        | false =>
          refine iteF ⟨B5, ρ5, κ5, accV, acc, w2.trans w25, g5, e5, b5, r5, Reps.up w25.g da, h5⟩
        | true =>
          refine iteT (he _ _ _ _ _ _ _ _ (s4.up w5.g) g5 h5 fun B6 ρ6 κ6 H6 a6 v6 w6 g6 r6 h6 => ?_)
          obtain ⟨hl, hn⟩ := h6
          obtain ⟨e6, b6, r6'⟩ := w6.f D _ e5 (.inl b5) r5
          have b6 : B6 D = none := b6.elim id fun ⟨ws, z⟩ => by cases z
          have w26 := w25.trans w6
          have da6 := Reps.up w26.g da
          refine ⟨accV, e6, by rw [← da6.len]; exact hl, B6, ρ6, κ6, accV ++ [v6], acc ++ [a6], (w2.trans w26).off hD, g6.off b6 r6' (K.up _ _ _ _ _ _ ((w2.trans w26).off hD).n g1.z), upd_same, b6, r6', Paired.snoc da6 r6, hn⟩
section
variable {elt tge iter : Expr} {ifs : List Expr} {scope : Scope} {own : List (Str × Nat)} {wi : TI} {ai : AI} {tg : TG} {ag : AG} {tt : TT} {pt : AT} {te : TE} {fe : AE}
theorem ea_lcC (hc : X.calm = true) (hN : X.N.Nodup) (hi : PIa K X tge iter wi ai) (ok : BlkOk X.N X.env.scope scope own)
    (hg : ∀ (s : Shared) (H : Hp) (C : Addr) (cl : List (Str × Addr)) (fp : List Addr), PG (X.blk s H scope (compEnvC scope cl C X.env) fp) tge tg) (hgw : SGw K tg ag (own.map (·.2)))
    (ht : ∀ (s : Shared) (H : Hp) (C : Addr) (cl : List (Str × Addr)) (fp : List Addr), PTsa K (X.blk s H scope (compEnvC scope cl C X.env) fp) ifs tt pt)
    (he : ∀ (s : Shared) (H : Hp) (C : Addr) (cl : List (Str × Addr)) (fp : List Addr), PEa K (X.blk s H scope (compEnvC scope cl C X.env) fp) elt te fe) (hs : ∀ x, foldedSetIterable iter X.env x = pure x := by intro _; rfl) :
    PEa K X (.ListComp elt [⟨tge, iter, ifs, 0⟩] scope pos) (tLc wi tg tt te (own.map (·.2))) (aLcC ai ag pt fe (own.map (·.2))) :=
  ⟨pe_lc hc hN hi.pi ok hg (fun s H C cl fp => (ht s H C cl fp).pt) (fun s H C cl fp => (he s H C cl fp).pe) hs, se_lcC hi.sd hgw (ht ({} : Shared) (fun _ => none) 0 [] []).sd (he ({} : Shared) (fun _ => none) 0 [] []).sd⟩
theorem sa_setLcC {i : Nat} {y : Str} {py spos : Pos} (hc : X.calm = true) (hN : X.N.Nodup) (hy : X.N[i]? = some y) (hyl : X.env.scope.names.lookup y = some .local)
    (hsw : swapsWith (.ListComp elt [⟨tge, iter, ifs, 0⟩] scope pos) (some (.Name y py)) spos.line X.env = pure true) (hi : PIa K X tge iter wi ai) (ok : BlkOk X.N X.env.scope scope own)
    (hg : ∀ (s : Shared) (H : Hp) (C : Addr) (cl : List (Str × Addr)) (fp : List Addr), PG (X.blk s H scope (compEnvC scope cl C X.env) fp) tge tg) (hgw : SGw K tg ag (own.map (·.2)))
    (ht : ∀ (s : Shared) (H : Hp) (C : Addr) (cl : List (Str × Addr)) (fp : List Addr), PTsa K (X.blk s H scope (compEnvC scope cl C X.env) fp) ifs tt pt)
    (he : ∀ (s : Shared) (H : Hp) (C : Addr) (cl : List (Str × Addr)) (fp : List Addr), PEa K (X.blk s H scope (compEnvC scope cl C X.env) fp) elt te fe) (hs : ∀ x, foldedSetIterable iter X.env x = pure x := by intro _; rfl) :
    PSa K X (.Assign [.Name y py] (.ListComp elt [⟨tge, iter, ifs, 0⟩] scope pos) spos) (tAsg (tLc wi tg tt te (own.map (·.2))) (gName i)) (aSet i (aLcC ai ag pt fe (own.map (·.2)))) :=
  ⟨ps_setLc hc hN hy hyl hsw hi.pi ok hg (fun s H C cl fp => (ht s H C cl fp).pt) (fun s H C cl fp => (he s H C cl fp).pe) hs, ss_asg (se_lcC hi.sd hgw (ht ({} : Shared) (fun _ => none) 0 [] []).sd (he ({} : Shared) (fun _ => none) 0 [] []).sd) sg_name⟩
end
/-- the same, its items data: a cell -/
def LcLd (J : AIt) (ag : AG) (p : AT) (f : AE) (vs : List Nat) (δ : AD) (κ1 : AK) (R : AR) : Prop := ∃ W : Nat → Nat → List PyData → AK → Prop, (∃ m, W 0 m [] κ1) ∧ ∀ i m acc κ', W i m acc κ' →
  (J.stop i κ' ∧ R (.c κ'.length) (κ' ++ [.ld acc])) ∨ (J.go i κ' ∧ ∃ N : List PyData → AK → Prop, (∀ acc2 κ2, N acc2 κ2 → ∃ m', m' < m ∧ W (i + 1) m' acc2 κ2) ∧ ∀ a, J.yld i κ' a → ag a (wipeA δ vs) κ' fun δ2 κ2 => p δ2 κ2 fun b κ3 =>
    bsel b (f δ2 κ3 fun y κ4 => ∃ d, y = .d d ∧ acc.length < sizeLine ∧ N (acc ++ [d]) κ4) (N acc κ3))
@[irreducible] def LcL (J : AIt) (ag : AG) (p : AT) (f : AE) (vs : List Nat) (δ : AD) (κ1 : AK) (R : AR) : Prop := LcLd J ag p f vs δ κ1 R
theorem lcL {J : AIt} {ag : AG} {p : AT} {f : AE} {vs : List Nat} {δ : AD} {κ1 : AK} {R : AR} : LcL J ag p f vs δ κ1 R ↔ LcLd J ag p f vs δ κ1 R := by
  unfold LcL; exact Iff.rfl
def aLcL (ai : AI) (ag : AG) (p : AT) (f : AE) (vs : List Nat) : AE := fun δ κ R => ai δ κ fun J κ1 => LcL J ag p f vs δ κ1 R
theorem se_lcL {wi : TI} {ai : AI} {tg : TG} {ag : AG} {tt : TT} {pt : AT} {vs : List Nat} (hi : SI K wi ai) (hg : SGw K tg ag vs) (ht : ST K tt pt) (he : SE K t f) : SE K (tLc wi tg tt t vs) (aLcL ai ag pt f vs) := fun B ρ δ κ σ H R Q s g hh q =>
  hi B ρ δ κ σ H _ _ s g hh fun B1 ρ1 κ1 H1 J Ja w1 g1 ri hlc => by
    obtain ⟨W, ⟨m0, w0⟩, turn⟩ := lcL.mp hlc
    intro D hD
    have q1 := q.later w1
    refine ⟨fun i m H' => ∃ B' ρ' κ' accV acc, Up B1 ρ1 H1 B' ρ' H' ∧ G K B' ρ' κ' H' ∧ H' D = some (.lst accV) ∧ B' D = none ∧ D ∉ ρ' ∧ DpAll K B' accV acc ∧ W i m acc κ', ⟨m0, B1, ρ1, κ1, [], [], Up.refl.off hD, g1.off (g1.fresh hD) (fun z => ?_) (K.up _ _ _ _ _ _ (Up.refl.off hD).n g1.z), upd_same, g1.fresh hD, fun z => ?_, .nil, w0⟩, ?_⟩
    · obtain ⟨i, hi⟩ := List.mem_iff_getElem?.mp z
      exact g1.nin hD hi rfl
    · obtain ⟨i, hi⟩ := List.mem_iff_getElem?.mp z
      exact g1.nin hD hi rfl
    rintro i m H2 ⟨B2, ρ2, κ2, accV, acc, w2, g2, eD, bD, rD, da, hw⟩
    have r := ri B2 ρ2 κ2 H2 w2 g2 i
    rcases turn i m acc κ2 hw with ⟨h1, h2⟩ | ⟨h1, N, hN, h2⟩
    · refine .inl ⟨r.1 h1, ?_⟩
      have g3 : G K B2 (ρ2 ++ [D]) (κ2 ++ [.ld acc]) H2 := by
        have hc : CellOk K B2 ρ2 H2 D (.ld acc) := ⟨bD, _, da, eD⟩
        refine ⟨g2.ex, by rw [List.length_append, List.length_append, g2.len] <;> rfl, fun i j r h1 h2 => ?_, fun i r c h1 h2 => ?_, K.up _ _ _ _ _ _ (w2.newR hD).n g1.z⟩
        · rcases get_snoc h1 with ⟨l1, e1⟩ | ⟨l1, e1⟩
          · rcases get_snoc h2 with ⟨l2, e2⟩ | ⟨l2, e2⟩
            · exact g2.inj i j r e1 e2
            · subst e2; exact absurd (mem_of_get e1) rD
          · rcases get_snoc h2 with ⟨l2, e2⟩ | ⟨l2, e2⟩
            · subst e1; exact absurd (mem_of_get e2) rD
            · rw [l1, l2]
        · rcases get_snoc h1 with ⟨l1, e1⟩ | ⟨l1, e1⟩
          · rw [List.getElem?_append_left (g2.len ▸ l1)] at h2
            exact (g2.at' i r c e1 h2).up up_snoc Or.inl fun o' e => e
          · subst e1
            rcases get_snoc h2 with ⟨l2, e2⟩ | ⟨l2, e2⟩
            · rw [l1, g2.len] at l2; exact absurd l2 (Nat.lt_irrefl _)
            · subst e2; exact hc.up up_snoc Or.inl fun _ e => e
      refine q1 B2 (ρ2 ++ [D]) _ H2 _ _ ⟨w2.s, fun i a h => get_app (w2.p i a h), fun p o z1 z2 z3 => ?_⟩ g3 (rep_new g2) h2
      obtain ⟨y1, y2, y3⟩ := w2.f p o z1 z2 z3
      refine ⟨y1, y2, fun z => ?_⟩
      rcases List.mem_append.mp z with z | z
      · exact y3 z
      · exact ne_of_none z1 hD (by simpa using z)
    · obtain ⟨hgo, hy⟩ := r.2 h1
      -- a turn's end
      refine .inr ⟨hgo, fun H' => ∃ B' ρ' κ' accV acc, Up B1 ρ1 H1 B' ρ' H' ∧ G K B' ρ' κ' H' ∧ H' D = some (.lst accV) ∧ B' D = none ∧ D ∉ ρ' ∧ DpAll K B' accV acc ∧ N acc κ', ?_, fun x H3 hx => ?_⟩
      · rintro H' ⟨B', ρ', κ', accV', acc', z1, z2, z3, z4, z5, z6, hn⟩
        obtain ⟨m', hm, hw'⟩ := hN _ _ hn
        exact ⟨m', hm, B', ρ', κ', accV', acc', z1, z2, z3, z4, z5, z6, hw'⟩
      · obtain ⟨B3, a, w3, g3, ra, ya⟩ := hy x H3 hx
        have sw : S K B3 ρ2 (wipeA δ vs) (L2.wipe σ vs) := (s.up ((w1.trans w2).trans w3).g).wipe vs
        refine hg _ _ _ _ _ _ _ _ _ _ sw g3 ra (h2 a ya) fun B4 ρ4 δ4 κ4 σ4 H4 w4 s4 g4 h4 e4 => ⟨by rw [e4, wipe_wipe], ?_⟩
        refine ht _ _ _ _ _ _ _ _ s4 g4 h4 fun B5 ρ5 κ5 H5 b w5 g5 h5 => ?_
        have w25 := (w3.trans w4).trans w5
        obtain ⟨e5, b5, r5⟩ := w25.f D _ eD (.inl bD) rD
        have b5 : B5 D = none := b5.elim id fun ⟨ws, z⟩ => by cases z
        cases b with
        | false =>
          refine iteF ⟨B5, ρ5, κ5, accV, acc, w2.trans w25, g5, e5, b5, r5, dpa_up w25.s _ _ da, h5⟩
        | true =>
          refine iteT (he _ _ _ _ _ _ _ _ (s4.up w5.g) g5 h5 fun B6 ρ6 κ6 H6 a6 v6 w6 g6 r6 h6 => ?_)
          obtain ⟨d, rfl, hl, hn⟩ := h6
          obtain ⟨e6, b6, r6'⟩ := w6.f D _ e5 (.inl b5) r5
          have b6 : B6 D = none := b6.elim id fun ⟨ws, z⟩ => by cases z
          have w26 := w25.trans w6
          have da6 := dpa_up w26.s _ _ da
          refine ⟨accV, e6, by rw [dpa_len da6]; exact hl, B6, ρ6, κ6, accV ++ [v6], acc ++ [d], (w2.trans w26).off hD, g6.off b6 r6' (K.up _ _ _ _ _ _ ((w2.trans w26).off hD).n g1.z), upd_same, b6, r6', dpa_app da6 (.cons r6 .nil), hn⟩
section
variable {elt tge iter : Expr} {ifs : List Expr} {scope : Scope} {own : List (Str × Nat)} {wi : TI} {ai : AI} {tg : TG} {ag : AG} {tt : TT} {pt : AT} {te : TE} {fe : AE}
theorem ea_lcL (hc : X.calm = true) (hN : X.N.Nodup) (hi : PIa K X tge iter wi ai) (ok : BlkOk X.N X.env.scope scope own)
    (hg : ∀ (s : Shared) (H : Hp) (C : Addr) (cl : List (Str × Addr)) (fp : List Addr), PG (X.blk s H scope (compEnvC scope cl C X.env) fp) tge tg) (hgw : SGw K tg ag (own.map (·.2)))
    (ht : ∀ (s : Shared) (H : Hp) (C : Addr) (cl : List (Str × Addr)) (fp : List Addr), PTsa K (X.blk s H scope (compEnvC scope cl C X.env) fp) ifs tt pt)
    (he : ∀ (s : Shared) (H : Hp) (C : Addr) (cl : List (Str × Addr)) (fp : List Addr), PEa K (X.blk s H scope (compEnvC scope cl C X.env) fp) elt te fe) (hs : ∀ x, foldedSetIterable iter X.env x = pure x := by intro _; rfl) :
    PEa K X (.ListComp elt [⟨tge, iter, ifs, 0⟩] scope pos) (tLc wi tg tt te (own.map (·.2))) (aLcL ai ag pt fe (own.map (·.2))) :=
  ⟨pe_lc hc hN hi.pi ok hg (fun s H C cl fp => (ht s H C cl fp).pt) (fun s H C cl fp => (he s H C cl fp).pe) hs, se_lcL hi.sd hgw (ht ({} : Shared) (fun _ => none) 0 [] []).sd (he ({} : Shared) (fun _ => none) 0 [] []).sd⟩
theorem sa_setLcL {i : Nat} {y : Str} {py spos : Pos} (hc : X.calm = true) (hN : X.N.Nodup) (hy : X.N[i]? = some y) (hyl : X.env.scope.names.lookup y = some .local)
    (hsw : swapsWith (.ListComp elt [⟨tge, iter, ifs, 0⟩] scope pos) (some (.Name y py)) spos.line X.env = pure true) (hi : PIa K X tge iter wi ai) (ok : BlkOk X.N X.env.scope scope own)
    (hg : ∀ (s : Shared) (H : Hp) (C : Addr) (cl : List (Str × Addr)) (fp : List Addr), PG (X.blk s H scope (compEnvC scope cl C X.env) fp) tge tg) (hgw : SGw K tg ag (own.map (·.2)))
    (ht : ∀ (s : Shared) (H : Hp) (C : Addr) (cl : List (Str × Addr)) (fp : List Addr), PTsa K (X.blk s H scope (compEnvC scope cl C X.env) fp) ifs tt pt)
    (he : ∀ (s : Shared) (H : Hp) (C : Addr) (cl : List (Str × Addr)) (fp : List Addr), PEa K (X.blk s H scope (compEnvC scope cl C X.env) fp) elt te fe) (hs : ∀ x, foldedSetIterable iter X.env x = pure x := by intro _; rfl) :
    PSa K X (.Assign [.Name y py] (.ListComp elt [⟨tge, iter, ifs, 0⟩] scope pos) spos) (tAsg (tLc wi tg tt te (own.map (·.2))) (gName i)) (aSet i (aLcL ai ag pt fe (own.map (·.2)))) :=
  ⟨ps_setLc hc hN hy hyl hsw hi.pi ok hg (fun s H C cl fp => (ht s H C cl fp).pt) (fun s H C cl fp => (he s H C cl fp).pe) hs, ss_asg (se_lcL hi.sd hgw (ht ({} : Shared) (fun _ => none) 0 [] []).sd (he ({} : Shared) (fun _ => none) 0 [] []).sd) sg_name⟩
end
/-! ### a list of cells, walked -/
def itL (k : Nat) : AIt := ⟨fun i κ => ∃ xs, κ[k]? = some (.lst xs) ∧ i < xs.length, fun i κ a => ∃ xs, κ[k]? = some (.lst xs) ∧ xs[i]? = some a, fun i κ => ∃ xs, κ[k]? = some (.lst xs) ∧ xs.length ≤ i⟩
theorem reps_get' {as : List AV} {vs : List V} (r : Reps K B ρ as vs) : ∀ {i : Nat} {a : AV}, as[i]? = some a → ∃ v, vs[i]? = some v ∧ Rep K B ρ a v := by
  induction r with
  | nil => intro i a h; cases h
  | cons h _ ih =>
    intro i a e
    cases i with
    | zero => cases e; exact ⟨_, rfl, h⟩
    | succ i => exact ih (i := i) e
theorem ri_lcell {p : Addr} (hp : ρ[k]? = some p) : RI K B ρ H (Itl K p) (itL k) := by
  intro B2 ρ2 κ2 H2 w2 g2 i
  have hp2 := w2.p _ _ hp
  have at' : ∀ {xs}, κ2[k]? = some (.lst xs) → ∃ vs, Reps K B2 ρ2 xs vs ∧ H2 p = some (.lst vs) := fun ek => by
    obtain ⟨p', hp', _, vs, r, eH⟩ := g2.cell ek
    rw [hp2] at hp'; cases hp'
    exact ⟨vs, r, eH⟩
  refine ⟨fun h => ?_, fun h => ?_⟩
  · obtain ⟨xs, ek, hi⟩ := h
    obtain ⟨vs, r, eH⟩ := at' ek
    exact ⟨vs, .inl (.inl eH), by rw [← r.len]; exact hi⟩
  · obtain ⟨xs, ek, hi⟩ := h
    obtain ⟨vs, r, eH⟩ := at' ek
    obtain ⟨w, hw, rw'⟩ := reps_get' r (List.getElem?_eq_getElem hi)
    have hs2 : SqL K H2 p vs := .inl (.inl eH)
    refine ⟨⟨vs, w, hs2, hw⟩, fun x H3 hy => ?_⟩
    obtain ⟨rfl, f⟩ := hy
    have e := (f vs hs2).symm.trans hw
    cases e
    exact ⟨B2, _, Up.refl, g2, rw', xs, ek, List.getElem?_eq_getElem hi⟩
def aIterL (f : AE) : AI := fun δ κ R => f δ κ fun a κ1 => match a with
  | .c k => match κ1[k]? with
    | some (.lst _) => R (itL k) κ1
    | _ => False
  | _ => False
theorem ia_lst {tge : Expr} (h : PEa K X e t f) (hK : X.K = K := by rfl) : PIa K X tge e (iAny K t) (aIterL f) := by
  obtain ⟨K, Kn, KZ, Ku⟩ := K
  change X.K = K at hK
  subst hK
  exact ⟨pi_any h.pe, fun B ρ δ κ σ H R Q s g hh q => h.sd _ _ _ _ _ _ _ _ s g hh fun B1 ρ1 κ1 H1 a v w1 g1 r1 h1 => by
  split at h1
  · obtain ⟨p, hp, rfl⟩ := r1
    split at h1
    · rename_i xs ek
      obtain ⟨p', hp', _, vs, r, eH⟩ := g1.cell ek
      rw [hp] at hp'; cases hp'
      exact .inl ⟨p, rfl, ⟨vs, .inl (.inl eH)⟩, q _ _ _ _ _ _ w1 g1 (ri_lcell hp) h1⟩
    · exact h1.elim
  · exact h1.elim⟩
/-! ### loops over ranges and lists -/
section
variable {ag : AG} {pt : AT} {f : AE} {vs : List Nat} {δ : AD} {κ1 : AK} {R : AR}
theorem lcC_r {lo : Int} {N : Nat} (Pv : Nat → List AV → AK → Prop) (h0 : Pv 0 [] κ1) (hd : ∀ acc κ', Pv N acc κ' → R (.c κ'.length) (κ' ++ [.lst acc]))
    (hs : ∀ i acc κ', i < N → Pv i acc κ' → ag (.d (.int (lo + i))) (wipeA δ vs) κ' fun δ2 κ2 => pt δ2 κ2 fun b κ3 => bsel b (f δ2 κ3 fun y κ4 => acc.length < sizeLine ∧ Pv (i + 1) (acc ++ [y]) κ4) (Pv (i + 1) acc κ3)) : LcC (itR lo N) ag pt f vs δ κ1 R := by
  refine lcC.mpr ⟨fun i m acc κ' => m = N - i ∧ i ≤ N ∧ Pv i acc κ', ⟨_, rfl, Nat.zero_le _, h0⟩, ?_⟩
  rintro i m acc κ' ⟨rfl, hi, p⟩
  by_cases hlt : i < N
  · refine .inr ⟨hlt, Pv (i + 1), fun _ _ q => ⟨N - (i + 1), by omega, rfl, hlt, q⟩, ?_⟩
    rintro a rfl
    exact hs i acc κ' hlt p
  · have e : i = N := by omega
    subst e
    exact .inl ⟨Nat.le_refl _, hd _ _ p⟩
theorem lcL_r {lo : Int} {N : Nat} (Pv : Nat → List PyData → AK → Prop) (h0 : Pv 0 [] κ1) (hd : ∀ acc κ', Pv N acc κ' → R (.c κ'.length) (κ' ++ [.ld acc]))
    (hs : ∀ i acc κ', i < N → Pv i acc κ' → ag (.d (.int (lo + i))) (wipeA δ vs) κ' fun δ2 κ2 => pt δ2 κ2 fun b κ3 => bsel b (f δ2 κ3 fun y κ4 => ∃ d, y = .d d ∧ acc.length < sizeLine ∧ Pv (i + 1) (acc ++ [d]) κ4) (Pv (i + 1) acc κ3)) : LcL (itR lo N) ag pt f vs δ κ1 R := by
  refine lcL.mpr ⟨fun i m acc κ' => m = N - i ∧ i ≤ N ∧ Pv i acc κ', ⟨_, rfl, Nat.zero_le _, h0⟩, ?_⟩
  rintro i m acc κ' ⟨rfl, hi, p⟩
  by_cases hlt : i < N
  · refine .inr ⟨hlt, Pv (i + 1), fun _ _ q => ⟨N - (i + 1), by omega, rfl, hlt, q⟩, ?_⟩
    rintro a rfl
    exact hs i acc κ' hlt p
  · have e : i = N := by omega
    subst e
    exact .inl ⟨Nat.le_refl _, hd _ _ p⟩
/-- data made of a list of cells -/
theorem lc_l {k : Nat} {xs : List AV} (Pv : Nat → List PyData → AK → Prop) (h0 : Pv 0 [] κ1) (hk : ∀ i acc κ', Pv i acc κ' → κ'[k]? = some (.lst xs)) (hd : ∀ acc κ', Pv xs.length acc κ' → R (.d (.list acc)) κ')
    (hs : ∀ i x acc κ', xs[i]? = some x → Pv i acc κ' → ag x (wipeA δ vs) κ' fun δ2 κ2 => pt δ2 κ2 fun b κ3 => bsel b (f δ2 κ3 fun y κ4 => ∃ d, y = .d d ∧ acc.length < sizeLine ∧ Pv (i + 1) (acc ++ [d]) κ4) (Pv (i + 1) acc κ3)) : LcW (itL k) ag pt f vs δ κ1 R := by
  refine lcw.mpr ⟨fun i m acc κ' => m = xs.length - i ∧ i ≤ xs.length ∧ Pv i acc κ', ⟨_, rfl, Nat.zero_le _, h0⟩, ?_⟩
  rintro i m acc κ' ⟨rfl, hi, p⟩
  by_cases hlt : i < xs.length
  · refine .inr ⟨⟨xs, hk _ _ _ p, hlt⟩, Pv (i + 1), fun _ _ q => ⟨xs.length - (i + 1), by omega, rfl, hlt, q⟩, ?_⟩
    rintro a ⟨ys, hy, hx⟩
    rw [hk _ _ _ p] at hy; cases hy
    exact hs i a acc κ' hx p
  · have e : i = xs.length := by omega
    subst e
    exact .inl ⟨⟨xs, hk _ _ _ p, Nat.le_refl _⟩, hd _ _ p⟩
end
end Ab
set_option Elab.async false
set_option linter.all false
set_option maxRecDepth 100000
set_option maxHeartbeats 4000000
/-! Ab17: errors: raise, calls that may raise, try .. except -/
namespace Ab
open PySem L2
open PyProof.Rows (envOfC)
variable {K : Frg} {B B' B2 H H' H2 : Hp} {ρ ρ' ρ2 : List Addr} {κ κ' : AK} {δ : AD} {σ : L2.St} {p : Addr} {k : Nat} {v x y z : V} {a b c : AV}
variable {X : Cx} {e e2 o : Expr} {t u : TE} {f f2 : AE} {pos : Pos} {W : WX}

/-- what is wanted of the errors that leave -/
abbrev AEx := AX → AK → Prop
/-- .. over the heap -/
def HX (K : Frg) (E' : AEx) (W : WX) : Prop := ∀ B ρ κ H x cls d, G K B ρ κ H → E' x κ → RepX K B x cls d → ∀ σ : L2.St, W cls d σ H
def ExOf (W : WX) : XK := fun cls d H => ∀ σ : L2.St, W cls d σ H
theorem passR (tk : Takes X W) : Passes (L2.CX X.prog X.w) X (ExOf W) := fun pins σ H s e s' I c => tk e s' (XE.of_call I (fun cls d H' h => h σ) c)
theorem passF (tk : Takes X W) : Passes (L2.CX X.prog X.w) X (fun _ _ _ => False) := fun pins σ H s e s' I c => tk e s' (XE.of_call I (fun cls d H' h => h.elim) c)
variable {E' : AEx}

/-! ### calls that may raise -/
section
variable {l : Nat} {fa : Addr} {fd : FuncData} {ps : List Str} {F : FSp} {x : Str} {q pos : Pos} {es : List Expr} {ta : TA} {ga : AA}
theorem ea_callR (Fo : FnOk X.prog X.w X.K X.mg X.base (L2.CX X.prog X.w) l fa fd ps (spA X.K F)) (hr : Room l X.A) (tk : Takes X W) (hx : HX K E' W) (hg : Gl X x) (hm : X.mg x = some (.ref fa)) (hk : PySem.W.keepIn X.K (.ref fa) = true) (hb : Binds X.K fd ps []) (ha : PAa K X (e :: es) ta ga)
    (hdb : (x == ("__debug__" : Str)) = false := by decide) (he : starEach (e :: es) X.env = (false, eval e X.env) :: starEach es X.env := by rfl) (hpl : (backTo pos (starEach es X.env)).any (·.1) = false := by rfl) (hK : X.K = K.K := by rfl) :
    PEa K X (.Call (.Name x q) (e :: es) [] pos) (tCall (spA K F) [] (ExOf W) ta) (aCall F E' ga) := by
  obtain ⟨K, Kn, KZ, Ku⟩ := K
  change X.K = K at hK
  subst hK
  exact ⟨pe_call Fo hr hg hm hk hb .nil (passR tk) ha.pa hdb he hpl, se_call ha.sd fun B' ρ' κ' H' x cls d g h r => hx _ _ _ _ _ _ _ g h r⟩
end
theorem callW_sdR {F : FSp} {E : XK} {as : List AV} {vs : List V} {R : AR} {Q : VK} (g : G K B ρ κ H) (r : Reps K B ρ as vs) (h : callW F E' as κ R) (q : Nx K B ρ H R Q) (hx : ∀ B' ρ' κ' H' x cls d, G K B' ρ' κ' H' → E' x κ' → RepX K B' x cls d → E cls d H') : spA K F vs H Q E := by
  obtain ⟨js, asl, κl, nd, e1, e2, hF⟩ := callW_e h
  refine ⟨B, selR js ρ, κl, asl, _, _, sel_ok g nd e2, selAs_ok (fun i j p h1 h2 => selR_get h1 h2) e1 r, hF, ?_, ?_⟩
  · rintro B' ρ' κ' H' a v w2 g2 r2 ⟨l, cl, lv, hR⟩
    obtain ⟨w3, g3, r3⟩ := back_ok g nd e2 w2 g2 l cl lv
    exact q _ _ _ _ _ _ w3 g3 (r3 r2) hR
  · rintro B' ρ' κ' H' x cls d w2 g2 r2 ⟨l, cl, lv, hR⟩
    obtain ⟨w3, g3, r3⟩ := back_ok g nd e2 w2 g2 l cl lv
    exact hx _ _ _ _ _ _ _ g3 hR r2
def aMethR (C : Addr) (m : Str) (F : FSp) (E' : AEx) (fo : AE) (fa : AA) : AE := fun δ κ R => fo δ κ fun a κ1 => match a with
  | .c k => ∃ fs, κ1[k]? = some (.ins C fs) ∧ lookA m fs = none ∧ fa δ κ1 fun as κ2 => callW F E' (.c k :: as) κ2 R
  | _ => False
variable {ta : TA} {fa : AA} {es : List Expr}
theorem se_methR {C : Addr} {m : Str} {F : FSp} (ho : SE K t f) (ha : SA K ta fa) (hx : HX K E' W) : SE K (tMeth C m (spA K F) [] (ExOf W) t ta) (aMethR C m F E' f fa) := fun B ρ δ κ σ H R Q s g hh q =>
  ho B ρ δ κ σ H _ _ s g hh fun B1 ρ1 κ1 H1 a x u1 g1 r1 h1 => by
    split at h1
    · rename_i j
      obtain ⟨fs, ek, ln, h1⟩ := h1
      obtain ⟨p, hp, rfl⟩ := id r1
      obtain ⟨dx, ws, r, eH, _⟩ := g1.insAt hp ek
      refine ⟨p, dx, ws, rfl, eH, repKs_none r ln, ha _ _ _ _ _ _ _ _ (s.up u1.g) g1 h1 fun B2 ρ2 κ2 H2 as vs u2 g2 r2 h2 => ?_⟩
      show spA K F (.ref p :: (vs ++ [])) H2 Q _
      rw [List.append_nil]
      exact callW_sdR g2 (.cons (r1.up u2.g) r2) h2 (q.later (u1.trans u2)) fun B' ρ' κ' H' x cls d g h r => hx _ _ _ _ _ _ _ g h r
    · exact h1.elim
section
variable {l : Nat} {fm C : Addr} {fd : FuncData} {ps : List Str} {F : FSp} {m : Str} {apos : Pos} {pl : Sem Bool}
theorem ea_methR (Fo : FnOk X.prog X.w X.K X.mg X.base (L2.CX X.prog X.w) l fm fd ps (spA X.K F)) (hr : Room l X.A) (tk : Takes X W) (hx : HX K E' W) (hc : Cls K C) (hm : Meth K C m fm) (hb : Binds K fd ps []) (ho : PEa K X o t f) (ha : PAa K X (e :: es) ta fa)
    (hst : starEach (e :: es) X.env = (false, eval e X.env) :: starEach es X.env := by rfl) (hpl : (backTo pos (starEach es X.env)).any (·.1) = false := by rfl)
    (ht : eval (.Call (.Attribute o m apos) (e :: es) [] pos) X.env = (do
      let ov ← eval o X.env
      standAt apos.atName
      let (f, first) ← holding [ov] (getMethod ov m pl)
      callWith pos f first (backTo pos (starEach (e :: es) X.env)) (backToKw pos (keywordEach [] X.env))) := by rfl) (hK : X.K = K := by rfl) :
    PEa K X (.Call (.Attribute o m apos) (e :: es) [] pos) (tMeth C m (spA K F) [] (ExOf W) t ta) (aMethR C m F E' f fa) := by
  obtain ⟨K, Kn, KZ, Ku⟩ := K
  change X.K = K at hK
  subst hK
  exact ⟨pe_meth (pl := pl) ho.pe hc hm Fo hr hb .nil (passR tk) ha.pa hst hpl ht, se_methR ho.sd ha.sd hx⟩
theorem ea_methR0 (Fo : FnOk X.prog X.w X.K X.mg X.base (L2.CX X.prog X.w) l fm fd ps (spA X.K F)) (hr : Room l X.A) (tk : Takes X W) (hx : HX K E' W) (hc : Cls K C) (hm : Meth K C m fm) (hb : Binds K fd ps []) (ho : PEa K X o t f)
    (ht : eval (.Call (.Attribute o m apos) [] [] pos) X.env = (do
      let ov ← eval o X.env
      standAt apos.atName
      let (f, first) ← holding [ov] (getMethod ov m pl)
      callWith pos f first (backTo pos (starEach [] X.env)) (backToKw pos (keywordEach [] X.env))) := by rfl) (hK : X.K = K := by rfl) :
    PEa K X (.Call (.Attribute o m apos) [] [] pos) (tMeth C m (spA K F) [] (ExOf W) t tNil) (aMethR C m F E' f aNil) := by
  obtain ⟨K, Kn, KZ, Ku⟩ := K
  change X.K = K at hK
  subst hK
  exact ⟨pe_meth0 (pl := pl) ho.pe hc hm Fo hr hb .nil (passR tk) ht, se_methR ho.sd (fun B ρ δ κ σ H R Q s g h q => q _ _ _ _ _ _ Up.refl g .nil h) hx⟩
end
/-! a new object whose __init__ may raise -/
def aMakeR (C : Addr) (F : FSp) (E' : AEx) (fa : AA) : AE := fun δ κ R => fa δ κ fun as κ1 => callW F E' (.c κ1.length :: as) (κ1 ++ [.ins C []]) fun a κ2 => a = .d .none ∧ R (.c κ1.length) κ2
theorem se_makeR {C : Addr} {F : FSp} (ha : SA K ta fa) (hx : HX K E' W) : SE K (tMake C (spA K F) [] (ExOf W) ta) (aMakeR C F E' fa) := fun B ρ δ κ σ H R Q s g hh q =>
  ha B ρ δ κ σ H _ _ s g hh fun B1 ρ1 κ1 H1 as vs u1 g1 r1 h1 => by
    intro x dx hx' hdx hne
    show spA K F (.ref x :: (vs ++ [])) _ _ _
    rw [List.append_nil]
    have nin : ∀ {q : Addr}, H1 q = none → q ∉ ρ1 := fun {q} hq z => by
      obtain ⟨i, hi⟩ := List.mem_iff_getElem?.mp z
      exact g1.nin hq hi rfl
    have g2 : G K B1 ρ1 κ1 (upd H1 dx (.own x)) := g1.off (g1.fresh hdx) (nin hdx) (K.up _ _ _ _ _ _ (Up.refl.off hdx).n g1.z)
    have hx2 : (upd H1 dx (.own x)) x = none := by rw [upd_ne (Ne.symm hne)]; exact hx'
    have g3 : G K B1 (ρ1 ++ [x]) (κ1 ++ [.ins C []]) (upd (upd H1 dx (.own x)) x (.ins C dx [])) := g2.alloc hx2 (show CellOk K B1 ρ1 _ x (.ins C []) from ⟨g1.fresh hx', dx, [], .nil, upd_same⟩)
    have up3 : Up B1 ρ1 H1 B1 (ρ1 ++ [x]) (upd (upd H1 dx (.own x)) x (.ins C dx [])) := ⟨Same.refl B1, fun _ _ h => get_app h, fun q o' h1 h2 h3 => by
      have n1 := ne_of_none h1 hx'
      have n2 := ne_of_none h1 hdx
      rw [upd_ne n1, upd_ne n2]
      refine ⟨h1, h2, fun z => ?_⟩
      rcases List.mem_append.mp z with z | z
      · exact h3 z
      · exact n1 (by simpa using z)⟩
    have rx : Rep K B1 (ρ1 ++ [x]) (.c κ1.length) (.ref x) := rep_new g1
    refine callW_sdR g3 (.cons rx (Reps.up up3.g r1)) h1 ?_ fun B' ρ' κ' H' x cls d g h r => hx _ _ _ _ _ _ _ g h r
    rintro B4 ρ4 κ4 H4 a v w4 g4 r4 ⟨rfl, hR⟩
    exact ⟨r4.non, q _ _ _ _ _ _ ((u1.trans up3).trans w4) g4 (rx.up w4.g) hR⟩
section
variable {l : Nat} {fI C : Addr} {fd : FuncData} {ps : List Str} {F : FSp} {x : Str} {q : Pos}
theorem ea_makeR (M : Mk K C fI) (Fo : FnOk X.prog X.w X.K X.mg X.base (L2.CX X.prog X.w) l fI fd ps (spA X.K F)) (hr : Room (l + 1) X.A) (tk : Takes X W) (hx : HX K E' W) (hg : Gl X x) (hm : X.mg x = some (.ref C)) (hb : Binds K fd ps []) (ha : PAa K X (e :: es) ta fa)
    (hdb : (x == ("__debug__" : Str)) = false := by decide) (he : starEach (e :: es) X.env = (false, eval e X.env) :: starEach es X.env := by rfl) (hpl : (backTo pos (starEach es X.env)).any (·.1) = false := by rfl) (hK : X.K = K := by rfl) :
    PEa K X (.Call (.Name x q) (e :: es) [] pos) (tMake C (spA K F) [] (ExOf W) ta) (aMakeR C F E' fa) := by
  obtain ⟨K, Kn, KZ, Ku⟩ := K
  change X.K = K at hK
  subst hK
  exact ⟨pe_make M Fo hr hg hm hb .nil (passR tk) ha.pa hdb he hpl, se_makeR ha.sd hx⟩
end

/-! ### raise -/
/-- what the top says of an error's class -/
structure ExF (K : PySem.W.Frag) (nm : Str) (C : Addr) : Prop where
  ns : PySem.W.nsIn K mainGlobals nm = some (some (.ref C))
  ox : OexC K C
/-- __init__(self, y): self.f = y, of an error -/
def spInit (K : PySem.W.Frag) (C : Addr) (f : Str) : Sp := fun vs H Q E => ∃ (a : Addr) (y : V), vs = [.ref a, y] ∧ H a = some (exo a C none) ∧ ∀ dx, H dx = none → dx ≠ a → Q .non (upd (upd H dx (exd dx [(f, y)])) a (exo a C (some dx)))
theorem spInit_len {K : PySem.W.Frag} {C : Addr} {f s y : Str} : ∀ vs H Q E, spInit K C f vs H Q E → vs.length = [s, y].length := by
  rintro vs H Q E ⟨a, y, rfl, _⟩; rfl
section
variable {P : Program} {w : World} {K : PySem.W.Frag} {mg : Str → Option Value} {base : Heap}
theorem init_ok {C : Addr} {fld self arg qual : Str} {st : Stmt} {fa : Addr} {fd : FuncData} {N : List Str} (Fu : Fun K "__init__" qual st fa fd) (Sc : FnScope N [self, arg] (defScope st)) (T : OexC K C) (hno : PySem.W.findIn K (.ref C) fld = some none)
    (hb : ∀ cdv A outer s H E, PSs (cxOf CX0 P w K mg base N qual (defScope st) fa cdv A outer s H E).nox (defBody st) (tOst K fld (tVar 0) (tVar 1))) : FnOk P w K mg base CX0 1 fa fd [self, arg] (spInit K C fld) :=
  Fu.ok Sc spInit_len fun cdv A outer s H vs Q E hr ⟨a, y, ev, ea, q⟩ => by
    subst ev
    refine ⟨_, hb cdv A outer s H E, ?_⟩
    exact ⟨y, rfl, .ref a, rfl, a, C, rfl, T, hno, .inl ⟨ea, fun dx n ne => q dx n ne⟩⟩
end
/-- raise C(e) -/
def aRaise (nm f : Str) (E' : AEx) (fa : AA) : AS := fun A δ κ => fa δ κ fun as κ1 => match as with
  | [.d x] => E' ⟨nm, [(f, x)]⟩ κ1
  | _ => False
/-- raise C() -/
def aRaise0 (nm : Str) (E' : AEx) : AS := fun A δ κ => E' ⟨nm, []⟩ κ
theorem upd_mk {H1 : Hp} {a dx C : Addr} {f : Str} {y : V} (ha : H1 a = none) (hd : H1 dx = none) (ne : dx ≠ a) : upd (del (upd (upd (upd H1 a (exo a C none)) dx (exd dx [(f, y)])) a (exo a C (some dx))) a) dx (.xd [(f, y)]) = upd H1 dx (.xd [(f, y)]) := by
  funext b
  by_cases hb : b = dx
  · subst hb; rw [upd_same, upd_same]
  · rw [upd_ne hb, upd_ne hb]
    by_cases h2 : b = a
    · subst h2; rw [del_same, ha]
    · rw [del_ne h2, upd_ne h2, upd_ne hb, upd_ne h2]
section
variable {C fI : Addr} {l : Nat} {fd : FuncData} {ps : List Str} {x fld : Str} {q : Pos}
theorem sa_raise (T : ExF X.K x C) (iC : PySem.W.findIn X.K (.ref C) "__init__" = some (some (.ref fI))) (tI : PySem.W.typeIn X.K (.ref fI) = some (.type "function")) (F1 : FnOk X.prog X.w X.K X.mg X.base CX0 l fI fd ps (spInit X.K C fld)) (hr : Room (l + 1) X.A) (hb : Binds X.K fd ps [])
    (hc : X.calm = true) (tk : Takes X W) (hx : HX K E' W) (hg : Gl X x) (hm : X.mg x = some (.ref C)) (ha : PAa K X (e :: es) ta fa)
    (hdb : (x == ("__debug__" : Str)) = false := by decide) (he : starEach (e :: es) X.env = (false, eval e X.env) :: starEach es X.env := by rfl) (hpl : (backTo pos (starEach es X.env)).any (·.1) = false := by rfl) (hK : X.K = K.K := by rfl) {pos2 : Pos} :
    PSa K X (.Raise (some (.Call (.Name x q) (e :: es) [] pos)) none pos2) (fun D σ H => tMkO C (spInit X.K C fld) [] ta σ H fun cls d H' => W cls d σ H') (aRaise x fld E' fa) := by
  obtain ⟨K, Kn, KZ, Ku⟩ := K
  change X.K = K at hK
  subst hK
  refine ⟨ps_raise hc tk (pmk_oex T.ox iC tI F1 hr hb .nil (fun _ _ _ _ _ _ _ h => h.elim) hg hm ha.pa hdb he hpl), fun B ρ δ κ σ H A D s g l h im => ha.sd B ρ δ κ σ H _ _ s g h fun B1 ρ1 κ1 H1 as vs w1 g1 r1 h1 => ?_⟩
  split at h1
  · rename_i xd
    obtain ⟨y, rfl, ry⟩ := reps1 r1
    refine ⟨by simp, fun a0 ha0 => ⟨a0, y, rfl, upd_same, fun dx hdx hne => ⟨rfl, dx, [(fld, y)], upd_same, ?_, ?_, ?_⟩⟩⟩
    · rw [upd_ne hne]; exact upd_same
    · rw [upd_ne hne] at hdx; exact hdx
    · have hd1 : H1 dx = none := by rw [upd_ne hne] at hdx; exact hdx
      rw [upd_mk ha0 hd1 hne]
      obtain ⟨u, g2⟩ := g1.data hd1 (o := .xd [(fld, y)])
      exact hx _ _ _ _ _ _ _ g2 h1 ⟨T.ns, .inr ⟨dx, [(fld, y)], rfl, upd_same, .cons ⟨rfl, dp_up u.s _ _ ry⟩ .nil⟩⟩ σ
  · exact h1.elim
end
end Ab
set_option Elab.async false
set_option linter.all false
set_option maxRecDepth 100000
set_option maxHeartbeats 4000000
/-! Ab18: defs that may raise; try .. except x as n -/
namespace Ab
open PySem L2
open PyProof.Rows (envOfC)
variable {B B' B2 H H' H2 : Hp} {ρ ρ' ρ2 : List Addr} {κ κ' : AK} {δ : AD} {σ : L2.St} {p : Addr} {k : Nat} {v x y z : V} {a b c : AV}
variable {X : Cx} {e e2 o : Expr} {t u : TE} {f f2 : AE} {pos : Pos} {W : WX}
/-- an error at the def's end: the state may be told anew -/
def endX (K : PySem.W.Frag) (n : Nat) (E' : AEx) : AEx := fun x κ => ∃ a' κ', GhR K n (.d .none) κ a' κ' ∧ E' x κ'
theorem UpN.lenN {n : Nat} (w : UpN n B ρ H B' ρ' H') (h : n ≤ ρ.length) : n ≤ ρ'.length := by
  by_cases e : n = 0
  · omega
  · have h1 : n - 1 < ρ.length := by omega
    have := (List.getElem?_eq_some_iff.mp (w.p (n - 1) _ (by omega) (List.getElem?_eq_getElem h1))).1
    omega
section
variable {K : PySem.W.Frag} {P : Program} {w : World} {mg : Str → Option Value} {base : Heap}
/-- THE RULE for a def that may raise -/
theorem fn_okR {x qual : Str} {st : Stmt} {fa : Addr} {fd : FuncData} {N ps : List Str} {l : Nat} {F : FSp} {fb : AEx → AS} (Fu : Fun K x qual st fa fd) (Sc : FnScope N ps (defScope st)) (hl : ∀ as κ R E', F as κ R E' → as.length = ps.length)
    (hb : ∀ (cdv : Value) (A : Around) (outer : List Env) (s : Shared) (H : Hp) (E : XK), Room l (A.deeper (envOfC qual (defScope st) s.heap.objs.size fa cdv)) →
      ∀ (W : WX), Takes (cxOf (L2.CX P w) P w K mg base N qual (defScope st) fa cdv A outer s H E) W → PassesOwn (model P w) (cxOf (L2.CX P w) P w K mg base N qual (defScope st) fa cdv A outer s H E).A (cxOf (L2.CX P w) P w K mg base N qual (defScope st) fa cdv A outer s H E).env (cxOf (L2.CX P w) P w K mg base N qual (defScope st) fa cdv A outer s H E).xe →
      ∀ (n : Nat) (Z : Hp → List Addr → Hp → Prop) (up : ∀ B ρ H B' ρ' H', UpN n B ρ H B' ρ' H' → Z B ρ H → Z B' ρ' H') (E' : AEx), HX ⟨K, n, Z, up⟩ E' W →
      ∃ t, PSsa ⟨K, n, Z, up⟩ (cxOf (L2.CX P w) P w K mg base N qual (defScope st) fa cdv A outer s H E) (defBody st) t (fb E'))
    (hF : ∀ as κ R E', F as κ R E' → fb (endX K κ.length E') (endsA K κ.length R) (startA N as) κ) : FnOk P w K mg base (L2.CX P w) (l + 1) fa fd ps (spA K F) :=
  Fu.okX Sc (spA_len hl) fun cdv A outer s H vs Q E hr h => by
    obtain ⟨B, ρ, κ, as, R, E', g, r, hf, q, qe⟩ := h
    have hx : HX ⟨K, κ.length, fun B' ρ' H' => UpN κ.length B ρ H B' ρ' H', fun _ _ _ _ _ _ w2 w1 => w1.trans w2⟩ (endX K κ.length E') (fun cls d _ H => E cls d H) := by
      intro B1 ρ1 κ1 H1 x cls d g1 ⟨a', κ2, gh, hE⟩ rx σ
      obtain ⟨B2, ρ2, w2, r2, g2⟩ := gh.2 B1 ρ1 H1 .non g1.plain rp_non
      have z : UpN κ.length B ρ H B1 ρ1 H1 := g1.z
      exact qe _ _ _ _ _ _ _ ((z.trans w2).full (by rw [g.len]; exact Nat.le_refl _)) g2 (rx.up w2.s) hE
    obtain ⟨t, hp⟩ := hb cdv A outer s H E hr _ (takes_of rfl rfl rfl rfl) (passes_of rfl) _ _ _ _ hx
    refine ⟨t, hp.ps, ?_⟩
    have gz : G ⟨K, κ.length, fun B' ρ' H' => UpN κ.length B ρ H B' ρ' H', fun _ _ _ _ _ _ w2 w1 => w1.trans w2⟩ B ρ κ H := G.zone (K := ⟨K, κ.length, fun B' ρ' H' => UpN κ.length B ρ H B' ρ' H', fun _ _ _ _ _ _ w2 w1 => w1.trans w2⟩) g UpN.refl
    have fin : ∀ B' ρ' κ' H' a v, UpN κ.length B ρ H B' ρ' H' → G (Frg.of K) B' ρ' κ' H' → Rep K B' ρ' a v → (∃ a' κ2, GhR K κ.length a κ' a' κ2 ∧ R a' κ2) → Q v H' := fun B' ρ' κ' H' a v w g' ra ⟨a', κ2, gh, hR⟩ => by
      obtain ⟨B2, ρ2, w2, r2, g2⟩ := gh.2 B' ρ' H' v g' ra
      exact q _ _ _ _ _ _ ((w.trans w2).full (by rw [g.len]; exact Nat.le_refl _)) g2 r2 hR
    refine hp.sd B ρ (startA N as) κ (L2.start N vs) H (endsA K κ.length R) _ (s_start r) gz (Nat.le_refl _) (hF as κ R E' hf) ⟨?_, ?_, ?_, ?_, Nat.le_refl _⟩
    · exact fun B' ρ' κ' H' δ' σ' w g' s' l h' => fin _ _ _ _ _ _ w g'.plain rp_non h'
    · exact fun B' ρ' κ' H' a v w g' ra l h' => fin _ _ _ _ _ _ w g'.plain ra h'
    · exact fun _ _ _ _ _ _ _ _ _ _ h' => h'.elim
    · exact fun _ _ _ _ _ _ _ _ _ _ h' => h'.elim
end
variable {K : Frg}
/-! ### try: body, except x as n: suite -/
/-- .. of slots of this length -/
def lenW (N : Nat) (W : WX) : WX := fun cls d σ H => σ.length = N → W cls d σ H
theorem takes_len (tk : Takes X W) : Takes X (lenW X.N.length W) := fun u s' ⟨a, B, sI, pins, σ, H, cls, d, e, I, nb, up, sky, na, os, ag, w⟩ => tk u s' ⟨a, B, sI, pins, σ, H, cls, d, e, I, nb, up, sky, na, os, ag, w I.len⟩
/-- a wish that takes whatever comes -/
def xeAny (X : Cx) : Value → Shared → Prop := fun e s₁ => wpAny (model X.prog X.w) X.A (noteFrame e X.env) (fun _ s₂ => wpAny (model X.prog X.w) X.A (setFlight e none) (fun _ _ => True) (fun _ _ => False) s₂) (fun _ _ => False) s₁
theorem passes_any : PassesOwn (model X.prog X.w) X.A X.env (xeAny X) := PassesOwn.looking
theorem takes_any {pn : List (Addr × Obj)} (hs : X.stack = X.env :: X.outer) (hf : X.env.frame = some X.env.locals) : Takes (X.tr pn (xeAny X)) W := fun u s' ⟨a, B, sI, pins, σ, H, cls, d, e, I, nb, up, sky, na, os, ag, w⟩ => by
  subst e
  have hfr : X.A.frames = some (X.env :: X.outer) := by
    have := I.ok.frames
    exact this.trans (by rw [← hs])
  have sky' : Sky B (X.env :: X.outer) a (Zc cls d) X.env.locals s'.heap := by rw [← hs]; exact sky
  exact Sky.land Zc.steady hfr hf sky' fun _ _ _ => True.intro
def exTry (N : Nat) (i : Nat) (exm : Str → Option Bool) (fs : Addr → AX → AS) (Eo : AEx) (A : AEnds) : AEx := fun xa κ => ∃ b, exm xa.cls = some b ∧ (b = true → ∀ a, fs a xa { n := A.n, nx := fun δ κ => A.nx (δ.set i none) κ, rt := A.rt, bk := fun δ κ => A.bk (δ.set i none) κ, ct := fun δ κ => A.ct (δ.set i none) κ } ((List.replicate N none).set i (some (.r (.ref a)))) κ) ∧ (b = false → Eo xa κ)
def aTryAs (N : Nat) (i : Nat) (exm : Str → Option Bool) (fb : AEx → AS) (fs : Addr → AX → AS) (Eo : AEx) : AS := fun A δ κ => fb (exTry N i exm fs Eo A) A δ κ
section
variable {x n : Str} {c : Value} {i : Nat} {body suite : List Stmt} {b₀ : Stmt} {np pos' : Pos} {Wout : WX} {Eo : AEx} {exm : Str → Option Bool} {fb : AEx → AS} {fs : Addr → AX → AS} {tb : WX → (n : Nat) → (Z : Hp → List Addr → Hp → Prop) → (∀ B ρ H B' ρ' H', UpN n B ρ H B' ρ' H' → Z B ρ H → Z B' ρ' H') → TS} {ts : Addr → Value → Option Addr → (n : Nat) → (Z : Hp → List Addr → Hp → Prop) → (∀ B ρ H B' ρ' H', UpN n B ρ H B' ρ' H' → Z B ρ H → Z B' ρ' H') → TS}
theorem sa_tryAs (hs : X.stack = X.env :: X.outer) (hf : X.env.frame = some X.env.locals) (hN : X.N.Nodup) (hi : X.N[i]? = some n) (hln : X.env.kindOf n = some .local) (hc : Names X x c) (tk : Takes X Wout) (hxo : HX K Eo Wout)
    (hm : ∀ nm cls b, exm nm = some b → PySem.W.nsIn X.K mainGlobals nm = some (some cls) → PySem.W.exmOne X.K cls c = some b)
    (hb : ∀ (W : WX) (pn : List (Addr × Obj)) (xe : Value → Shared → Prop) (n : Nat) (Z : Hp → List Addr → Hp → Prop) (up : ∀ B ρ H B' ρ' H', UpN n B ρ H B' ρ' H' → Z B ρ H → Z B' ρ' H') (E' : AEx), Takes (X.tr pn xe) W → PassesOwn (model X.prog X.w) X.A X.env xe → HX ⟨K.K, n, Z, up⟩ E' W →
      PSsa ⟨K.K, n, Z, up⟩ (X.tr pn xe) body (tb W n Z up) (fb E'))
    (hsu : ∀ (a : Addr) (oe : Obj) (cls : Value) (d : Option Addr) (pn : List (Addr × Obj)) (xa : AX) (n : Nat) (Z : Hp → List Addr → Hp → Prop) (up : ∀ B ρ H B' ρ' H', UpN n B ρ H B' ρ' H' → Z B ρ H → Z B' ρ' H'), Zc cls d oe → (∃ vs, oe.data = .fields vs) → (∀ B ρ H, Z B ρ H → RepX X.K B xa cls d) →
      PSsa ⟨K.K, n, Z, up⟩ (X.suite a ((a, oe) :: pn)) (b₀ :: suite) (ts a cls d n Z up) (fs a xa)) (hK : X.K = K.K := by rfl) :
    PSa K X (.Try body [.ExceptHandler (some (.Name x np)) (some n) (b₀ :: suite) pos'] [] [] pos)
      (fun D σ H => ∃ (n : Nat) (Z : Hp → List Addr → Hp → Prop) (up : ∀ B ρ H B' ρ' H', UpN n B ρ H B' ρ' H' → Z B ρ H → Z B' ρ' H') (E' : AEx), HX ⟨K.K, n, Z, up⟩ E' (lenW X.N.length (wAs X.K c i (fun a cls d D σ H => ∃ (n : Nat) (Z : Hp → List Addr → Hp → Prop) (up : ∀ B ρ H B' ρ' H', UpN n B ρ H B' ρ' H' → Z B ρ H → Z B' ρ' H') (xa : AX), (∀ B ρ H, Z B ρ H → RepX X.K B xa cls d) ∧ ts a cls d n Z up D σ H) Wout D)) ∧
        tb (lenW X.N.length (wAs X.K c i (fun a cls d D σ H => ∃ (n : Nat) (Z : Hp → List Addr → Hp → Prop) (up : ∀ B ρ H B' ρ' H', UpN n B ρ H B' ρ' H' → Z B ρ H → Z B' ρ' H') (xa : AX), (∀ B ρ H, Z B ρ H → RepX X.K B xa cls d) ∧ ts a cls d n Z up D σ H) Wout D)) n Z up D σ H)
      (aTryAs X.N.length i exm fb fs Eo) := by
  refine ⟨ps_try_as (tb := fun W D σ H => ∃ (n : Nat) (Z : Hp → List Addr → Hp → Prop) (up : ∀ B ρ H B' ρ' H', UpN n B ρ H B' ρ' H' → Z B ρ H → Z B' ρ' H') (E' : AEx), HX ⟨K.K, n, Z, up⟩ E' (lenW X.N.length W) ∧ tb (lenW X.N.length W) n Z up D σ H)
    (ts := fun a cls d D σ H => ∃ (n : Nat) (Z : Hp → List Addr → Hp → Prop) (up : ∀ B ρ H B' ρ' H', UpN n B ρ H B' ρ' H' → Z B ρ H → Z B' ρ' H') (xa : AX), (∀ B ρ H, Z B ρ H → RepX X.K B xa cls d) ∧ ts a cls d n Z up D σ H) hs hf hN hi hln hc tk
    (fun W pn xe tk2 po => ⟨fun pins s σ H D I ⟨n, Z, up, E', hx, h⟩ => (hb (lenW X.N.length W) pn xe n Z up E' (takes_len tk2) po hx).ps.run pins s σ H D I h⟩)
    (fun a oe cls d pn hz hd => ⟨fun pins s σ H D I ⟨n, Z, up, xa, hr, h⟩ => (hsu a oe cls d pn xa n Z up hz hd hr).ps.run pins s σ H D I h⟩), ?_⟩
  intro B ρ δ κ σ H A D s g l h im
  have lρ : A.n ≤ ρ.length := by rw [g.len]; exact l
  have hx : HX ⟨K.K, A.n, fun B' ρ' H' => K.Z B' ρ' H' ∧ UpN A.n B ρ H B' ρ' H', fun _ _ _ _ _ _ w z => ⟨K.up _ _ _ _ _ _ (w.mono im.kn) z.1, z.2.trans w⟩⟩ (exTry X.N.length i exm fs Eo A) (lenW X.N.length (wAs X.K c i (fun a cls d D σ H => ∃ (n : Nat) (Z : Hp → List Addr → Hp → Prop) (up : ∀ B ρ H B' ρ' H', UpN n B ρ H B' ρ' H' → Z B ρ H → Z B' ρ' H') (xa : AX), (∀ B ρ H, Z B ρ H → RepX X.K B xa cls d) ∧ ts a cls d n Z up D σ H) Wout D)) := by
    intro B1 ρ1 κ1 H1 xa cls d g1 ⟨b, hb1, hy, hn⟩ rx σ1 hσ
    have z1 : K.Z B1 ρ1 H1 ∧ UpN A.n B ρ H B1 ρ1 H1 := g1.z
    have gk : G K B1 ρ1 κ1 H1 := G.zone g1.plain z1.1
    refine ⟨b, hm _ _ _ hb1 (by rw [hK]; exact rx.1), fun eb a na => ?_, fun eb => hxo _ _ _ _ _ _ _ gk (hn eb) rx σ1⟩
    refine ⟨K.n, fun B' ρ' H' => K.Z B' ρ' H' ∧ RepX K.K B' xa cls d, fun _ _ _ _ _ _ w z => ⟨K.up _ _ _ _ _ _ w z.1, z.2.up w.s⟩, xa, fun _ _ _ z => by rw [hK]; exact z.2, ?_⟩
    have im1 := im.later z1.2
    refine (hsu a { cls := cls, dict := d, data := .fields #[] } cls d [] xa K.n (fun B' ρ' H' => K.Z B' ρ' H' ∧ RepX K.K B' xa cls d) (fun _ _ _ _ _ _ w z => ⟨K.up _ _ _ _ _ _ w z.1, z.2.up w.s⟩) ⟨rfl, rfl⟩ ⟨_, rfl⟩ (fun _ _ _ z => by rw [hK]; exact z.2)).sd
      B1 ρ1 _ κ1 _ H1 _ _ ?_ (G.zone (K := ⟨K.K, K.n, fun B' ρ' H' => K.Z B' ρ' H' ∧ RepX K.K B' xa cls d, fun _ _ _ _ _ _ w z => ⟨K.up _ _ _ _ _ _ w z.1, z.2.up w.s⟩⟩) g1.plain ⟨z1.1, rx⟩) ?_ (hy eb a) ⟨?_, ?_, ?_, ?_, im.kn⟩
    · refine ⟨by rw [List.length_set, List.length_set, List.length_replicate, hσ], fun j b hj => ?_⟩
      rw [List.getElem?_set] at hj
      split at hj
      · rename_i ej
        split at hj
        · rename_i lj
          rw [List.length_replicate] at lj
          cases hj
          subst ej
          exact ⟨.ref a, by rw [List.getElem?_set_self (by rw [hσ]; exact lj)], rfl⟩
        · cases hj
      · rw [List.getElem?_replicate] at hj
        split at hj
        · cases hj
        · cases hj
    · show A.n ≤ κ1.length
      rw [← gk.len]
      exact z1.2.lenN lρ
    · exact fun B' ρ' κ' H' δ' σ' w g' s' l' h' => im1.nx _ _ _ _ _ _ w (G.zone g'.plain g'.z.1) s'.clr l' h'
    · exact fun B' ρ' κ' H' a v w g' r' l' h' => im1.rt _ _ _ _ _ _ w (G.zone g'.plain g'.z.1) r' l' h'
    · exact fun B' ρ' κ' H' δ' σ' w g' s' l' h' => im1.bk _ _ _ _ _ _ w (G.zone g'.plain g'.z.1) s'.clr l' h'
    · exact fun B' ρ' κ' H' δ' σ' w g' s' l' h' => im1.ct _ _ _ _ _ _ w (G.zone g'.plain g'.z.1) s'.clr l' h'
  refine ⟨A.n, _, _, exTry X.N.length i exm fs Eo A, hx, ?_⟩
  refine (hb (lenW X.N.length (wAs X.K c i _ Wout D)) [] (xeAny X) A.n (fun B' ρ' H' => K.Z B' ρ' H' ∧ UpN A.n B ρ H B' ρ' H') (fun _ _ _ _ _ _ w z => ⟨K.up _ _ _ _ _ _ (w.mono im.kn) z.1, z.2.trans w⟩) (exTry X.N.length i exm fs Eo A) (takes_any hs hf) passes_any hx).sd B ρ δ κ σ H A D s
      (G.zone (K := ⟨K.K, A.n, fun B' ρ' H' => K.Z B' ρ' H' ∧ UpN A.n B ρ H B' ρ' H', fun _ _ _ _ _ _ w z => ⟨K.up _ _ _ _ _ _ (w.mono im.kn) z.1, z.2.trans w⟩⟩) g.plain ⟨g.z, UpN.refl⟩) l h ⟨?_, ?_, ?_, ?_, Nat.le_refl _⟩
  · exact fun B' ρ' κ' H' δ' σ' w g' s' l' h' => im.nx _ _ _ _ _ _ w (G.zone g'.plain g'.z.1) s' l' h'
  · exact fun B' ρ' κ' H' a v w g' r' l' h' => im.rt _ _ _ _ _ _ w (G.zone g'.plain g'.z.1) r' l' h'
  · exact fun B' ρ' κ' H' δ' σ' w g' s' l' h' => im.bk _ _ _ _ _ _ w (G.zone g'.plain g'.z.1) s' l' h'
  · exact fun B' ρ' κ' H' δ' σ' w g' s' l' h' => im.ct _ _ _ _ _ _ w (G.zone g'.plain g'.z.1) s' l' h'
end
end Ab
set_option Elab.async false
set_option linter.all false
set_option maxRecDepth 100000
set_option maxHeartbeats 4000000
/-! Ab19: within an except suite: fields, isinstance, a call that is given the error -/
namespace Ab
open PySem L2
open PyProof.Rows (envOfC)
variable {K : Frg} {B B' B2 H H' H2 : Hp} {ρ ρ' ρ2 : List Addr} {κ κ' : AK} {δ : AD} {σ : L2.St} {p : Addr} {k : Nat} {v x y z : V} {a b c : AV}
variable {X : Cx} {e e2 o : Expr} {t u : TE} {f f2 : AE} {pos : Pos} {W : WX}
theorem dpks_lookup {K : PySem.W.Frag} {fs : List (Str × PyData)} {ws : List (Str × V)} (h : DpKs K B fs ws) {n : Str} {d : PyData} (e : fs.lookup n = some d) : ∃ w, ws.lookup n = some w ∧ Dp K B w d := by
  induction h with
  | nil => cases e
  | @cons p q ps qs h1 _ ih =>
    obtain ⟨s, d'⟩ := p
    obtain ⟨s', w'⟩ := q
    obtain ⟨e1, r⟩ := h1
    have e1 : s = s' := e1
    subst e1
    by_cases hs : n = s
    · subst hs
      have : ((n, d') :: ps).lookup n = some d' := by simp [List.lookup]
      rw [this] at e
      cases e
      exact ⟨w', by simp [List.lookup], r⟩
    · have hb : (n == s) = false := by simpa using hs
      have e2 : ((s, d') :: ps).lookup n = ps.lookup n := by simp [List.lookup, hb]
      rw [e2] at e
      obtain ⟨w, h3, h4⟩ := ih e
      exact ⟨w, by simpa [List.lookup, hb] using h3, h4⟩
/-! ### e.f -/
def isEx (a : Addr) : AV → Prop
  | .r u => u = .ref a
  | _ => False
theorem isEx_ref {a : Addr} {b : AV} {v : V} {B : Hp} {ρ : List Addr} {K : PySem.W.Frag} (h : isEx a b) (r : Rep K B ρ b v) : v = .ref a := by
  cases b with
  | r u => exact (show v = u from r).trans h
  | d x => exact h.elim
  | c k => exact h.elim
def aXf (f : Str) (a : Addr) (xa : AX) (nms : List Str) (fe : AE) : AE := fun δ κ R => xa.cls ∈ nms ∧ ∃ x, xa.fs.lookup f = some x ∧ fe δ κ fun v κ1 => isEx a v ∧ R (.d x) κ1
def tXfG (K : PySem.W.Frag) (a : Addr) (cls : Value) (d : Option Addr) (f : Str) (te : TE) : TE := fun σ H Q => ∃ C, (XfC K C ∧ PySem.W.findIn K (.ref C) f = some none) ∧ tXf a cls d C f te σ H Q
section
variable {ad : Addr} {oe : Obj} {cls : Value} {d : Option Addr} {pn : List (Addr × Obj)} {xa : AX} {nms : List Str} {fld : Str}
/-- what the top says of an error's field -/
def FldOk (K : PySem.W.Frag) (nms : List Str) (fld : Str) : Prop := ∀ nm ∈ nms, ∃ C, PySem.W.nsIn K mainGlobals nm = some (some (.ref C)) ∧ XfC K C ∧ PySem.W.findIn K (.ref C) fld = some none
theorem ea_xf (hz : Zc cls d oe) (hd : ∃ vs, oe.data = .fields vs) (hr : ∀ B ρ H, K.Z B ρ H → RepX X.K B xa cls d) (tab : FldOk X.K nms fld) (h : PEa K (X.suite ad ((ad, oe) :: pn)) e t f)
    (hb : attributeBase e fld (X.suite ad ((ad, oe) :: pn)).env (eval e (X.suite ad ((ad, oe) :: pn)).env) = eval e (X.suite ad ((ad, oe) :: pn)).env := by rfl) (hK : X.K = K.K := by rfl) :
    PEa K (X.suite ad ((ad, oe) :: pn)) (.Attribute e fld pos) (tXfG X.K ad cls d fld t) (aXf fld ad xa nms f) := by
  refine ⟨⟨fun pins s σ H Q I ⟨C, ⟨T, hno⟩, q⟩ => (pe_xf T hno hz hd h.pe hb).run pins s σ H Q I q⟩, fun B ρ δ κ σ H R Q s g hh q => ?_⟩
  obtain ⟨hm, xd, hl, hh⟩ := hh
  obtain ⟨C, ns, T, hno⟩ := tab _ hm
  have rx := hr _ _ _ g.z
  have ec : cls = .ref C := by
    have := rx.1.symm.trans ns
    cases this; rfl
  refine ⟨C, ⟨T, hno⟩, h.sd B ρ δ κ σ H _ _ s g hh fun B1 ρ1 κ1 H1 av vv w1 g1 r1 h1 => ⟨isEx_ref h1.1 r1, ec, ?_⟩⟩
  rcases (hr _ _ _ g1.z).2 with ⟨_, e0⟩ | ⟨dd, ws, ed, eb, rd⟩
  · rw [e0] at hl; cases hl
  · obtain ⟨w, e1, e2⟩ := dpks_lookup rd hl
    exact ⟨dd, ws, w, ed, g1.ex _ _ eb, e1, q _ _ _ _ _ _ w1 g1 (by rw [hK] at e2; exact e2) h1.2⟩
end
/-! ### isinstance(e, C) -/
/-- an error that is held, at ad -/
def Pinned (X : Cx) (ad : Addr) (cls : Value) (d : Option Addr) : Prop := ∃ oe, (ad, oe) ∈ X.pn ∧ Zc cls d oe ∧ ∃ vs, oe.data = .fields vs
def exKind (x y : Str) : Bool := decide (x = y) || decide (y = "ValueError") || decide (y = "PactError")
/-- the classes xs of errors before the class cv, called y -/
def KindOk (K : PySem.W.Frag) (xs : List Str) (y : Str) (cv : Value) : Prop := ∀ x ∈ xs, ∃ D, PySem.W.nsIn K mainGlobals x = some (some (.ref D)) ∧ ExcC K D ∧ PySem.W.kitOne K (.ref D) cv = some (exKind x y)
def rIsX (K : PySem.W.Frag) (cls : Value) (d : Option Addr) (a : Addr) : List V → Hp → VK → Prop := fun xs H Q => ∃ (c : V) (cv : Value) (b : Bool) (D : Addr), xs = [.ref a, c] ∧ (∀ u, RelV c u → u = cv) ∧ cls = .ref D ∧ ExcC K D ∧ (d = none ∨ ∃ dd fs, d = some dd ∧ H dd = some (.xd fs)) ∧ PySem.W.kitOne K cls cv = some b ∧ Q (.bl b) H
theorem call_isX {ad : Addr} {cls : Value} {d : Option Addr} (hp : Pinned X ad cls d) : CallR X (.builtin "isinstance") (rIsX X.K cls d ad) := by
  intro pins s σ H xs us Q I r h
  obtain ⟨c, cv, b, D, rfl, hcv, ec, C, hd, e, q⟩ := h
  obtain ⟨oe, hm, hz, vs, hv⟩ := hp
  cases r with
  | cons rx rr =>
    cases rr with
    | cons rt rr =>
      cases rr
      cases rx
      have e2 := hcv _ rt
      subst e2
      subst ec
      obtain ⟨hget, _⟩ := I.pin (ad, oe) (List.mem_append_left _ hm)
      obtain ⟨cd, hcl, _⟩ := PySem.W.any_some C.hd
      have hcl' : (PySem.W.clsIn X.K D).isSome = true := by rw [hcl]; rfl
      have J : ∃ od, PySem.W.InstAt s.heap ad oe D od := by
        rcases hd with hd | ⟨dd, fs, ed, eH⟩
        · obtain ⟨oc, od, oda, osl⟩ := oe
          obtain ⟨h1, h2⟩ := hz
          dsimp only at h1 h2 hv
          subst h1 h2 hv hd
          exact ⟨none, hget, rfl, rfl, trivial⟩
        · have hx : ObjOk X.prog X.w H s.heap dd (.xd fs) := I.hok dd _ eH
          obtain ⟨mA, hns, hr⟩ := hx
          obtain ⟨od, ho, hl⟩ := lookIn_ns hns
          exact ⟨some od, hget, hz.1, by unfold PySem.W.notCls; rw [hv] <;> rfl, by rw [hz.2, ed]; exact ho⟩
      obtain ⟨od, J⟩ := J
      exact PySem.W.kia_one (PySem.W.kitx_exc hcl' C.hg C.hk C.hs C.ha C.hn C.ht C.hm) I.kIn J e (fun z => nomatch z) fun tk => ⟨.bl b, H, I.kept (t' := tk) fun _ _ z => z, rfl, q⟩
def aIsX (a : Addr) (xa : AX) (xs : List Str) (y : Str) (fe : AE) : AE := fun δ κ R => xa.cls ∈ xs ∧ fe δ κ fun v κ1 => isEx a v ∧ R (.d (.bool (exKind xa.cls y))) κ1
section
variable {ad : Addr} {cls : Value} {d : Option Addr} {xa : AX} {xs : List Str} {y x : Str} {cv : Value} {c : V} {q : Pos}
theorem ea_isX (hp : Pinned X ad cls d) (hr : ∀ B ρ H, K.Z B ρ H → RepX X.K B xa cls d) (tab : KindOk X.K xs y cv) (hcv : ∀ u, RelV c u → u = cv) (he : PEa K X e t f) (hc : PE X e2 (tC c)) (hg : Gl X "isinstance") (hm : X.mg "isinstance" = none) (hv : bootBuiltins "isinstance" = some (.builtin "isinstance"))
    (hst : starEach [e, e2] X.env = (false, eval e X.env) :: starEach [e2] X.env := by rfl) (hpl : (backTo pos (starEach [e2] X.env)).any (·.1) = false := by rfl) (hst2 : starEach [e2] X.env = (false, eval e2 X.env) :: starEach [] X.env := by rfl) (hK : X.K = K.K := by rfl) :
    PEa K X (.Call (.Name "isinstance" q) [e, e2] [] pos) (tCB (rIsX K.K cls d ad) (tCons t (tCons (tC c) tNil))) (aIsX ad xa xs y f) := by
  rw [← hK]
  refine ⟨pe_callB (call_isX hp) hg hm hv (pa_cons he.pe (pa_cons hc pa_nil (hs := hst2)) (hs := hst)) (by decide) (by decide) hst hpl, fun B ρ δ κ σ H R Q s g hh q => ?_⟩
  obtain ⟨hmem, hh⟩ := hh
  have rx := hr _ _ _ g.z
  obtain ⟨D, ns, EC, kt⟩ := tab _ hmem
  have ec : cls = .ref D := by
    have := rx.1.symm.trans ns
    cases this; rfl
  refine he.sd B ρ δ κ σ H _ _ s g hh fun B1 ρ1 κ1 H1 av vv w1 g1 r1 h1 => ?_
  refine ⟨c, cv, _, D, by rw [isEx_ref h1.1 r1], hcv, ec, EC, ?_, by rw [ec]; exact kt, q _ _ _ _ _ _ w1 g1 (rp_bl _) h1.2⟩
  rcases (hr _ _ _ g1.z).2 with ⟨e0, _⟩ | ⟨dd, ws, ed, eb, rd⟩
  · exact .inl e0
  · exact .inr ⟨dd, ws, ed, g1.ex _ _ eb⟩
/-- a class of the top as a value -/
theorem pe_cls {C : Addr} {p : Pos} (hg : Gl X x) (hm : X.mg x = some (.ref C)) (hdb : (x == ("__debug__" : Str)) = false := by decide) : PE X (.Name x p) (tC (.ref C)) := pe_glob hg hm rfl hdb
end
/-! ### == of what is flat -/
def aEqFB (n : Bool → Bool) : AO := fun a b κ R => match a, b with
  | .d (.int i), .d (.int j) => R (.d (.bool (n (decide (i = j))))) κ
  | .d (.str i), .d (.str j) => R (.d (.bool (n (decide (i = j))))) κ
  | .d (.bool i), .d (.bool j) => R (.d (.bool (n (decide (i = j))))) κ
  | _, _ => False
theorem oa_eqF : OpA K X (compareOp .Eq) rEq (aEqFB id) := by
  refine ⟨op_eq, ?_⟩
  intro B ρ κ H x y a b R Q g rx ry h q
  have h : aEqFB _ a b κ R := h
  unfold aEqFB at h
  split at h
  · cases rx.int; cases ry.int
    refine ⟨rfl, ?_⟩
    rw [dec_inj V.int fun _ _ e => V.int.inj e]
    exact q.at0 g (rp_bl _) h
  · cases rx.str; cases ry.str
    refine ⟨rfl, ?_⟩
    rw [dec_inj V.str fun _ _ e => V.str.inj e]
    exact q.at0 g (rp_bl _) h
  · cases rx.bool; cases ry.bool
    refine ⟨rfl, ?_⟩
    rw [dec_inj V.bl fun _ _ e => V.bl.inj e]
    exact q.at0 g (rp_bl _) h
  · exact h.elim
/-! ### a def that is given the error -/
open L2H in
/-- the error x, at a, as the only argument -/
def spP (K : PySem.W.Frag) (a : Addr) (xa : AX) (cls : Value) (d : Option Addr) : Sp := fun vs H Q E => ∃ B ρ κ, G (Frg.of K) B ρ κ H ∧ RepX K B xa cls d ∧ vs = [.ref a] ∧ ∀ B' ρ' H', Up B ρ H B' ρ' H' → G (Frg.of K) B' ρ' κ H' → Q (.str xa.cls) H'
structure FnP (P : Program) (w : World) (K : PySem.W.Frag) (mg : Str → Option Value) (base : Heap) (k : Nat) (fa : Addr) (fd : FuncData) (ps : List Str) (xs : List Str) : Prop where
  len : ps.length = 1
  run : ∀ (A : Around) (outer : List Env) (s : Shared) (H : Hp) (args : Args) (us : List Value) (vs : List V) (Q : VK) (p : Addr × Obj) (xa : AX) (cls : Value) (d : Option Addr), L2H.RoomH k A → L2H.PinOk outer H s p → Env0 P w K mg base A outer s H → BindsTo s fd args (ps.zip us) → Vals vs us →
    Zc cls d p.2 → (∃ ys, p.2.data = .fields ys) → xa.cls ∈ xs → spP K p.1 xa cls d vs H Q E0 → codeAny (model P w) A (.call (.ref fa) args) (CR CX0 outer P w H s Q E0) s
section
open PyProof.Rows
variable {P : Program} {w : World} {K : PySem.W.Frag} {mg : Str → Option Value} {base : Heap}
theorem fnp_ok {x qual : Str} {st : Stmt} {fa : Addr} {fd : FuncData} {N ps xs : List Str} {l : Nat} {f : Addr → AX → AS} (Fu : Fun K x qual st fa fd) (Sc : FnScope N ps (defScope st)) (h1 : ps.length = 1)
    (hb : ∀ (cdv : Value) (A : Around) (outer : List Env) (s : Shared) (H : Hp) (p : Addr × Obj) (xa : AX) (cls : Value) (d : Option Addr), L2H.RoomH l (A.deeper (envOfC qual (defScope st) s.heap.objs.size fa cdv)) → Zc cls d p.2 → (∃ ys, p.2.data = .fields ys) →
      ∀ (n : Nat) (Z : Hp → List Addr → Hp → Prop) (up : ∀ B ρ H B' ρ' H', UpN n B ρ H B' ρ' H' → Z B ρ H → Z B' ρ' H'), (∀ B ρ H, Z B ρ H → RepX K B xa cls d) → ∃ t, PSsa ⟨K, n, Z, up⟩ (L2H.cxH CX0 P w K mg base N qual (defScope st) fa cdv A outer s H E0 p) (defBody st) t (f p.1 xa))
    (hF : ∀ a xa κ R, xa.cls ∈ xs → R (.d (.str xa.cls)) κ → f a xa (endsA K κ.length R) (startA N [.r (.ref a)]) κ) : FnP P w K mg base (l + 1) fa fd ps xs := by
  obtain ⟨oc, od, kV, doc, pm, an, cdv, ct, osl, rfl, lk, hcd⟩ := Fu.ex
  refine ⟨h1, fun A outer s H args us vs Q p xa cls d hr hpin e0 hbs r hz hd hm hsp => ?_⟩
  obtain ⟨B, ρ, κ, g, rx, ev, q⟩ := hsp
  subst ev
  have hl : ([V.ref p.1] : List V).length = ps.length := by rw [h1]; rfl
  have inK : K.In s.heap := e0.mod.kin.keeps fun b ob z => (e0.bs b ob z).1
  have nolim : s.heap.NoLimit := e0.mod.nolimit.keeps fun b ob z => (e0.bs b ob z).1
  refine codeAny_call_function hr.depth (inK _ _ lk) rfl Sc.co Sc.gen rfl (PySem.W.codeRec_of inK hcd) (hbs _ _ _ _ ?_)
  refine wpAny_newFunctionEnv_cells Sc.kind (fun ⟨n, v⟩ hy => (Sc.par n (List.of_mem_zip hy).1).imp id fun z => ⟨z, PySem.W.cellsFrom_some _ _ _ (.inl z)⟩) fun env he s1 x1 => ?_
  subst he
  refine ⟨nolim.keeps x1.toInCall.keep, codeAny_func ?_⟩
  obtain ⟨t, ht⟩ := hb cdv A outer s H p xa cls d (hr.deeper _) hz hd κ.length (fun B' ρ' H' => UpN κ.length B ρ H B' ρ' H' ∧ RepX K B' xa cls d) (fun _ _ _ _ _ _ w z => ⟨z.1.trans w, z.2.up w.s⟩) (fun _ _ _ z => z.2)
  have I1 := L2H.inv_startH (CX := CX0) (P := P) (w := w) (K := K) (mg := mg) (base := base) (E := E0) Sc hpin e0 hl r x1
  have gz : G ⟨K, κ.length, fun B' ρ' H' => UpN κ.length B ρ H B' ρ' H' ∧ RepX K B' xa cls d, fun _ _ _ _ _ _ w z => ⟨z.1.trans w, z.2.up w.s⟩⟩ B ρ κ H := ⟨g.ex, g.len, g.inj, g.at', UpN.refl, rx⟩
  have fin : ∀ B' ρ' κ' H' a v, UpN κ.length B ρ H B' ρ' H' → G (Frg.of K) B' ρ' κ' H' → Rep K B' ρ' a v → (∃ a' κ2, GhR K κ.length a κ' a' κ2 ∧ (a' = .d (.str xa.cls) ∧ κ2 = κ)) → Q v H' := fun B' ρ' κ' H' a v w g' ra ⟨a', κ2, gh, e1, e2⟩ => by
    subst e1 e2
    obtain ⟨B2, ρ2, w2, r2, g2⟩ := gh.2 B' ρ' H' v g' ra
    cases r2.str
    exact q _ _ _ ((w.trans w2).full (by rw [g.len]; exact Nat.le_refl _)) g2
  have run := ht.sd B ρ (startA N [.r (.ref p.1)]) κ (L2.start N [.ref p.1]) H (endsA K κ.length fun a κ2 => a = .d (.str xa.cls) ∧ κ2 = κ) { nx := fun _ H' => Q .non H', rt := Q } (s_start (.cons rfl .nil)) gz (Nat.le_refl _) (hF _ _ _ _ hm ⟨rfl, rfl⟩)
    ⟨fun B' ρ' κ' H' δ' σ' w g' s' l h' => fin _ _ _ _ _ _ w g'.plain rp_non h', fun B' ρ' κ' H' a v w g' ra l h' => fin _ _ _ _ _ _ w g'.plain ra h', fun _ _ _ _ _ _ _ _ _ _ h' => h'.elim, fun _ _ _ _ _ _ _ _ _ _ h' => h'.elim, Nat.le_refl _⟩
  refine wpAny_mono (ht.ps.run [] s1 _ H _ I1 run) (fun fl s' hs => ?_) fun _ _ z => z
  cases fl with
  | ret u =>
    obtain ⟨v, _, H', J, rv, qv⟩ := hs
    exact ⟨v, H', J.os, J.bare, J.base, J.hok, rv, qv⟩
  | next =>
    obtain ⟨_, H', J, qv⟩ := hs
    exact ⟨V.non, H', J.os, J.bare, J.base, J.hok, rfl, qv⟩
  | brk =>
    obtain ⟨_, _, _, z⟩ := hs
    exact z.elim
  | cont =>
    obtain ⟨_, _, _, z⟩ := hs
    exact z.elim
end
/-! f(e) in the suite -/
def aCallP (a : Addr) (xa : AX) (xs : List Str) (fe : AE) : AE := fun δ κ R => xa.cls ∈ xs ∧ fe δ κ fun v κ1 => isEx a v ∧ R (.d (.str xa.cls)) κ1
section
variable {ad : Addr} {cls : Value} {d : Option Addr} {oe : Obj} {pn : List (Addr × Obj)} {xa : AX} {xs : List Str} {x : Str} {q : Pos} {l : Nat} {fa : Addr} {fd : FuncData} {ps : List Str}
theorem ea_callP (hz : Zc cls d oe) (hd : ∃ vs, oe.data = .fields vs) (hrx : ∀ B ρ H, K.Z B ρ H → RepX X.K B xa cls d) (Fo : FnP X.prog X.w X.K X.mg X.base l fa fd ps xs) (hr : Room l X.A)
    (hg : Gl X x) (hm : X.mg x = some (.ref fa)) (hk : PySem.W.keepIn X.K (.ref fa) = true) (hb : Binds X.K fd ps []) (he : PEa K (X.suite ad ((ad, oe) :: pn)) e t f) (hdb : (x == ("__debug__" : Str)) = false := by decide)
    (hst : starEach [e] (X.suite ad ((ad, oe) :: pn)).env = (false, eval e (X.suite ad ((ad, oe) :: pn)).env) :: starEach [] (X.suite ad ((ad, oe) :: pn)).env := by rfl) (hpl : (backTo pos (starEach [] (X.suite ad ((ad, oe) :: pn)).env)).any (·.1) = false := by rfl) (hK : X.K = K.K := by rfl) :
    PEa K (X.suite ad ((ad, oe) :: pn)) (.Call (.Name x q) [e] [] pos) (fun σ H Q => ∃ xa : AX, xa.cls ∈ xs ∧ tCons t tNil σ H fun vs H1 => spP X.K ad xa cls d vs H1 Q E0) (aCallP ad xa xs f) := by
  refine ⟨⟨fun pins s σ H Q I ⟨xa, hmem, h⟩ => ?_⟩, fun B ρ δ κ σ H R Q s g hh q => ?_⟩
  · refine wpAny_Call_Name_kw (ld_glob I hg hm ?_ hdb)
    refine PySem.W.callWith_K (h₀ := X.base) I.ok.mod.kin hk (thn ((pa_cons he.pe pa_nil (hs := hst)).run pos pins s σ H _ I h) fun us s1 ⟨vs, H1, I1, r1, q1⟩ => ⟨I1.kIn, ?_⟩) hst hpl
    have lu : us.length = ps.length := by
      rw [← r1.length, Fo.len]
      obtain ⟨_, _, _, _, _, ev, _⟩ := q1
      rw [ev]; rfl
    have b2 := hb s1 us I1.kIn (by rw [List.append_nil]; exact lu)
    rw [List.append_nil] at b2
    have P1 := I1.pin (ad, oe) (List.mem_append_left _ List.mem_cons_self)
    refine wpAny_call (codeAny_mono (Fo.run (X.A.mark (some (.ref ad))) X.stack s1 H1 ⟨us, []⟩ us vs Q (ad, oe) xa cls d (L2H.roomH_of hr |> fun z => ⟨z.dp, z.un⟩) ⟨P1.1, P1.2.1, fun hm => (List.mem_cons.mp (I1.stkSub ad hm)).elim P1.2.2.1 P1.2.2.2.1, P1.2.2.2.2⟩ I1.env0 b2 r1 hz hd hmem q1) fun rr s' hq => ?_)
    cases rr with
    | error _ => exact False.elim hq
    | ok fl =>
      cases fl with
      | ret u => exact I1.after hq
      | next => exact False.elim hq
      | brk => exact False.elim hq
      | cont => exact False.elim hq
  · obtain ⟨hmem, hh⟩ := hh
    refine ⟨xa, hmem, he.sd B ρ δ κ σ H _ _ s g hh fun B1 ρ1 κ1 H1 av vv w1 g1 r1 h1 => ?_⟩
    refine ⟨B1, ρ1, κ1, by rw [hK]; exact g1.plain, hrx _ _ _ g1.z, by rw [isEx_ref h1.1 r1], fun B' ρ' H' w2 g2 => q _ _ _ _ _ _ (w1.trans w2) (G.zone (by rw [hK] at g2; exact g2) (K.up _ _ _ _ _ _ w2.n g1.z)) (rp_str _) h1.2⟩
end
end Ab
namespace Ab
open PySem L2
variable {K : Frg} {X : Cx} {W : WX}
theorem takes_none : Takes X (fun _ _ _ _ => False) := fun u s' ⟨_, _, _, _, _, _, _, _, _, _, _, _, _, _, _, _, w⟩ => w.elim
theorem hx_none : HX K (fun _ _ => False) W := fun _ _ _ _ _ _ _ _ h => h.elim
/-! ### what the top says of errors -/
section
variable {K : PySem.W.Frag} {nm x y fld : Str} {C D fI : Addr} {xs : List Str} {cv : Value} {b : Bool}
structure ErrC (K : PySem.W.Frag) (nm : Str) (C : Addr) : Prop where
  ns : PySem.W.nsIn K mainGlobals nm = some (some (.ref C))
  ox : OexC K C
  xc : ExcC K C
  slf : PySem.W.subIn K (.ref C) (.ref C) = some true
theorem ErrC.f (h : ErrC K nm C) : ExF K nm C := ⟨h.ns, h.ox⟩
theorem errC_of {n0 qn : Str} {N : Addr} {bs bm : List Value} {sn : List Str} {sb : List Value} {ab : Bool} {col : Option Bool} {dd : Option Addr} {k0 k1 k2 k3 k5 : Option Value} (h1 : PySem.W.nsIn K mainGlobals nm = some (some (.ref C)))
    (h2 : K.lookup C = some (excClassObj n0 qn C N bs bm true sn sb ab col dd k0 k1 k2 k3 k5 "ValueError.__new__")) (h3 : PySem.HandSPX.refsVE bm = true) (h4 : PySem.W.findIn K (.ref C) "__setattr__" = some (some (.builtin "object.__setattr__")))
    (h5 : PySem.W.subIn K (.ref C) (.type "BaseException") = some true) (h6 : PySem.W.typeIn K (.ref C) = some (.type "type")) (h7 : PySem.W.keepIn K (.ref C) = true) (h8 : PySem.W.findIn K (.ref C) "__getattribute__" = some (some (.builtin "BaseException.__getattribute__")))
    (h9 : PySem.W.findIn K (.ref C) "__getattr__" = some none) (h10 : PySem.W.hasDictIn K C = true) (h11 : PySem.W.findIn K (.ref C) "__class__" = some (some (.builtin "object.__class__"))) (h12 : PySem.W.specialIn K (.builtin "object.__class__") "__get__" = some (some (.builtin "getset_descriptor.__get__")))
    (h13 : PySem.W.takesIn K (.builtin "object.__class__") = some true) (h14 : PySem.W.mroIn K C (.type "object") = some true) (h15 : PySem.W.subIn K (.ref C) (.ref C) = some true) : ErrC K nm C :=
  ⟨h1, ⟨⟨_, _, _, _, _, _, _, _, _, _, _, _, _, _, _, h2, h3⟩, h4, h5, h6, h7⟩, ⟨h8, h9, h5, h10, h11, h12, h13, h14⟩, h15⟩
/-- a class that is asked for -/
structure TgtC (K : PySem.W.Frag) (C : Addr) : Prop where
  ty : PySem.W.typeIn K (.ref C) = some (.type "type")
  hd : PySem.W.hasDictIn K C = true
  bx : PySem.W.subIn K (.ref C) (.type "BaseException") = some true
theorem exm_of (T : TgtC K C) (h : PySem.W.subIn K (.ref D) (.ref C) = some b) : PySem.W.exmOne K (.ref D) (.ref C) = some b := PySem.W.exm_ref T.bx T.hd T.ty h
theorem kit_of (E : ErrC K nm D) (T : TgtC K C) (h : PySem.W.subIn K (.ref D) (.ref C) = some b) : PySem.W.kitOne K (.ref D) (.ref C) = some b := by
  obtain ⟨cd, hc, _⟩ := PySem.W.any_some T.hd
  unfold PySem.W.kitOne
  by_cases e : D = C
  · subst e
    rw [E.slf] at h
    cases h
    rw [if_pos (beq_self_eq_true _)]
  · rw [if_neg (show ¬ (Value.ref D == Value.ref C) = true from fun z => e (Value.ref.inj (beq_iff_eq.mp z)))]
    show (if ((PySem.W.clsIn K C).isSome && PySem.W.typeIn K (.ref C) == some (.type "type")) = true then PySem.W.subIn K (.ref D) (.ref C) else none) = _
    rw [if_pos (by rw [hc, T.ty]; rfl)]
    exact h
theorem kit_VE (h : PySem.W.subIn K (.ref D) (.type "ValueError") = some true) : PySem.W.kitOne K (.ref D) (.type "ValueError") = some true := by
  unfold PySem.W.kitOne
  rw [if_neg (show ¬ (Value.ref D == Value.type "ValueError") = true from fun z => Value.noConfusion (beq_iff_eq.mp z))]
  show (if PySem.W.kitMeta "ValueError" = true then _ else none) = _
  rw [if_pos (by decide +kernel)]
  exact h
theorem KindOk.nil : KindOk K [] y cv := fun x h => absurd h (List.not_mem_nil)
theorem KindOk.cons (E : ErrC K x D) (h : PySem.W.kitOne K (.ref D) cv = some b) (hb : exKind x y = b) (t : KindOk K xs y cv) : KindOk K (x :: xs) y cv := fun z hz => by
  rcases List.mem_cons.mp hz with e | hz
  · subst e; exact ⟨D, E.ns, E.xc, by rw [hb]; exact h⟩
  · exact t z hz
theorem FldOk.nil : FldOk K [] fld := fun x h => absurd h (List.not_mem_nil)
theorem FldOk.cons (E : ErrC K x D) (h : PySem.W.findIn K (.ref D) fld = some none) (t : FldOk K xs fld) : FldOk K (x :: xs) fld := fun z hz => by
  rcases List.mem_cons.mp hz with e | hz
  · subst e; exact ⟨D, E.ns, ⟨E.xc.hg, E.xc.hk, E.xc.hs, E.xc.hd⟩, h⟩
  · exact t z hz
/-- which errors a clause takes -/
def exmOf (xs : List Str) (y : Str) : Str → Option Bool := fun x => if x ∈ xs then some (exKind x y) else none
def ExmOk (K : PySem.W.Frag) (xs : List Str) (y : Str) (cv : Value) : Prop := ∀ x ∈ xs, ∃ D, PySem.W.nsIn K mainGlobals x = some (some (.ref D)) ∧ PySem.W.exmOne K (.ref D) cv = some (exKind x y)
theorem ExmOk.nil : ExmOk K [] y cv := fun x h => absurd h (List.not_mem_nil)
theorem ExmOk.cons (E : ErrC K x D) (h : PySem.W.exmOne K (.ref D) cv = some b) (hb : exKind x y = b) (t : ExmOk K xs y cv) : ExmOk K (x :: xs) y cv := fun z hz => by
  rcases List.mem_cons.mp hz with e | hz
  · subst e; exact ⟨D, E.ns, by rw [hb]; exact h⟩
  · exact t z hz
theorem ExmOk.m (h : ExmOk K xs y cv) : ∀ nm cls b, exmOf xs y nm = some b → PySem.W.nsIn K mainGlobals nm = some (some cls) → PySem.W.exmOne K cls cv = some b := fun nm cls b e n => by
  unfold exmOf at e
  split at e
  · rename_i hm
    obtain ⟨D, n2, r⟩ := h nm hm
    rw [n] at n2
    cases n2
    rw [← Option.some.inj e]
    exact r
  · cases e
end
end Ab
set_option Elab.async false
set_option linter.all false
set_option maxRecDepth 100000
set_option maxHeartbeats 4000000
/-! Ab20: max of two numbers -/
namespace Ab
open PySem L2
variable {K : Frg} {X : Cx}
def aMax2 : List AV → AK → AR → Prop := fun as κ R => match as with
  | [.d (.int i), .d (.int j)] => R (.d (.int (if i < j then j else i))) κ
  | _ => False
theorem ca_max (hc : X.calm = true) : CallA K X (.builtin "max") (fun xs H Q => ∃ i j, xs = [.int i, .int j] ∧ Q (.int (if i < j then j else i)) H) aMax2 := ⟨call_max2 hc, fun B ρ κ H xs as R Q g rs h q => by
  unfold aMax2 at h
  split at h
  · obtain ⟨x, y, rfl, r1, r2⟩ := reps2 rs
    exact ⟨_, _, by rw [r1.int, r2.int], q.at0 g (rp_int _) h⟩
  · exact h.elim⟩
end Ab
set_option Elab.async false
set_option linter.all false
set_option maxRecDepth 100000
set_option maxHeartbeats 4000000
/-! Ab21: a short list many times -/
namespace Ab
open PySem L2
variable {K : Frg} {B B' B2 H H' H2 : Hp} {ρ ρ' ρ2 : List Addr} {κ κ' : AK} {δ : AD} {σ : L2.St} {p : Addr} {k : Nat} {v x y z : V} {a b c : AV}
variable {X : Cx} {e e2 : Expr} {t u : TE} {f f2 : AE} {pos : Pos}
def rMulN (K : PySem.W.Frag) : R2 := fun x y H Q => ∃ a xs n, x = V.ref a ∧ y = V.int n ∧ SqL K H a xs ∧ (0 ≤ n ∧ n ≤ 1000 ∧ xs.length ≤ 1000) ∧ ∀ p, H p = none → Q (.ref p) (upd H p (.lst (List.replicate n.toNat xs).flatten))
theorem op_mulN : OpR X (binaryOp .Mult) (rMulN X.K) := by
  intro pins s σ H x y v u Q I rx ry h
  obtain ⟨a, xs, n, rfl, rfl, hs, ⟨hn0, hn1, hxl⟩, q⟩ := h
  obtain rfl : v = Value.ref a := rx
  obtain ⟨tk, rfl⟩ := ry
  obtain ⟨its, rv, ⟨⟨cls, dd, data, sl⟩, m, ho, hc, hdn, hd⟩, hlen⟩ := I.list hs
  have hc1 : cls = Value.type "list" := hc
  have hd1 : data = Data.seq its.toArray m := hd
  subst hc1 hd1
  have hil : its.length ≤ 1000 := by rw [← rv.length]; exact hxl
  have hsl := sizeLine_eq
  have hk : n.toNat ≤ 1000 := by omega
  have hm : its.toArray.size * n.toNat ≤ 1000000 := by
    rw [List.size_toArray]
    exact Nat.mul_le_mul hil hk
  refine wpAny_binaryOp_repeat_ref (T := "list") (U := "int") (by decide) ⟨_, ho, rfl⟩ (fun s' => typeIs_int s' n tk) noFill_list_mul PySem.F.fills_int_mul PySem.F.slot_int_rmul repeat_list PySem.F.slot_int_index.lookup
    (call_meets PySem.F.slot_int_rmul (typeIs_int s n tk) PySem.F.entry_int_rmul (PySem.F.args_int_rmul_2 _ _) (q_rmul_int n tk a its.toArray m dd sl)
      ⟨ho, rfl, ⟨_, ho, rfl⟩, call_meets PySem.F.slot_list_mul ⟨_, ho, rfl⟩ PySem.F.entry_list_mul (PySem.F.args_list_mul_2 _ _)
        (q_mul_int a its.toArray m dd sl n tk ?_ (by omega) (by simp only [Builtin.List.listTooLong, decide_eq_true_eq]; omega))
        ⟨ho, ?_⟩⟩)
  · have : Builtin.List.listFitsIndex n = true := by
      simp only [Builtin.List.listFitsIndex, Bool.and_eq_true, decide_eq_true_eq]
      omega
    rw [this]; decide
  have e : List.foldl (fun x1 x2 => x1 ++ x2) #[] (List.replicate (if its.toArray.isEmpty = true then 0 else n.toNat) its.toArray) = (List.replicate n.toNat its).flatten.toArray := by
    rw [PyProof.Rows.listMul_foldl_if]
  rw [e]
  refine ⟨.ref _, _, I.lnew (t' := s.toks) (rv.rep n.toNat) ?_, rfl, q _ I.fresh⟩
  rw [PyProof.Rows.lm_len_rep_flat]
  have : n.toNat * xs.length ≤ 1000 * 1000 := Nat.mul_le_mul hk hxl
  omega
/-- a short list of data, n times -/
def aMulN : AO := fun a b κ R => match a, b with
  | .d (.list xs), .d (.int n) => (0 ≤ n ∧ n ≤ 1000 ∧ xs.length ≤ 1000) ∧ R (.d (.list (List.replicate n.toNat xs).flatten)) κ
  | _, _ => False
theorem oa_mulN (hK : X.K = K := by rfl) : OpA K X (binaryOp .Mult) (rMulN K) aMulN := by
  obtain ⟨K, Kn, KZ, Ku⟩ := K
  change X.K = K at hK
  subst hK
  refine ⟨op_mulN, ?_⟩
  intro B ρ κ H x y a b R Q g rx ry h q
  unfold aMulN at h
  split at h
  · rename_i xs n
    obtain ⟨⟨h0, h1, h2⟩, h⟩ := h
    obtain ⟨p, vs, rfl, s1, d1⟩ := of_listG g rx
    refine ⟨p, vs, n, rfl, ry.int, s1, ⟨h0, h1, ?_⟩, fun l hl => ?_⟩
    · rw [dpa_len d1]; exact h2
    · obtain ⟨u4, g4, r4⟩ := new_lst g hl (dpa_rep d1 n.toNat)
      exact q _ _ _ _ _ _ u4 g4 r4 h
  · exact h.elim
end Ab
set_option Elab.async false
set_option linter.all false
set_option maxRecDepth 100000
set_option maxHeartbeats 4000000
/-! Ab22: l.extend of a tuple or list of data; in, not in, of a list of data of any depth -/
namespace Ab
open PySem L2
variable {K : Frg} {B B' B2 H H' H2 : Hp} {ρ ρ' ρ2 : List Addr} {κ κ' : AK} {δ : AD} {σ : L2.St} {p : Addr} {k : Nat} {v x y z : V} {a b c : AV}
variable {X : Cx} {e e2 : Expr} {t u : TE} {f f2 : AE} {pos : Pos}
theorem q_ext_tup (l : Addr) (items : Array Value) (n : Nat) (b : Addr) (items2 : Array Value) (n2 : Nat) (d2 : Option Addr) (sl2 : Array (Option Value)) (hs0 : ¬(!items.isEmpty && Builtin.List.listTooLong (items.size + items2.size)) = true) (hs1 : items.size ≤ sizeLine) (hs2 : items.size + items2.size ≤ sizeLine + 1) :
    Meets (Builtin.«list.extend» ⟨[.ref l, .ref b], []⟩) (fun _ R s => s.heap.get? l = some { cls := .type "list", dict := none, data := .seq items n, slots := #[] } ∧ s.heap.get? b = some { cls := .type "tuple", dict := d2, data := .seq items2 n2, slots := sl2 } ∧ R (.ok (.ret Value.none)) { s with heap := s.heap.update l (Obj.mapSeq fun x => x ++ items2), toks := s.toks }) :=
  .of_wp fun prog w A R s h => by
    obtain ⟨hp, g, d, tk, os⟩ := s; obtain ⟨hl, hb, h⟩ := h; have f1 := AutoSeq1.idx_int; have f2 := AutoSeq1.sub_tuple_tuple; have f3 := AutoSeq1.sub_list_list; have f4 := AutoSeq1.sub_tuple_list; have f5 := AutoSeq1.sub_list_tuple;
    have hz' : (items ++ items2).size ≤ sizeLine + 1 := by rw [Array.size_append]; exact hs2
    wp_walk using (wpAny_updateSeq hl rfl (hz := hs1) (_hz' := hz')), AutoSeq1.wpAny_loadPart' hl, AutoSeq1.wpAny_loadPart' hb; exact ⟨_, rfl, h⟩
theorem q_ext_lst (l : Addr) (items : Array Value) (n : Nat) (b : Addr) (items2 : Array Value) (n2 : Nat) (d2 : Option Addr) (sl2 : Array (Option Value)) (hs0 : ¬(!items.isEmpty && Builtin.List.listTooLong (items.size + items2.size)) = true) (hs1 : items.size ≤ sizeLine) (hs2 : items.size + items2.size ≤ sizeLine + 1) :
    Meets (Builtin.«list.extend» ⟨[.ref l, .ref b], []⟩) (fun _ R s => s.heap.get? l = some { cls := .type "list", dict := none, data := .seq items n, slots := #[] } ∧ s.heap.get? b = some { cls := .type "list", dict := d2, data := .seq items2 n2, slots := sl2 } ∧ R (.ok (.ret Value.none)) { s with heap := s.heap.update l (Obj.mapSeq fun x => x ++ items2), toks := s.toks }) :=
  .of_wp fun prog w A R s h => by
    obtain ⟨hp, g, d, tk, os⟩ := s; obtain ⟨hl, hb, h⟩ := h; have f1 := AutoSeq1.idx_int; have f2 := AutoSeq1.sub_tuple_tuple; have f3 := AutoSeq1.sub_list_list; have f4 := AutoSeq1.sub_tuple_list; have f5 := AutoSeq1.sub_list_tuple;
    have hz' : (items ++ items2).size ≤ sizeLine + 1 := by rw [Array.size_append]; exact hs2
    wp_walk using (wpAny_updateSeq hl rfl (hz := hs1) (_hz' := hz')), AutoSeq1.wpAny_loadPart' hl, AutoSeq1.wpAny_loadPart' hb; exact ⟨_, rfl, h⟩
def rExt (K : PySem.W.Frag) : V → List V → Hp → VK → Prop := fun x vs H Q => ∃ l b xs zs, x = .ref l ∧ vs = [.ref b] ∧ H l = some (.lst xs) ∧ (SqT K H b zs ∨ SqL K H b zs) ∧ xs.length + zs.length ≤ sizeLine ∧ Q .non (upd H l (.lst (xs ++ zs)))
theorem mt_ext : MtM X "list.extend" (rExt X.K) := by
  intro pins s σ H x vs v us Q I rx rv h
  obtain ⟨l, b, xs, zs, rfl, rfl, hH, hB, hz, q⟩ := h
  cases rx
  obtain ⟨u, rfl, ru⟩ := rv.one
  cases ru
  obtain ⟨z, its, n, r, hl, e⟩ := I.lstM hH
  rcases hB with hB | hB
  · obtain ⟨its2, r2, ⟨⟨cls, dd, data, sl⟩, ho, hc, m, hd⟩, hlen⟩ := I.tuple hB
    have hc1 : cls = Value.type "tuple" := hc
    have hd1 : data = Data.seq its2.toArray m := hd
    subst hc1 hd1
    have hl2 := r2.length
    have hsz : its.toArray.size + its2.toArray.size ≤ sizeLine := by rw [List.size_toArray, List.size_toArray]; omega
    have hlong : ¬ (!its.toArray.isEmpty && Builtin.List.listTooLong (its.toArray.size + its2.toArray.size)) = true := by
      rw [notLongL hsz, Bool.and_false]
      exact Bool.false_ne_true
    refine call_meets PySem.F.slot_list_extend ⟨_, e, rfl⟩ PySem.F.entry_list_extend (PySem.F.args_list_extend_2 _ _)
      (q_ext_tup l its.toArray n b its2.toArray m dd sl hlong (by rw [List.size_toArray]; omega) (by omega)) ⟨e, ho, ?_⟩
    refine ⟨.non, _, I.lset (its' := its ++ its2) hH e (by simp) (r.append r2) ?_, rfl, q⟩
    rw [List.length_append]
    omega
  · obtain ⟨its2, r2, ⟨⟨cls, dd, data, sl⟩, m, ho, hc, hdn, hd⟩, hlen⟩ := I.list hB
    have hc1 : cls = Value.type "list" := hc
    have hd1 : data = Data.seq its2.toArray m := hd
    subst hc1 hd1
    have hl2 := r2.length
    have hsz : its.toArray.size + its2.toArray.size ≤ sizeLine := by rw [List.size_toArray, List.size_toArray]; omega
    have hlong : ¬ (!its.toArray.isEmpty && Builtin.List.listTooLong (its.toArray.size + its2.toArray.size)) = true := by
      rw [notLongL hsz, Bool.and_false]
      exact Bool.false_ne_true
    refine call_meets PySem.F.slot_list_extend ⟨_, e, rfl⟩ PySem.F.entry_list_extend (PySem.F.args_list_extend_2 _ _)
      (q_ext_lst l its.toArray n b its2.toArray m dd sl hlong (by rw [List.size_toArray]; omega) (by omega)) ⟨e, ho, ?_⟩
    refine ⟨.non, _, I.lset (its' := its ++ its2) hH e (by simp) (r.append r2) ?_, rfl, q⟩
    rw [List.length_append]
    omega
def aExtend : AV → List AV → AK → AR → Prop := fun a as κ R => match a, as with
  | .c k, [.d (.tuple zs)] => ∃ xs, κ[k]? = some (.ld xs) ∧ xs.length + zs.length ≤ sizeLine ∧ R (.d .none) (κ.set k (.ld (xs ++ zs)))
  | .c k, [.d (.list zs)] => ∃ xs, κ[k]? = some (.ld xs) ∧ xs.length + zs.length ≤ sizeLine ∧ R (.d .none) (κ.set k (.ld (xs ++ zs)))
  | _, _ => False
theorem ma_extend (hK : X.K = K := by rfl) : MtA K X "list.extend" (rExt K) aExtend := by
  obtain ⟨K, Kn, KZ, Ku⟩ := K
  change X.K = K at hK
  subst hK
  refine ⟨mt_ext, fun B ρ κ H x xs a as R Q g rx rs h q => ?_⟩
  unfold aExtend at h
  split at h
  · obtain ⟨xs, ek, hl, h⟩ := h
    obtain ⟨p, hp, rfl⟩ := rx
    obtain ⟨y, rfl, ry⟩ := reps1 rs
    obtain ⟨vs, r, eH, wr⟩ := g.ldAt hp ek
    obtain ⟨p2, ws, rfl, s2, d2⟩ := of_tupG g ry
    obtain ⟨u2, g2⟩ := wr _ _ (dpa_app r d2)
    refine ⟨p, p2, vs, ws, rfl, rfl, eH, .inl s2, by rw [dpa_len r, dpa_len d2]; exact hl, q _ _ _ _ _ _ u2 g2 rp_non h⟩
  · obtain ⟨xs, ek, hl, h⟩ := h
    obtain ⟨p, hp, rfl⟩ := rx
    obtain ⟨y, rfl, ry⟩ := reps1 rs
    obtain ⟨vs, r, eH, wr⟩ := g.ldAt hp ek
    obtain ⟨p2, ws, rfl, s2, d2⟩ := of_listG g ry
    obtain ⟨u2, g2⟩ := wr _ _ (dpa_app r d2)
    refine ⟨p, p2, vs, ws, rfl, rfl, eH, .inr s2, by rw [dpa_len r, dpa_len d2]; exact hl, q _ _ _ _ _ _ u2 g2 rp_non h⟩
  · exact h.elim
/-! ### in, of any depth -/
def aInP (n : Bool → Bool) : AO := fun a b κ R => match a, b with
  | .d x, .d (.list ys) => SeqAt.shaped x = true ∧ SeqAt.shaped (.list ys) = true ∧ R (.d (.bool (n (ys.any fun z => PyData.eqv z x)))) κ
  | .d x, .c k => ∃ ys, κ[k]? = some (.ld ys) ∧ SeqAt.shaped x = true ∧ SeqAt.shaped (.list ys) = true ∧ R (.d (.bool (n (ys.any fun z => PyData.eqv z x)))) κ
  | _, _ => False
theorem inP_dp (g : G K B ρ κ H) {x y : V} {a b : AV} {n : Bool → Bool} {R : AR} (rx : Rep K B ρ a x) (ry : Rep K B ρ b y) (h : aInP n a b κ R) : ∃ d ds, Dp K H x d ∧ Dp K H y (.list ds) ∧ SeqAt.shaped d = true ∧ SeqAt.shaped (.list ds) = true ∧ R (.d (.bool (n (ds.any fun z => PyData.eqv z d)))) κ := by
  unfold aInP at h
  split at h
  · rename_i d ds
    exact ⟨d, ds, dp_G g rx, dp_G g ry, h.1, h.2.1, h.2.2⟩
  · rename_i d k
    obtain ⟨ys, ek, h1, h2, h3⟩ := h
    obtain ⟨p, hp, rfl⟩ := ry
    obtain ⟨p', hp', _, vs, d1, eH⟩ := g.cell ek
    rw [hp] at hp'; cases hp'
    exact ⟨d, ys, dp_G g rx, .lst (.inl (.inl eH)) (dpa_up g.ex _ _ d1), h1, h2, h3⟩
  · exact h.elim
theorem oa_inP {l : Nat} (hr : Room l X.A) (hK : X.K = K := by rfl) : OpA K X (compareOp .In) (rInD K) (aInP id) := by
  obtain ⟨K, Kn, KZ, Ku⟩ := K
  change X.K = K at hK
  subst hK
  refine ⟨op_inD (by have := hr.un; omega), ?_⟩
  intro B ρ κ H x y a b R Q g rx ry h q
  obtain ⟨d, ds, h1, h2, h3, h4, h5⟩ := inP_dp g rx ry h
  exact ⟨d, ds, h1, h2, h3, h4, q.at0 g (rp_bl _) h5⟩
theorem oa_notinP {l : Nat} (hr : Room l X.A) (hK : X.K = K := by rfl) : OpA K X (compareOp .NotIn) (rNotInD K) (aInP not) := by
  obtain ⟨K, Kn, KZ, Ku⟩ := K
  change X.K = K at hK
  subst hK
  refine ⟨op_notInD (by have := hr.un; omega), ?_⟩
  intro B ρ κ H x y a b R Q g rx ry h q
  obtain ⟨d, ds, h1, h2, h3, h4, h5⟩ := inP_dp g rx ry h
  exact ⟨d, ds, h1, h2, h3, h4, q.at0 g (rp_bl _) h5⟩
end Ab
set_option Elab.async false
set_option linter.all false
set_option maxRecDepth 100000
set_option maxHeartbeats 4000000
/-! Com: the helpers that the laws share -/
namespace Com
open PySem L2 Ab
variable {K : PySem.W.Frag}
/-! ### the source of numbers -/
def srcK (ns : List Int) (i x y : Int) : Cell := .ld [.list (ns.map .int), .int i, .int x, .int y]
def isSrc (c : Cell) : Prop := ∃ ns i x y, c = srcK ns i x y ∧ 0 ≤ i
theorem isSrc.cl {c : Cell} (h : isSrc c) : clC c = true ∧ liveC c = true := by
  obtain ⟨ns, i, x, y, rfl, _⟩ := h
  exact ⟨rfl, rfl⟩
def F__law_source : FSp := fun as κ R _ => ∃ ns : List Int, as = [.d (.list (ns.map .int))] ∧ κ = [] ∧ ∀ s, isSrc s → R (.c 0) [s]
abbrev N__law_source : List Str := ["script"]
def a__law_source (K : PySem.W.Frag) : AS :=
  (aRet (aLst (aCons (aCB (aListOf false) (aCons (aVar 0) aNil)) (aCons (aC (.d (.int 0))) (aCons (aC (.d (.int 0))) (aCons (aC (.d (.int 7))) aNil))))))
theorem len__law_source : ∀ as κ R E', F__law_source as κ R E' → as.length = (["script"] : List Str).length := by
  rintro as κ R E' ⟨ns, rfl, _⟩; rfl
theorem rd__law_source : ∀ as κ R E', F__law_source as κ R E' → a__law_source K (endsA K κ.length R) (startA N__law_source as) κ := by
  rintro as κ R E' ⟨ns, rfl, rfl, h⟩
  exact ⟨(show 4 ≤ sizeLine by decide), _, _, GhR.refl (Nat.zero_le _), h _ ⟨ns, 0, 0, 7, rfl, by decide⟩⟩
def F__law_pick : FSp := fun as κ R _ => ∃ s m, as = [.c 0, .d (.int m)] ∧ κ = [s] ∧ isSrc s ∧ 0 < m ∧ m < 1000000 ∧ ∀ v s', isSrc s' → 0 ≤ v → v < m → R (.d (.int v)) [s']
abbrev N__law_pick : List Str := ["source", "many", "cell", "picked", "mixed"]
def a__law_pick (K : PySem.W.Frag) : AS :=
  (aCut (aIfS (aAnd (aB (aOp aEq (aOp aIx (aVar 0) (aC (.d (.int 2)))) (aC (.d (.int 0))))) (aB (aOp aLt (aOp aIx (aVar 0) (aC (.d (.int 1)))) (aCB aLen (aCons (aOp aIx (aVar 0) (aC (.d (.int 0)))) aNil))))) (aSeq (aSet 2 (aOp aIx (aOp aIx (aVar 0) (aC (.d (.int 0)))) (aOp aIx (aVar 0) (aC (.d (.int 1)))))) (aSeq (aAsg (aOp aAdd (aOp aIx (aVar 0) (aC (.d (.int 1)))) (aC (.d (.int 1)))) (aGSub (aVar 0) (aC (.d (.int 1))) aSetL)) (aIfS (aB (aOp aGt (aVar 2) (aOp aPow (aC (.d (.int 10))) (aC (.d (.int 18)))))) (aAsg (aOp aSub (aVar 2) (aOp aPow (aC (.d (.int 10))) (aC (.d (.int 18))))) (aGSub (aVar 0) (aC (.d (.int 2))) aSetL)) (aAsg (aOp aMod (aCB aIntOf (aCons (aOp aAdd (aOp aMul (aOp aIx (aVar 0) (aC (.d (.int 3)))) (aC (.d (.int 16807)))) (aVar 2)) aNil)) (aC (.d (.int 2147483647)))) (aGSub (aVar 0) (aC (.d (.int 3))) aSetL))))) aNext) (aSeq (aIfS (aB (aOp aGt (aOp aIx (aVar 0) (aC (.d (.int 2)))) (aC (.d (.int 0))))) (aSeq (aSet 3 (aOp aMod (aCB aIntOf (aCons (aOp aIx (aVar 0) (aC (.d (.int 2)))) aNil)) (aVar 1))) (aSeq (aAsg (aOp aDiv (aOp aIx (aVar 0) (aC (.d (.int 2)))) (aVar 1)) (aGSub (aVar 0) (aC (.d (.int 2))) aSetL)) (aRet (aVar 3)))) aNext) (aSeq (aAsg (aOp aMod (aCB aIntOf (aCons (aOp aAdd (aOp aMul (aOp aIx (aVar 0) (aC (.d (.int 3)))) (aC (.d (.int 48271)))) (aC (.d (.int 12345)))) aNil)) (aC (.d (.int 2147483647)))) (aGSub (aVar 0) (aC (.d (.int 3))) aSetL)) (aSeq (aSet 4 (aOp aMul (aOp aMul (aOp aAdd (aOp aMod (aCB aIntOf (aCons (aOp aIx (aVar 0) (aC (.d (.int 3)))) aNil)) (aC (.d (.int 46337)))) (aC (.d (.int 1)))) (aOp aAdd (aOp aDiv (aOp aIx (aVar 0) (aC (.d (.int 3)))) (aC (.d (.int 46337)))) (aC (.d (.int 7))))) (aC (.d (.int 16807))))) (aRet (aOp aMod (aOp aDiv (aOp aMod (aCB aIntOf (aCons (aVar 4) aNil)) (aC (.d (.int 2147483629)))) (aC (.d (.int 32)))) (aVar 1)))))))
theorem len__law_pick : ∀ as κ R E', F__law_pick as κ R E' → as.length = (["source", "many"] : List Str).length := by
  rintro as κ R E' ⟨s, m, rfl, _⟩; rfl
theorem at_ints {ns : List Int} {i : Int} (h0 : 0 ≤ i) (h : i < ns.length) : ∃ v, atI (ns.map PyData.int) i = some (.int v) := by
  obtain ⟨j, rfl⟩ := Int.eq_ofNat_of_zero_le h0
  have hj : j < ns.length := by omega
  exact ⟨ns[j], atI_nat (by rw [List.getElem?_map, List.getElem?_eq_getElem hj]; rfl)⟩
theorem cp18 : CPow 10 18 := ⟨by decide, by decide, by decide⟩
theorem mod_small (a : Int) : -(2 ^ 64) < a % 46337 + 1 ∧ a % 46337 + 1 < 2 ^ 64 := by omega
theorem rd__law_pick : ∀ as κ R E', F__law_pick as κ R E' → a__law_pick K (endsA K κ.length R) (startA N__law_pick as) κ := by
  rintro as κ R E' ⟨s, m, rfl, rfl, ⟨ns, i, x, y, rfl, hi⟩, h0, h1, h⟩
  have fin : ∀ v ns i x y, 0 ≤ i → 0 ≤ v → v < m → (endsA K [srcK ns i x y].length R).rt (.d (.int v)) [srcK ns i x y] := fun v ns i x y hi hv hm => ⟨_, _, GhR.refl (Nat.le_refl _), h _ _ ⟨ns, i, x, y, rfl, hi⟩ hv hm⟩
  have hd : CDiv 0 m := ⟨h0, by omega⟩
  refine ⟨fun δ κ => ∃ i x y c, δ = [some (.c 0), some (.d (.int m)), c, none, none] ∧ κ = [srcK ns i x y] ∧ 0 ≤ i, ?_, ?_⟩
  · refine ⟨_, rfl, bsel_i (fun hx => ?_) fun _ => ⟨i, x, y, _, rfl, rfl, hi⟩⟩
    refine ⟨_, rfl, _, rfl, bsel_i (fun hl => ?_) fun _ => ⟨i, x, y, _, rfl, rfl, hi⟩⟩
    have hl' : i < ns.length := by have := of_decide_eq_true hl; simpa using this
    obtain ⟨v, hv⟩ := at_ints hi hl'
    refine ⟨_, rfl, _, rfl, _, hv, _, rfl, _, rfl, cp18, bsel_i (fun hb => ?_) fun hb => ?_⟩
    · exact ⟨cp18, _, rfl, _, _, _, _, rfl, rfl, by omega⟩
    · exact ⟨_, rfl, .inr (by decide), (by decide : (0 : Int) < 2147483647), _, rfl, _, _, _, _, rfl, rfl, by omega⟩
  · rintro δ κ ⟨i, x, y, c, rfl, rfl, hi⟩ _
    refine ⟨_, rfl, bsel_i (fun hx => ?_) fun _ => ?_⟩
    · refine ⟨_, rfl, h0, _, rfl, ⟨h0, by omega⟩, _, rfl, fin _ _ _ _ _ hi (Int.emod_nonneg _ (by omega)) (Int.emod_lt_of_pos _ h0)⟩
    · exact ⟨_, rfl, .inr (by decide), (by decide : (0 : Int) < 2147483647), _, rfl, _, rfl, (by decide : (0 : Int) < 46337), _, rfl, ⟨by decide, by decide⟩, .inl (mod_small _), .inr (by decide), (by decide : (0 : Int) < 2147483629), ⟨by decide, by decide⟩, h0, fin _ _ _ _ _ hi (Int.emod_nonneg _ (by omega)) (Int.emod_lt_of_pos _ h0)⟩

theorem sel0 {s : Cell} {κr : AK} (h : isSrc s) : selK [0] (s :: κr) = some [s] := by
  show (if clC s = true then some [s] else none) = _
  rw [if_pos h.cl.1]
theorem isSrc.fz {s : Cell} {k : Nat} {d : PyData} (h : isSrc s) : isSrc (fzC k d s) := by
  obtain ⟨ns, i, x, y, rfl, hi⟩ := h; exact ⟨ns, i, x, y, rfl, hi⟩
theorem cl1_ok {s c : Cell} (h : isSrc s) : (([s, c] : AK).take 1).all (okC 1) = true := by
  obtain ⟨ns, i, x, y, rfl, _⟩ := h; rfl
theorem cl1 {s : Cell} (h : isSrc s) : ([s] : AK).all clC = true := List.all_eq_true.mpr fun c hc => by rw [List.mem_singleton.mp hc]; exact h.cl.1
theorem pick_w {s : Cell} {κr : AK} {m : Int} {E : AX → AK → Prop} {R : AR} (hs : isSrc s) (h0 : 0 < m) (h1 : m < 1000000) (k : ∀ v s', isSrc s' → 0 ≤ v → v < m → R (.d (.int v)) (s' :: κr)) : callW F__law_pick E [.c 0, .d (.int m)] (s :: κr) R :=
  callW_i ⟨[0], _, _, by decide, rfl, sel0 hs, s, m, rfl, rfl, hs, h0, h1, fun v s' hs' hv0 hv => ⟨Nat.le_refl _, cl1 hs', rfl, k v s' hs' hv0 hv⟩⟩
/-! ### signs, names -/
def low (c : Nat) : Prop := 97 ≤ c ∧ c ≤ 122
def dig (c : Nat) : Prop := 48 ≤ c ∧ c ≤ 57
def run (c : Nat) : Prop := low c ∨ dig c
instance (c : Nat) : Decidable (low c) := by unfold low; exact inferInstance
instance (c : Nat) : Decidable (dig c) := by unfold dig; exact inferInstance
instance (c : Nat) : Decidable (run c) := by unfold run; exact inferInstance
def wordsL : List Str := ["pact", "end", "choice", "both", "loop", "use"]
def isName (z : Str) : Prop := (∃ c r, tl z = c :: r ∧ low c ∧ (∀ x ∈ r, run x) ∧ r.length ≤ 11) ∧ z ∉ wordsL
abbrev alnum : Str := "abcdefghijklmnopqrstuvwxyz0123456789"
theorem alnum_len : alnum.length = 36 := by decide +kernel
theorem alnum_mem {c : Nat} : c ∈ tl alnum ↔ run c := by
  have h : tl alnum = (List.range 26).map (97 + ·) ++ (List.range 10).map (48 + ·) := by decide +kernel
  rw [h, List.mem_append, List.mem_map, List.mem_map]
  unfold run low dig
  constructor
  · rintro (⟨i, hi, rfl⟩ | ⟨i, hi, rfl⟩) <;> rw [List.mem_range] at hi <;> omega
  · rintro (h | h)
    · exact .inl ⟨c - 97, by rw [List.mem_range]; omega, by omega⟩
    · exact .inr ⟨c - 48, by rw [List.mem_range]; omega, by omega⟩
theorem alnum_low : ∀ j : Nat, j < 26 → ∀ c, (tl alnum)[j]? = some c → low c := by
  have h : tl alnum = (List.range 26).map (97 + ·) ++ (List.range 10).map (48 + ·) := by decide +kernel
  intro j hj c hc
  rw [h, List.getElem?_append_left (by simpa using hj), List.getElem?_map, List.getElem?_range hj] at hc
  simp at hc
  unfold low; omega
theorem sl100 {n : Nat} (h : n ≤ 100000) : n ≤ sizeLine := Nat.le_trans h (by decide)
theorem al_sl : alnum.length ≤ sizeLine := by rw [alnum_len]; decide
/-- blanks -/
def blankC (c : Nat) : Prop := c = 32 ∨ c = 10
def isBlank (b : Str) : Prop := (∀ c ∈ tl b, blankC c) ∧ b.length ≤ 2
def F__law_blank : FSp := fun as κ R _ => ∃ s least, as = [.c 0, .d (.bool least)] ∧ κ = [s] ∧ isSrc s ∧ ∀ b s', isSrc s' → isBlank b → (least = true → b ≠ "") → R (.d (.str b)) [s']
abbrev N__law_blank : List Str := ["source", "least", "blank"]
def a__law_blank (K : PySem.W.Frag) : AS :=
  (aSeq (aSet 2 (aOp aIx (aLstD (aCons (aC (.d (.str ""))) (aCons (aC (.d (.str ""))) (aCons (aC (.d (.str " "))) (aCons (aC (.d (.str "\n"))) (aCons (aC (.d (.str "  "))) (aCons (aC (.d (.str " \n"))) aNil))))))) (aCall F__law_pick (fun _ _ => False) (aCons (aVar 0) (aCons (aC (.d (.int 6))) aNil))))) (aSeq (aIfS (aAnd (aB (aOp aEq (aVar 2) (aC (.d (.str ""))))) (aTru (aVar 1))) (aRet (aOp aIx (aLstD (aCons (aC (.d (.str " "))) (aCons (aC (.d (.str "\n"))) aNil))) (aCall F__law_pick (fun _ _ => False) (aCons (aVar 0) (aCons (aC (.d (.int 2))) aNil))))) aNext) (aRet (aVar 2))))
theorem len__law_blank : ∀ as κ R E', F__law_blank as κ R E' → as.length = (["source", "least"] : List Str).length := by
  rintro as κ R E' ⟨s, m, rfl, _⟩; rfl
theorem blanks6 {w : PyData} (h : w ∈ ([.str "", .str "", .str " ", .str "\n", .str "  ", .str " \n"] : List PyData)) : ∃ b, w = .str b ∧ isBlank b := by
  simp only [List.mem_cons, List.mem_nil_iff, or_false] at h
  rcases h with rfl | rfl | rfl | rfl | rfl | rfl <;> refine ⟨_, rfl, ?_, ?_⟩ <;> first | decide +kernel | (unfold blankC; decide +kernel)
theorem blanks2 {w : PyData} (h : w ∈ ([.str " ", .str "\n"] : List PyData)) : ∃ b, w = .str b ∧ isBlank b ∧ b ≠ "" := by
  simp only [List.mem_cons, List.mem_nil_iff, or_false] at h
  rcases h with rfl | rfl <;> refine ⟨_, rfl, ⟨?_, ?_⟩, ?_⟩ <;> first | decide +kernel | (unfold blankC; decide +kernel)
theorem rd__law_blank : ∀ as κ R E', F__law_blank as κ R E' → a__law_blank K (endsA K κ.length R) (startA N__law_blank as) κ := by
  rintro as κ R E' ⟨s, least, rfl, rfl, hs, h⟩
  have fin : ∀ s b, isSrc s → isBlank b → (least = true → b ≠ "") → (endsA K [s].length R).rt (.d (.str b)) [s] := fun s b h1 h2 h3 => ⟨_, _, GhR.refl (Nat.le_refl _), h _ _ h1 h2 h3⟩
  refine ⟨(show 6 ≤ sizeLine by decide), ?_⟩
  refine pick_w hs (by decide) (by decide) fun v s' hs' hv0 hv => ?_
  obtain ⟨w, hw, hm, _⟩ := at_mem (xs := ([.str "", .str "", .str " ", .str "\n", .str "  ", .str " \n"] : List PyData)) hv0 hv
  obtain ⟨b, rfl, hb⟩ := blanks6 hm
  refine ⟨_, hw, bsel_i (fun he => ?_) fun he => ?_⟩
  · cases least with
    | false => exact fin _ _ hs' hb (fun z => by cases z)
    | true =>
      refine ⟨(show 2 ≤ sizeLine by decide), ?_⟩
      refine pick_w hs' (by decide) (by decide) fun v s2 hs2 hv0 hv => ?_
      obtain ⟨w, hw, hm, _⟩ := at_mem (xs := ([.str " ", .str "\n"] : List PyData)) hv0 hv
      obtain ⟨b2, rfl, hb2, hn⟩ := blanks2 hm
      exact ⟨_, hw, fin _ _ hs2 hb2 fun _ => hn⟩
  · exact fin _ _ hs' hb fun _ => of_decide_eq_false he

theorem bsel_or {c d : Bool} {S F X : Prop} (h : (c || d) = true → S) (h' : (c || d) = false → F) (k : bsel d S F → X) : bsel c (bsel true S F) X := by
  cases c with
  | true => exact h rfl
  | false => exact k (by cases d with | true => exact h rfl | false => exact h' rfl)
/-! ### a name -/
def spare (i : Nat) : Str := "q" ++ Str.ofString (toString ((i : Nat) : Int))
theorem tl_q : tl "q" = [113] := by decide +kernel
theorem tl_spare (i : Nat) : tl (spare i) = 113 :: TL.numL i := by
  unfold spare
  rw [tl_app, tl_q]
  show [113] ++ TL.tl _ = _
  rw [TL.tl_num]; rfl
theorem spare_inj {i j : Nat} (h : spare i = spare j) : i = j := by
  have e := congrArg tl h
  rw [tl_spare, tl_spare] at e
  exact TL.numL_inj (List.cons.inj e).2
theorem words_heads : ∀ w ∈ wordsL, (tl w).head? ≠ some 113 := by decide +kernel
theorem spare_name {i : Nat} (h : i ≤ 100000) : isName (spare i) := by
  refine ⟨⟨113, TL.numL i, tl_spare i, by decide, fun x hx => ?_, ?_⟩, fun hm => ?_⟩
  · have := TL.numL_digits i x hx
    right; unfold dig; simpa using this
  · have := TL.numL_len (n := i) (k := 6) (by decide) (by omega); omega
  · have := words_heads _ hm
    rw [tl_spare] at this; exact this rfl
theorem spare_free (tk : List Str) : ∃ i, i < tk.length + 1 ∧ spare i ∉ tk := by
  apply Classical.byContradiction
  intro hn
  have all : ∀ i, i < tk.length + 1 → spare i ∈ tk := fun i hi => Classical.byContradiction fun h => hn ⟨i, hi, h⟩
  have nd : ((List.range (tk.length + 1)).map spare).Nodup := by
    rw [List.Nodup, List.pairwise_map]
    exact List.nodup_range.imp fun h e => h (spare_inj e)
  have := List.Nodup.length_le_of_subset nd (l₂ := tk) (fun x hx => by
    obtain ⟨i, hi, rfl⟩ := List.mem_map.mp hx
    exact all i (List.mem_range.mp hi))
  rw [List.length_map, List.length_range] at this
  omega
theorem wordsD : ([.str "pact", .str "end", .str "choice", .str "both", .str "loop", .str "use"] : List PyData) = wordsL.map .str := rfl
def F__law_name : FSp := fun as κ R _ => ∃ (s : Cell) (tk : List Str), as = [.c 0, .d (.list (tk.map .str))] ∧ κ = [s] ∧ isSrc s ∧ tk.length ≤ 10000 ∧ ∀ z s', isSrc s' → isName z → z ∉ tk → R (.d (.str z)) [s']
abbrev N__law_name : List Str := ["source", "taken", "letters", "name", "k", "spare", "one"]
def a__law_name (K : PySem.W.Frag) : AS :=
  (aSeq (aSet 2 (aC (.d (.str "abcdefghijklmnopqrstuvwxyz0123456789")))) (aSeq (aSet 3 (aOp aIx (aVar 2) (aCall F__law_pick (fun _ _ => False) (aCons (aVar 0) (aCons (aC (.d (.int 26))) aNil))))) (aSeq (aFor (aRng1 (aCons (aOp aIx (aLstD (aCons (aC (.d (.int 0))) (aCons (aC (.d (.int 0))) (aCons (aC (.d (.int 1))) (aCons (aC (.d (.int 2))) (aCons (aCall F__law_pick (fun _ _ => False) (aCons (aVar 0) (aCons (aC (.d (.int 12))) aNil))) aNil)))))) (aCall F__law_pick (fun _ _ => False) (aCons (aVar 0) (aCons (aC (.d (.int 5))) aNil)))) aNil)) (aName 4) (aSet 3 (aOp aAdd (aVar 3) (aOp aIx (aVar 2) (aCall F__law_pick (fun _ _ => False) (aCons (aVar 0) (aCons (aC (.d (.int 36))) aNil))))))) (aSeq (aIfS (aOr (aB (aOp (aIn id) (aVar 3) (aVar 1))) (aB (aOp (aIn id) (aVar 3) (aTup (aCons (aC (.d (.str "pact"))) (aCons (aC (.d (.str "end"))) (aCons (aC (.d (.str "choice"))) (aCons (aC (.d (.str "both"))) (aCons (aC (.d (.str "loop"))) (aCons (aC (.d (.str "use"))) aNil)))))))))) (aSeq (aSet 5 (aLc (aRng1 (aCons (aOp aAdd (aCB aLen (aCons (aVar 1) aNil)) (aC (.d (.int 1)))) aNil)) (aName 4) aYes (aOp aAdd (aC (.d (.str "q"))) (aCB aStrOf (aCons (aVar 4) aNil))) [4])) (aRet (aOp aIx (aLc (aIter (aVar 5)) (aName 6) (aB (aOp (aIn not) (aVar 6) (aVar 1))) (aVar 6) [6]) (aC (.d (.int 0)))))) aNext) (aRet (aVar 3))))))
theorem len__law_name : ∀ as κ R E', F__law_name as κ R E' → as.length = (["source", "taken"] : List Str).length := by
  rintro as κ R E' ⟨s, m, rfl, _⟩; rfl
def nmOf (z : Str) (i : Nat) : Prop := ∃ c r, tl z = c :: r ∧ low c ∧ (∀ x ∈ r, run x) ∧ r.length = i
theorem nmOf.len {z : Str} {i : Nat} (h : nmOf z i) : z.length = i + 1 := by
  obtain ⟨c, r, e, _, _, l⟩ := h
  rw [tl_len, e, List.length_cons, l]
theorem nmOf.snoc {z : Str} {i c : Nat} (h : nmOf z i) (hc : run c) : nmOf (z ++ ⟨#[c]⟩) (i + 1) := by
  obtain ⟨d, r, e, h1, h2, l⟩ := h
  refine ⟨d, r ++ [c], by rw [tl_app, e]; rfl, h1, fun x hx => ?_, by simp [l]⟩
  rcases List.mem_append.mp hx with z | z
  · exact h2 x z
  · rw [List.mem_singleton.mp z]; exact hc
theorem five {w : PyData} {v : Int} (h0 : 0 ≤ v) (h1 : v < 12) (h : w ∈ ([.int 0, .int 0, .int 1, .int 2, .int v] : List PyData)) : ∃ n : Int, w = .int n ∧ 0 ≤ n ∧ n ≤ 11 := by
  simp only [List.mem_cons, List.mem_nil_iff, or_false] at h
  rcases h with rfl | rfl | rfl | rfl | rfl <;> exact ⟨_, rfl, by omega, by omega⟩
theorem log_small {n : Int} (h0 : 0 ≤ n) (h : n < 20000) : n.natAbs.log2 < 1920 := by
  by_cases e : n.natAbs = 0
  · rw [e]; decide
  · exact Nat.lt_of_lt_of_le ((Nat.log2_lt e).mpr (show n.natAbs < 2 ^ 15 by omega)) (by decide)
theorem rd__law_name : ∀ as κ R E', F__law_name as κ R E' → a__law_name K (endsA K κ.length R) (startA N__law_name as) κ := by
  rintro as κ R E' ⟨s, tk, rfl, rfl, hs, htk, h⟩
  have fin : ∀ s z, isSrc s → isName z → z ∉ tk → (endsA K [s].length R).rt (.d (.str z)) [s] := fun s z h1 h2 h3 => ⟨_, _, GhR.refl (Nat.le_refl _), h _ _ h1 h2 h3⟩
  refine pick_w hs (by decide) (by decide) fun v s1 hs1 h0 h1 => ?_
  have la : (tl alnum).length = 36 := by rw [← tl_len]; exact alnum_len
  obtain ⟨c, hc, hm, hg⟩ := at_mem (xs := tl alnum) h0 (by omega)
  refine ⟨c, al_sl, hc, ?_⟩
  have hc1 := alnum_low v.toNat (by omega) c hg
  refine pick_w hs1 (by decide) (by decide) fun v2 s2 hs2 h20 h21 => ⟨(show 5 ≤ sizeLine by decide), ?_⟩
  refine pick_w hs2 (by decide) (by decide) fun v3 s3 hs3 h30 h31 => ?_
  obtain ⟨w, hw, hwm, _⟩ := at_mem (xs := ([.int 0, .int 0, .int 1, .int 2, .int v2] : List PyData)) h30 h31
  obtain ⟨n, rfl, hn0, hn1⟩ := five h20 h21 hwm
  refine ⟨_, hw, by omega, by omega, ?_⟩
  refine for_r (fun i δ κ => ∃ z k s, δ = [some (.c 0), some (.d (.list (tk.map .str))), some (.d (.str alnum)), some (.d (.str z)), k, none, none] ∧ κ = [s] ∧ isSrc s ∧ nmOf z i)
    ⟨_, _, s3, rfl, rfl, hs3, c, [], rfl, hc1, fun x hx => (by cases hx), rfl⟩ ?_ ?_
  · rintro δ κ ⟨z, k, s, rfl, rfl, hs, hz⟩ _
    refine ⟨rfl, flat_strs _, bsel_or (d := id (inD (.str z) (wordsL.map .str))) (fun ht => ?_) (fun ht => ?_) fun q => ⟨(show 6 ≤ sizeLine by decide), rfl, rfl, q⟩⟩
    · -- a spare name
      have ltk : (tk.map PyData.str).length = tk.length := List.length_map ..
      refine ⟨by omega, by omega, lc_r (fun i acc κ' => κ' = [s] ∧ acc = (List.range i).map fun i => .str (spare i)) ⟨rfl, rfl⟩ ?_ ?_⟩
      · rintro acc κ' ⟨rfl, rfl⟩
        rw [ltk]
        have e : ((tk.length : Int) + 1).toNat = tk.length + 1 := by omega
        rw [e]
        refine lc_d (fun i acc κ' => κ' = [s] ∧ ∃ l : List Str, acc = l.map .str ∧ l = (((List.range (tk.length + 1)).map spare).take i).filter fun x => decide (x ∉ tk)) ⟨rfl, [], rfl, rfl⟩ ?_ ?_
        · rintro acc κ' ⟨rfl, l, rfl, hl⟩
          rw [List.length_map, List.length_range, List.take_of_length_le (by simp)] at hl
          obtain ⟨i, hi, hf⟩ := spare_free tk
          have hmem : spare i ∈ l := by
            rw [hl, List.mem_filter]
            exact ⟨List.mem_map.mpr ⟨i, List.mem_range.mpr hi, rfl⟩, decide_eq_true hf⟩
          cases l with
          | nil => cases hmem
          | cons z0 l =>
            have hz0 : z0 ∈ ((List.range (tk.length + 1)).map spare).filter fun x => decide (x ∉ tk) := by rw [← hl]; exact List.mem_cons_self ..
            obtain ⟨y1, y2⟩ := List.mem_filter.mp hz0
            obtain ⟨j, hj, rfl⟩ := List.mem_map.mp y1
            rw [List.mem_range] at hj
            exact ⟨_, at_nat (j := 0) rfl, fin _ _ hs (spare_name (by omega)) (of_decide_eq_true y2)⟩
        · rintro i x acc κ' hx ⟨rfl, l, rfl, hl⟩
          rw [List.getElem?_map] at hx
          obtain ⟨j, hj, rfl⟩ := Option.map_eq_some_iff.mp hx
          have hlen : l.length ≤ 10001 := by
            rw [hl]
            refine Nat.le_trans (List.length_filter_le ..) (Nat.le_trans (List.length_take_le' ..) ?_)
            simp; omega
          have ht : ((List.range (tk.length + 1)).map spare)[i]? = some (spare j) := by rw [List.getElem?_map, hj]; rfl
          refine ⟨rfl, flat_strs _, bsel_i (fun hb => ⟨_, rfl, ?_, rfl, l ++ [spare j], by simp, ?_⟩) fun hb => ⟨rfl, l, rfl, ?_⟩⟩
          · rw [List.length_map]; exact Nat.lt_of_le_of_lt hlen (by decide)
          · rw [inD_str] at hb
            rw [List.take_add_one, ht, List.filter_append, ← hl]
            congr 1
            show [spare j] = List.filter _ [spare j]
            rw [List.filter_cons_of_pos (by simpa using hb)]; rfl
          · rw [inD_str] at hb
            rw [List.take_add_one, ht, List.filter_append, ← hl]
            show l = l ++ List.filter _ [spare j]
            rw [List.filter_cons_of_neg (by simpa using hb)]; simp
      · rintro i acc κ' hi ⟨rfl, rfl⟩
        have hi' : i < 10001 := by omega
        have e0 : (0 : Int) + (i : Int) = (i : Int) := Int.zero_add _
        rw [e0]
        refine ⟨log_small (by omega) (by omega), ?_, _, rfl, ?_, rfl, ?_⟩
        · have l1 : (Str.ofString (toString ((i : Nat) : Int))).length ≤ 6 := by
            rw [tl_len]
            show (TL.tl _).length ≤ 6
            rw [TL.tl_num]
            exact TL.numL_len (by decide) (by omega)
          have l2 : ("q" : Str).length = 1 := by decide +kernel
          exact sl100 (by omega)
        · rw [List.length_map, List.length_range]; exact Nat.lt_of_lt_of_le hi' (by decide)
        · rw [List.range_succ, List.map_append]; rfl
    · -- the name itself
      rw [Bool.or_eq_false_iff] at ht
      have h1 := ht.1
      have h2 := ht.2
      have h1' : inD (.str z) (tk.map .str) = false := h1
      have h2' : inD (.str z) (wordsL.map .str) = false := h2
      rw [inD_str] at h1' h2'
      obtain ⟨c, r, e1, e2, e3, e4⟩ := hz
      exact fin _ _ hs ⟨⟨c, r, e1, e2, e3, by omega⟩, of_decide_eq_false h2'⟩ (of_decide_eq_false h1')
  · rintro i δ κ hi ⟨z, k, s, rfl, rfl, hs, hz⟩ _
    refine pick_w hs (by decide) (by decide) fun v s1 hs1 h0 h1 => ?_
    obtain ⟨c, hc, hm, hg⟩ := at_mem (xs := tl alnum) h0 (by omega)
    refine ⟨c, al_sl, hc, ?_, _, _, s1, rfl, rfl, hs1, hz.snoc (alnum_mem.mp hm)⟩
    rw [hz.len]
    show i + 1 + 1 ≤ sizeLine
    exact sl100 (by omega)

/-! ### words spread over a text -/
def runFirst (w : Str) : Prop := ∃ c r, tl w = c :: r ∧ run c
def runLast (w : Str) : Prop := ∃ r c, tl w = r ++ [c] ∧ run c
abbrev Piece := Str × Str
def txt (ps : List Piece) : List Nat := ps.flatMap fun p => tl p.1 ++ tl p.2
/-- where the words stand -/
def plc (n : Nat) : List Piece → List Int
  | [] => []
  | p :: ps => ((n + p.1.length : Nat) : Int) :: plc (n + p.1.length + p.2.length) ps
theorem txt_snoc (ps : List Piece) (p : Piece) : txt (ps ++ [p]) = txt ps ++ (tl p.1 ++ tl p.2) := by
  unfold txt; rw [List.flatMap_append]; simp
theorem txt_len : ∀ ps : List Piece, (txt ps).length = (ps.map fun p => p.1.length + p.2.length).sum
  | [] => rfl
  | p :: ps => by
    have ih := txt_len ps
    unfold txt at ih ⊢
    rw [List.flatMap_cons, List.length_append, ih, List.length_append, ← tl_len, ← tl_len]; rfl
theorem plc_snoc : ∀ (n : Nat) (ps : List Piece) (p : Piece), plc n (ps ++ [p]) = plc n ps ++ [((n + (txt ps).length + p.1.length : Nat) : Int)]
  | n, [], p => rfl
  | n, q :: ps, p => by
    show _ :: plc _ (ps ++ [p]) = _ :: (plc _ ps ++ _)
    rw [plc_snoc _ ps p]
    congr 2
    have : (txt (q :: ps)).length = q.1.length + q.2.length + (txt ps).length := by
      unfold txt; rw [List.flatMap_cons, List.length_append, List.length_append, ← tl_len, ← tl_len]
    rw [this]
    congr 2; omega
def Sep (ps : List Piece) : Prop := ∀ (k : Nat) (p q : Piece), ps[k]? = some p → ps[k + 1]? = some q → runLast p.2 → runFirst q.2 → q.1 ≠ ""
structure Spread (ws : List Str) (text : Str) (places : List Int) : Prop where
  ex : ∃ (b0 bl : Str) (ps : List Piece), ps.map (·.2) = ws ∧ isBlank b0 ∧ isBlank bl ∧ (∀ p ∈ ps, isBlank p.1) ∧ Sep ps ∧ tl text = tl b0 ++ txt ps ++ tl bl ∧ places = plc b0.length ps
def F__law_spread : FSp := fun as κ R _ => ∃ (s : Cell) (ws : List Str), as = [.c 0, .d (.list (ws.map .str))] ∧ κ = [s] ∧ isSrc s ∧ ws.length ≤ 50000 ∧ (∀ w ∈ ws, w.length ≤ 100 ∧ w ≠ "") ∧
  ∀ text places s', isSrc s' → Spread ws text places → text.length ≤ 102 * ws.length + 4 → R (.d (.tuple [.str text, .list (places.map .int)])) [s']
abbrev N__law_spread : List Str := ["source", "words", "signs", "text", "places", "k"]
def a__law_spread (K : PySem.W.Frag) : AS :=
  (aSeq (aSet 2 (aC (.d (.str "abcdefghijklmnopqrstuvwxyz0123456789")))) (aSeq (aSet 3 (aCall F__law_blank (fun _ _ => False) (aCons (aVar 0) (aCons (aC (.d (.bool false))) aNil)))) (aSeq (aSet 4 (aLst aNil)) (aSeq (aFor (aRng1 (aCons (aCB aLen (aCons (aVar 1) aNil)) aNil)) (aName 5) (aSeq (aSet 3 (aOp aAdd (aVar 3) (aCall F__law_blank (fun _ _ => False) (aCons (aVar 0) (aCons (aAndV (aOp aGt (aVar 5) (aC (.d (.int 0)))) (aAndV (aOp (aIn id) (aOp aIx (aOp aIx (aVar 1) (aVar 5)) (aC (.d (.int 0)))) (aVar 2)) (aOp (aIn id) (aOp aIx (aOp aIx (aVar 1) (aOp aSub (aVar 5) (aC (.d (.int 1))))) (aUn aNeg (aC (.d (.int 1))))) (aVar 2)))) aNil))))) (aSeq (aDrop (aBM "list" aAppend (aVar 4) (aCons (aCB aLen (aCons (aVar 3) aNil)) aNil))) (aSet 3 (aOp aAdd (aVar 3) (aOp aIx (aVar 1) (aVar 5))))))) (aGh K (aRet (aTup (aCons (aOp aAdd (aVar 3) (aCall F__law_blank (fun _ _ => False) (aCons (aVar 0) (aCons (aC (.d (.bool false))) aNil)))) (aCons (aVar 4) aNil)))))))))
theorem len__law_spread : ∀ as κ R E', F__law_spread as κ R E' → as.length = (["source", "words"] : List Str).length := by
  rintro as κ R E' ⟨s, m, rfl, _⟩; rfl
theorem blank_w {s : Cell} {κr : AK} {b : Bool} {E : AX → AK → Prop} {R : AR} (hs : isSrc s) (k : ∀ z s', isSrc s' → isBlank z → (b = true → z ≠ "") → R (.d (.str z)) (s' :: κr)) : callW F__law_blank E [.c 0, .d (.bool b)] (s :: κr) R :=
  callW_i ⟨[0], _, _, by decide, rfl, sel0 hs, s, b, rfl, rfl, hs, fun z s' hs' hb hn => ⟨Nat.le_refl _, cl1 hs', rfl, k z s' hs' hb hn⟩⟩
theorem tl_empty : tl "" = [] := by decide +kernel
theorem ne_tl {w : Str} (h : w ≠ "") : tl w ≠ [] := fun e => h (tl_inj (e.trans tl_empty.symm))
theorem ne_first {w : Str} (h : w ≠ "") : ∃ c r, tl w = c :: r := by
  cases e : tl w with
  | nil => exact absurd e (ne_tl h)
  | cons c r => exact ⟨c, r, rfl⟩
theorem ne_last {w : Str} (h : w ≠ "") : ∃ r c, tl w = r ++ [c] := ⟨_, _, (List.dropLast_concat_getLast (ne_tl h)).symm⟩
theorem txt_le : ∀ {ps : List Piece}, (∀ p ∈ ps, isBlank p.1 ∧ p.2.length ≤ 100) → (txt ps).length ≤ 102 * ps.length
  | [], _ => Nat.le_refl _
  | p :: ps, h => by
    have ih := txt_le (ps := ps) fun q hq => h q (List.mem_cons_of_mem _ hq)
    obtain ⟨h1, h2⟩ := h p (List.mem_cons_self ..)
    have := h1.2
    unfold txt at ih ⊢
    rw [List.flatMap_cons, List.length_append, List.length_append, ← tl_len, ← tl_len, List.length_cons]
    omega
theorem andV_i {f g : AE} {δ : AD} {κ : AK} {R : AR} (a b : Bool) (hf : ∀ R', R' (.d (.bool a)) κ → f δ κ R') (hg : a = true → ∀ R', R' (.d (.bool b)) κ → g δ κ R') (h : R (.d (.bool (a && b))) κ) : aAndV f g δ κ R := by
  refine hf _ ?_
  cases a with
  | true => exact hg rfl _ h
  | false => exact h
theorem rd__law_spread : ∀ as κ R E', F__law_spread as κ R E' → a__law_spread K (endsA K κ.length R) (startA N__law_spread as) κ := by
  rintro as κ R E' ⟨s, ws, rfl, rfl, hs, hlen, hw, h⟩
  refine blank_w hs fun b0 s0 hs0 hb0 _ => ⟨Nat.zero_le _, ?_⟩
  have lw : (ws.map PyData.str).length = ws.length := List.length_map ..
  refine ⟨by omega, by omega, ?_⟩
  refine for_r (fun i δ κ => ∃ (text : Str) (s : Cell) (ps : List Piece) (k : Option AV), δ = [some (.c 0), some (.d (.list (ws.map .str))), some (.d (.str alnum)), some (.d (.str text)), some (.c 1), k] ∧
      κ = [s, .ld ((plc b0.length ps).map .int)] ∧ isSrc s ∧ ps.map (·.2) = ws.take i ∧ (∀ p ∈ ps, isBlank p.1) ∧ Sep ps ∧ tl text = tl b0 ++ txt ps)
    ⟨b0, s0, [], none, rfl, rfl, hs0, rfl, fun p hp => (by cases hp), fun k p q h => (by simp at h), by simp [txt]⟩ ?_ ?_
  · rintro δ κ ⟨text, s, ps, k, rfl, rfl, hs, hps, hb, hsep, ht⟩ _
    have e : ((ws.map PyData.str).length : Int).toNat = ws.length := by omega
    rw [e, List.take_length] at hps
    refine ⟨_, _, GhS.freeze (show 1 ≤ 2 by decide) 1 _ rfl, ?_⟩
    refine blank_w hs.fz fun bl s2 hs2 hbl _ => ?_
    have pl : ps.length = ws.length := by rw [← hps, List.length_map]
    have t1 : text.length = b0.length + (txt ps).length := by rw [tl_len, ht, List.length_append, ← tl_len]
    have t2 : (txt ps).length ≤ 102 * ps.length := txt_le fun p hp => ⟨hb p hp, (hw p.2 (by rw [← hps]; exact List.mem_map.mpr ⟨p, hp, rfl⟩)).1⟩
    have h1 := hb0.2
    have h2 := hbl.2
    refine ⟨Nat.le_trans (show text.length + bl.length ≤ 6000000 by omega) (by decide), (show 2 ≤ sizeLine by decide), _, _, GhR.take 1 (Nat.le_refl _) (show 1 ≤ 2 by decide) (cl1_ok hs2) rfl, h _ _ _ hs2 ⟨b0, bl, ps, hps, hb0, hbl, hb, hsep, by rw [tl_app, ht], rfl⟩ ?_⟩
    show (text ++ bl).length ≤ _
    rw [tl_len, tl_app, List.length_append, ← tl_len, ← tl_len]; omega
  · rintro i δ κ hi ⟨text, s, ps, k, rfl, rfl, hs, hps, hb, hsep, ht⟩ _
    have hi' : i < ws.length := by omega
    have ei : (0 : Int) + (i : Int) = (i : Int) := Int.zero_add _
    rw [ei]
    have hwi : (ws.map PyData.str)[i]? = some (.str ws[i]) := by rw [List.getElem?_map, List.getElem?_eq_getElem hi']; rfl
    obtain ⟨hl1, hne⟩ := hw _ (List.getElem_mem hi')
    obtain ⟨c, r, ec⟩ := ne_first hne
    have pl : ps.length = i := by
      have := congrArg List.length hps
      rw [List.length_map, List.length_take] at this; omega
    have t1 : text.length = b0.length + (txt ps).length := by rw [tl_len, ht, List.length_append, ← tl_len]
    have t2 : (txt ps).length ≤ 102 * ps.length := txt_le fun p hp => ⟨hb p hp, (hw p.2 (List.mem_of_mem_take (by rw [← hps]; exact List.mem_map.mpr ⟨p, hp, rfl⟩))).1⟩
    have h1 := hb0.2
    have hc0 : atI (tl ws[i]) 0 = some c := at_nat (j := 0) (by rw [ec]; rfl)
    -- the blank's condition
    have cond : ∃ least : Bool, (∀ p, ps[i - 1]? = some p → 0 < i → runLast p.2 → runFirst ws[i] → least = true) ∧ ∀ R' : AR, R' (.d (.bool least)) [s, .ld ((plc b0.length ps).map .int)] →
        aAndV (aOp aGt (aVar 5) (aC (.d (.int 0)))) (aAndV (aOp (aIn id) (aOp aIx (aOp aIx (aVar 1) (aVar 5)) (aC (.d (.int 0)))) (aVar 2)) (aOp (aIn id) (aOp aIx (aOp aIx (aVar 1) (aOp aSub (aVar 5) (aC (.d (.int 1))))) (aUn aNeg (aC (.d (.int 1))))) (aVar 2)))
          [some (.c 0), some (.d (.list (ws.map .str))), some (.d (.str alnum)), some (.d (.str text)), some (.c 1), some (.d (.int i))] [s, .ld ((plc b0.length ps).map .int)] R' := by
      by_cases h0 : i = 0
      · refine ⟨false, fun _ _ z => absurd h0 (by omega), fun R' h => andV_i false true (fun R2 h2 => ?_) (fun z => by cases z) h⟩
        show R2 (.d (.bool (decide ((0 : Int) < (i : Int))))) _
        rw [decide_eq_false (by omega)]; exact h2
      · have hj : i - 1 < ws.length := by omega
        obtain ⟨hlj, hnj⟩ := hw _ (List.getElem_mem hj)
        obtain ⟨r', c', ec'⟩ := ne_last hnj
        have hwj : (ws.map PyData.str)[i - 1]? = some (.str ws[i - 1]) := by rw [List.getElem?_map, List.getElem?_eq_getElem hj]; rfl
        refine ⟨true && (decide (c ∈ tl alnum) && decide (c' ∈ tl alnum)), fun p hp _ hl hf => ?_, fun R' h => andV_i true _ (fun R2 h2 => ?_) (fun _ R2 h2 => andV_i _ _ (fun R3 h3 => ?_) (fun _ R3 h3 => ?_) h2) h⟩
        · have e2 : p.2 = ws[i - 1] := by
            have := congrArg (fun l => l[i - 1]?) hps
            simp only [List.getElem?_map, hp, List.getElem?_take_of_lt (show i - 1 < i by omega), List.getElem?_eq_getElem hj] at this
            exact Option.some.inj this
          rw [e2] at hl
          obtain ⟨r2, c2, y1, y2⟩ := hl
          obtain ⟨c3, r3, y3, y4⟩ := hf
          rw [ec] at y3; cases y3
          rw [ec'] at y1
          obtain ⟨_, y5⟩ := List.append_inj' y1 rfl
          cases y5
          rw [Bool.true_and, Bool.and_eq_true, decide_eq_true_eq, decide_eq_true_eq]
          exact ⟨alnum_mem.mpr y4, alnum_mem.mpr y2⟩
        · show R2 (.d (.bool (decide ((0 : Int) < (i : Int))))) _
          rw [decide_eq_true (by omega)]; exact h2
        · exact ⟨_, at_nat hwi, c, sl100 (by omega), hc0, c, rfl, h3⟩
        · have ej : ((i : Int) - 1) = ((i - 1 : Nat) : Int) := by omega
          have hjv : atI (ws.map PyData.str) ((i : Int) - 1) = some (.str ws[i - 1]) := by rw [ej]; exact at_nat hwj
          refine ⟨_, hjv, c', sl100 (by omega), (by rw [show (ws[i - 1]).cps.toList = r' ++ [c'] from ec']; exact atI_last _ _), c', rfl, h3⟩
    obtain ⟨least, hleast, hcond⟩ := cond
    refine hcond _ (blank_w hs fun bl s2 hs2 hbl hn => ?_)
    have h2 := hbl.2
    refine ⟨Nat.le_trans (show text.length + bl.length ≤ 6000000 by omega) (by decide), ?_⟩
    have ltb : (text ++ bl).length = text.length + bl.length := by rw [tl_len, tl_app, List.length_append, ← tl_len, ← tl_len]
    refine ⟨rfl, Nat.le_trans (show (text ++ bl).length ≤ 6000000 by omega) (by decide), ?_, _, at_nat hwi, Nat.le_trans (show (text ++ bl).length + (ws[i]).length ≤ 6000000 by omega) (by decide), text ++ bl ++ ws[i], s2, ps ++ [(bl, ws[i])], _, rfl, ?_, hs2, ?_, ?_, ?_, ?_⟩
    · have lp : (plc b0.length ps).length = ps.length := by
        have : ∀ (n : Nat) (l : List Piece), (plc n l).length = l.length := by
          intro n l
          induction l generalizing n with
          | nil => rfl
          | cons p l ih => show (plc _ l).length + 1 = _; rw [ih]; rfl
        exact this _ _
      rw [List.length_map, lp]
      exact Nat.lt_of_lt_of_le (show ps.length < 60000 by omega) (by decide)
    · rw [plc_snoc, List.map_append]
      show [s2, Cell.ld (_ ++ [PyData.int ((text ++ bl).length : Nat)])] = _
      rw [ltb, t1]; rfl
    · rw [List.map_append, hps]
      show _ ++ [ws[i]] = _
      rw [List.take_add_one, List.getElem?_eq_getElem hi']; rfl
    · intro p hp
      rcases List.mem_append.mp hp with z | z
      · exact hb p z
      · rw [List.mem_singleton.mp z]; exact hbl
    · intro k p q hk hk1 hl hf
      by_cases hlt : k + 1 < ps.length
      · rw [List.getElem?_append_left (by omega)] at hk hk1
        exact hsep k p q hk hk1 hl hf
      · have hb' := (List.getElem?_eq_some_iff.mp hk1).1
        rw [List.length_append] at hb'
        have hb2 : ([(bl, ws[i])] : List Piece).length = 1 := rfl
        have ek : k + 1 = ps.length := by omega
        rw [List.getElem?_append_right (by omega), ek, Nat.sub_self] at hk1
        cases hk1
        rw [List.getElem?_append_left (by omega)] at hk
        have : k = i - 1 := by omega
        subst this
        exact hn (hleast p hk (by omega) hl hf)
    · rw [tl_app, tl_app, ht, txt_snoc]; simp

/-! ### the same -/
/-- data of a depth below n, lists not longer than a range may be -/
def sdep : Nat → PyData → Prop
  | 0, _ => False
  | n + 1, .list ds => ds.length < 2 ^ 62 ∧ ∀ d ∈ ds, sdep n d
  | n + 1, .tuple ds => ds.length < 2 ^ 62 ∧ ∀ d ∈ ds, sdep n d
  | _ + 1, .dict _ => False
  | _ + 1, _ => True
def F_same (n : Nat) : FSp := fun as κ R _ => ∃ d, sdep n d ∧ R (.d (.bool true)) κ ∧ ((as = [.d d, .d d] ∧ κ = []) ∨ (∃ ds, d = .list ds ∧ as = [.c 0, .d d] ∧ κ = [.ld ds]) ∨ ∃ x ds, d = .tuple [x, .list ds] ∧ as = [.c 0, .d d] ∧ κ = [.tup [.d x, .c 1], .ld ds])
def F__law_same : FSp := F_same 5
theorem sdep_mono : ∀ {n : Nat} {d : PyData}, sdep n d → sdep (n + 1) d
  | 0, _, h => h.elim
  | n + 1, .list ds, h => ⟨h.1, fun d hd => sdep_mono (h.2 d hd)⟩
  | n + 1, .tuple ds, h => ⟨h.1, fun d hd => sdep_mono (h.2 d hd)⟩
  | _ + 1, .dict _, h => h.elim
  | _ + 1, .none, _ => trivial
  | _ + 1, .bool _, _ => trivial
  | _ + 1, .int _, _ => trivial
  | _ + 1, .str _, _ => trivial
theorem len__law_same (n : Nat) : ∀ as κ R E', F_same n as κ R E' → as.length = (["actual", "due"] : List Str).length := by
  rintro as κ R E' ⟨d, _, _, ⟨rfl, _⟩ | ⟨ds, _, rfl, _⟩ | ⟨x, ds, _, rfl, _⟩⟩ <;> rfl
theorem rd0__law_same {as : List AV} {κ : AK} {R : AR} {E' : AX → AK → Prop} (h : F_same 0 as κ R E') : False := by
  obtain ⟨d, h, _⟩ := h; exact h
theorem same_w {n : Nat} {d : PyData} {κ : AK} {R : AR} {E : AX → AK → Prop} (hd : sdep n d) (h : R (.d (.bool true)) κ) : callW (F_same n) E [.d d, .d d] κ R :=
  callW_i ⟨[], _, _, .nil, rfl, rfl, d, hd, ⟨Nat.zero_le _, rfl, rfl, h⟩, .inl ⟨rfl, rfl⟩⟩
theorem tru_of {f : AE} {δ : AD} {κ : AK} {R : Bool → AK → Prop} (b : Bool) (h : f δ κ fun a κ1 => a = .d (.bool b) ∧ R b κ1) (mono : ∀ P Q : AR, (∀ a κ, P a κ → Q a κ) → f δ κ P → f δ κ Q) : aTru f δ κ R := mono _ _ (fun a κ1 ⟨e, q⟩ => by subst e; exact q) h
theorem kb_b : kitB "bool" "bool" = some true := by decide +kernel
theorem kb_i : kitB "int" "bool" = some false := by decide +kernel
theorem kb_s : kitB "str" "bool" = some false := by decide +kernel
theorem kb_l : kitB "list" "bool" = some false := by decide +kernel
theorem kb_t : kitB "tuple" "bool" = some false := by decide +kernel
theorem ki_i : kitB "int" "int" = some true := by decide +kernel
theorem ki_s : kitB "str" "int" = some false := by decide +kernel
theorem ki_l : kitB "list" "int" = some false := by decide +kernel
theorem ki_t : kitB "tuple" "int" = some false := by decide +kernel
theorem ks_s : kitB "str" "str" = some true := by decide +kernel
theorem ks_l : kitB "list" "str" = some false := by decide +kernel
theorem ks_t : kitB "tuple" "str" = some false := by decide +kernel
theorem kl_l : kitB "list" "list" = some true := by decide +kernel
theorem kl_t : kitB "tuple" "list" = some false := by decide +kernel
theorem kt_l : kitB "list" "tuple" = some false := by decide +kernel
theorem kt_t : kitB "tuple" "tuple" = some true := by decide +kernel
abbrev N__law_same : List Str := ["actual", "due", "k"]
def a__law_same (K : PySem.W.Frag) (F_self : FSp) : AS :=
  (aSeq (aIfS (aB (aOp (aIsN id) (aVar 1) (aC (.d .none)))) (aRet (aOp (aIsN id) (aVar 0) (aC (.d .none)))) aNext) (aSeq (aIfS (aTru (aCB aIsi (aCons (aVar 1) (aCons (aC (.r (.ty "bool"))) aNil)))) (aRet (aAndV (aCB aIsi (aCons (aVar 0) (aCons (aC (.r (.ty "bool"))) aNil))) (aOp aEq (aVar 0) (aVar 1)))) aNext) (aSeq (aIfS (aTru (aCB aIsi (aCons (aVar 1) (aCons (aC (.r (.ty "int"))) aNil)))) (aRet (aAndV (aCB aIsi (aCons (aVar 0) (aCons (aC (.r (.ty "int"))) aNil))) (aAndV (aNotV (aCB aIsi (aCons (aVar 0) (aCons (aC (.r (.ty "bool"))) aNil)))) (aOp aEq (aVar 0) (aVar 1))))) aNext) (aSeq (aIfS (aTru (aCB aIsi (aCons (aVar 1) (aCons (aC (.r (.ty "str"))) aNil)))) (aRet (aAndV (aCB aIsi (aCons (aVar 0) (aCons (aC (.r (.ty "str"))) aNil))) (aOp aEq (aVar 0) (aVar 1)))) aNext) (aSeq (aIfS (aOr (aB (aOp aNe (aCB aIsi (aCons (aVar 1) (aCons (aC (.r (.ty "list"))) aNil))) (aCB aIsi (aCons (aVar 0) (aCons (aC (.r (.ty "list"))) aNil))))) (aB (aOp aNe (aCB aIsi (aCons (aVar 1) (aCons (aC (.r (.ty "tuple"))) aNil))) (aCB aIsi (aCons (aVar 0) (aCons (aC (.r (.ty "tuple"))) aNil)))))) (aRet (aC (.d (.bool false)))) aNext) (aSeq (aIfS (aB (aOp aNe (aCB aLen (aCons (aVar 0) aNil)) (aCB aLen (aCons (aVar 1) aNil)))) (aRet (aC (.d (.bool false)))) aNext) (aSeq (aFor (aRng1 (aCons (aCB aLen (aCons (aVar 1) aNil)) aNil)) (aName 2) (aIfS (aNot (aTru (aCall F_self (fun _ _ => False) (aCons (aOp aIx (aVar 0) (aVar 2)) (aCons (aOp aIx (aVar 1) (aVar 2)) aNil))))) (aRet (aC (.d (.bool false)))) aNext)) (aRet (aC (.d (.bool true)))))))))))
theorem rd__law_same (n : Nat) : ∀ as κ R E', F_same (n + 1) as κ R E' → a__law_same K (F_same n) (endsA K κ.length R) (startA N__law_same as) κ := by
  rintro as κ R E' ⟨d, hd, hR, hv⟩
  have fin : (endsA K κ.length R).rt (.d (.bool true)) κ := ⟨_, _, GhR.refl (Nat.le_refl _), hR⟩
  have eqt : ∀ b : Bool, b = true → (endsA K κ.length R).rt (.d (.bool b)) κ := fun b e => by subst e; exact fin
  -- the items, one by one
  have items : ∀ (a b : AV) (ds : List PyData), ds.length < 2 ^ 62 → (∀ x ∈ ds, sdep n x) → ((a = .d (.list ds) ∧ b = .d (.list ds)) ∨ (a = .d (.tuple ds) ∧ b = .d (.tuple ds)) ∨ (a = .c 0 ∧ b = .d (.list ds) ∧ κ = [.ld ds])) →
      ForW (itR 0 ds.length) (aName 2) (aIfS (aNot (aTru (aCall (F_same n) (fun _ _ => False) (aCons (aOp aIx (aVar 0) (aVar 2)) (aCons (aOp aIx (aVar 1) (aVar 2)) aNil))))) (aRet (aC (.d (.bool false)))) aNext)
        { n := κ.length, nx := aRet (aC (.d (.bool true))) (endsA K κ.length R), rt := (endsA K κ.length R).rt, bk := (endsA K κ.length R).bk, ct := (endsA K κ.length R).ct } κ.length [some a, some b, none] κ := by
    intro a b ds hl hs hab
    refine for_r (fun i δ κ' => ∃ k, δ = [some a, some b, k] ∧ κ' = κ) ⟨none, rfl, rfl⟩ ?_ ?_
    · rintro δ κ' ⟨k, rfl, rfl⟩ _
      exact fin
    · rintro i δ κ' hi ⟨k, rfl, e⟩ _
      have e0 : (0 : Int) + (i : Int) = (i : Int) := Int.zero_add _
      have hx := List.getElem?_eq_getElem hi
      have hsi := hs _ (List.getElem_mem hi)
      rw [e0]
      rcases hab with ⟨rfl, rfl⟩ | ⟨rfl, rfl⟩ | ⟨rfl, rfl, rfl⟩
      · exact ⟨_, at_nat hx, _, at_nat hx, same_w hsi ⟨_, rfl, e⟩⟩
      · exact ⟨_, at_nat hx, _, at_nat hx, same_w hsi ⟨_, rfl, e⟩⟩
      · subst e; exact ⟨_, at_nat hx, _, at_nat hx, same_w hsi ⟨_, rfl, rfl⟩⟩
  rcases hv with ⟨rfl, rfl⟩ | ⟨ds, rfl, rfl, rfl⟩ | ⟨x, ds, rfl, rfl, rfl⟩
  · cases d with
    | none => exact fin
    | bool b => exact ⟨true, kb_b, true, kb_b, eqt _ (decide_eq_true rfl)⟩
    | int i => exact ⟨false, kb_i, true, ki_i, true, ki_i, false, kb_i, eqt _ (decide_eq_true rfl)⟩
    | str z => exact ⟨false, kb_s, false, ki_s, true, ks_s, true, ks_s, eqt _ (decide_eq_true rfl)⟩
    | list ds =>
      refine ⟨false, kb_l, false, ki_l, false, ks_l, true, kl_l, true, kl_l, false, kt_l, false, kt_l, bsel_i (fun h => by simp at h) fun _ => ?_⟩
      obtain ⟨hl, hs⟩ := hd
      refine ⟨by omega, by omega, ?_⟩
      exact items _ _ ds hl hs (.inl ⟨rfl, rfl⟩)
    | tuple ds =>
      refine ⟨false, kb_t, false, ki_t, false, ks_t, false, kl_t, false, kl_t, true, kt_t, true, kt_t, bsel_i (fun h => by simp at h) fun _ => ?_⟩
      obtain ⟨hl, hs⟩ := hd
      refine ⟨by omega, by omega, ?_⟩
      exact items _ _ ds hl hs (.inr (.inl ⟨rfl, rfl⟩))
    | dict _ => exact hd.elim
  · refine ⟨false, kb_l, false, ki_l, false, ks_l, true, kl_l, true, kl_l, false, kt_l, false, kt_l, bsel_i (fun h => by simp at h) fun _ => ?_⟩
    obtain ⟨hl, hs⟩ := hd
    refine ⟨by omega, by omega, ?_⟩
    exact items _ _ ds hl hs (.inr (.inr ⟨rfl, rfl, rfl⟩))
  · refine ⟨false, kb_t, false, ki_t, false, ks_t, false, kl_t, false, kl_t, true, kt_t, true, kt_t, ?_⟩
    obtain ⟨hl, hs⟩ := hd
    refine ⟨(show -(2 ^ 62) ≤ (2 : Int) by decide), (show (2 : Int) < 2 ^ 62 by decide), ?_⟩
    refine for_r (fun i δ κ' => ∃ k, δ = [some (.c 0), some (.d (.tuple [x, .list ds])), k] ∧ κ' = [.tup [.d x, .c 1], .ld ds]) ⟨none, rfl, rfl⟩ ?_ ?_
    · rintro δ κ' ⟨k, rfl, rfl⟩ _
      exact fin
    · rintro i δ κ' hi ⟨k, rfl, rfl⟩ _
      have hi : i < 2 := hi
      have hx := hs x (by simp)
      have hds := hs (.list ds) (by simp)
      have e : i = 0 ∨ i = 1 := by omega
      rcases e with rfl | rfl
      · exact ⟨_, at_nat (j := 0) rfl, _, at_nat (j := 0) rfl, same_w hx ⟨_, rfl, rfl⟩⟩
      · exact ⟨_, at_nat (j := 1) rfl, _, at_nat (j := 1) rfl, callW_i ⟨[1], _, _, by decide, rfl, rfl, .list ds, hds, ⟨Nat.le_refl _, rfl, rfl, ⟨_, rfl, rfl⟩⟩, .inr (.inl ⟨ds, rfl, rfl, rfl⟩)⟩⟩
theorem imp__law_same : ∀ as κ R E', F__law_same as κ R E' → F_same 5 as κ R E' := fun _ _ _ _ h => h
theorem source_w {ns : List Int} {κ : AK} {R : AR} {E : AX → AK → Prop} (h : ∀ s, isSrc s → R (.c κ.length) (κ ++ [s])) : callW F__law_source E [.d (.list (ns.map .int))] κ R :=
  callW_i ⟨[], _, _, .nil, rfl, rfl, ns, rfl, rfl, fun s hs => ⟨Nat.zero_le _, cl1 hs, List.all_eq_true.mpr fun c hc => (by have hc : c ∈ [s] := hc; rw [List.mem_singleton.mp hc]; exact hs.cl.2), h s hs⟩⟩
theorem name_w {s : Cell} {κr : AK} {tk : List Str} {E : AX → AK → Prop} {R : AR} (hs : isSrc s) (ht : tk.length ≤ 10000) (k : ∀ z s', isSrc s' → isName z → z ∉ tk → R (.d (.str z)) (s' :: κr)) : callW F__law_name E [.c 0, .d (.list (tk.map .str))] (s :: κr) R :=
  callW_i ⟨[0], _, _, by decide, rfl, sel0 hs, s, tk, rfl, rfl, hs, ht, fun z s' hs' hb hn => ⟨Nat.le_refl _, cl1 hs', rfl, k z s' hs' hb hn⟩⟩
theorem spread_w {s : Cell} {κr : AK} {ws : List Str} {E : AX → AK → Prop} {R : AR} (hs : isSrc s) (h1 : ws.length ≤ 50000) (h2 : ∀ w ∈ ws, w.length ≤ 100 ∧ w ≠ "")
    (k : ∀ text places s', isSrc s' → Spread ws text places → text.length ≤ 102 * ws.length + 4 → R (.d (.tuple [.str text, .list (places.map .int)])) (s' :: κr)) : callW F__law_spread E [.c 0, .d (.list (ws.map .str))] (s :: κr) R :=
  callW_i ⟨[0], _, _, by decide, rfl, sel0 hs, s, ws, rfl, rfl, hs, h1, h2, fun t p s' hs' hb hn => ⟨Nat.le_refl _, cl1 hs', rfl, k t p s' hs' hb hn⟩⟩
end Com
set_option Elab.async false
set_option linter.all false
set_option maxRecDepth 100000
set_option maxHeartbeats 4000000
/-! Com2: texts joined, trees of pacts, the drawing of bodies: what the laws share -/
namespace Com
open PySem L2 Ab
variable {K : PySem.W.Frag}
/-! ### texts -/
theorem slen_app (a b : Str) : (a ++ b).length = a.length + b.length := by rw [tl_len, tl_app, List.length_append, ← tl_len, ← tl_len]
theorem emp_app (a : Str) : Str.empty ++ a = a := tl_inj (by rw [tl_app]; rfl)
theorem app_assoc (a b c : Str) : a ++ b ++ c = a ++ (b ++ c) := tl_inj (by simp only [tl_app, List.append_assoc])
theorem tl_tjoin (s : Str) (ys : List Str) : tl (Txt.join s ys) = TL.joinL (tl s) (ys.map tl) := by
  rw [TL.join_eq]; exact TL.tl_join s ys
theorem joinL_len (S : List Nat) : ∀ ps : List (List Nat), (TL.joinL S ps).length ≤ (ps.map fun p => p.length + S.length).sum
  | [] => Nat.le_refl _
  | [p] => by show p.length ≤ (p.length + S.length) + 0; omega
  | p :: q :: r => by
    have ih := joinL_len S (q :: r)
    show (p ++ (S ++ TL.joinL S (q :: r))).length ≤ _
    rw [List.map_cons, List.sum_cons, List.length_append, List.length_append]
    omega
theorem tjoin_len (s : Str) (ys : List Str) : (Txt.join s ys).length ≤ (ys.map fun y => y.length + s.length).sum := by
  have h := joinL_len (tl s) (ys.map tl)
  rw [← tl_tjoin, ← tl_len, List.map_map] at h
  refine Nat.le_trans h (Nat.le_of_eq ?_)
  refine congrArg List.sum (List.map_congr_left fun y _ => ?_)
  show (tl y).length + (tl s).length = _
  rw [← tl_len, ← tl_len]
theorem joinL_snoc (S p : List Nat) : ∀ ps : List (List Nat), TL.joinL S (ps ++ [p]) = if ps = [] then p else TL.joinL S ps ++ (S ++ p)
  | [] => rfl
  | [q] => rfl
  | q :: q2 :: r => by
    have ih := joinL_snoc S p (q2 :: r)
    show q ++ (S ++ TL.joinL S ((q2 :: r) ++ [p])) = (q ++ (S ++ TL.joinL S (q2 :: r))) ++ (S ++ p)
    rw [ih, if_neg (by simp)]
    simp only [List.append_assoc]
theorem tjoin_snoc (s y : Str) (ys : List Str) : Txt.join s (ys ++ [y]) = if ys = [] then y else Txt.join s ys ++ s ++ y := by
  apply tl_inj
  rw [tl_tjoin, List.map_append]
  show TL.joinL (tl s) (ys.map tl ++ [tl y]) = _
  rw [joinL_snoc]
  cases ys with
  | nil => rfl
  | cons z zs => rw [if_neg (by simp), if_neg (by simp), tl_app, tl_app, tl_tjoin, List.append_assoc]
theorem tjoin_nil (s : Str) : Txt.join s [] = Str.empty := tl_inj (by rw [tl_tjoin]; rfl)
theorem tjoin_one (s y : Str) : Txt.join s [y] = y := tl_inj (by rw [tl_tjoin]; rfl)
theorem sum_le {α : Type} {f g : α → Nat} : ∀ {xs : List α}, (∀ x ∈ xs, f x ≤ g x) → (xs.map f).sum ≤ (xs.map g).sum
  | [], _ => Nat.le_refl _
  | x :: xs, h => by
    have h1 := h x (List.mem_cons_self ..)
    have h2 := sum_le (xs := xs) fun z hz => h z (List.mem_cons_of_mem _ hz)
    rw [List.map_cons, List.map_cons, List.sum_cons, List.sum_cons]; omega
theorem sum_mul {α : Type} (c : Nat) (g : α → Nat) : ∀ xs : List α, (xs.map fun x => c * g x).sum = c * (xs.map g).sum
  | [] => rfl
  | x :: xs => by rw [List.map_cons, List.map_cons, List.sum_cons, List.sum_cons, sum_mul c g xs, Nat.mul_add]
theorem sum_addc {α : Type} (c : Nat) (g : α → Nat) : ∀ xs : List α, (xs.map fun x => g x + c).sum = (xs.map g).sum + c * xs.length
  | [] => rfl
  | x :: xs => by rw [List.map_cons, List.map_cons, List.sum_cons, List.sum_cons, sum_addc c g xs, List.length_cons, Nat.mul_add]; omega
theorem sum_const {α : Type} (c : Nat) : ∀ xs : List α, (xs.map fun _ => c).sum = c * xs.length
  | [] => rfl
  | x :: xs => by rw [List.map_cons, List.sum_cons, sum_const c xs, List.length_cons, Nat.mul_add]; omega
theorem l0 : (Str.empty).length = 0 := rfl
theorem l1 : ("(" : Str).length = 1 := by decide +kernel
theorem l2 : (")" : Str).length = 1 := by decide +kernel
theorem l3 : (", " : Str).length = 2 := by decide +kernel
theorem l4 : (" {" : Str).length = 2 := by decide +kernel
theorem l5 : ("}" : Str).length = 1 := by decide +kernel
theorem l6 : (" | " : Str).length = 3 := by decide +kernel
theorem l7 : (" -> " : Str).length = 4 := by decide +kernel
theorem l8 : (": " : Str).length = 2 := by decide +kernel
theorem l9 : ("use " : Str).length = 4 := by decide +kernel
theorem l10 : ("; " : Str).length = 2 := by decide +kernel
theorem l11 : ("loop {" : Str).length = 6 := by decide +kernel
theorem l12 : ("loop" : Str).length = 4 := by decide +kernel
theorem l13 : ("choice" : Str).length = 6 := by decide +kernel
theorem l14 : ("both" : Str).length = 4 := by decide +kernel
theorem l15 : ("pact " : Str).length = 5 := by decide +kernel
theorem l16 : (" end" : Str).length = 4 := by decide +kernel
theorem l17 : (" " : Str).length = 1 := by decide +kernel
theorem l18 : ("pact" : Str).length = 4 := by decide +kernel
theorem l19 : ("end" : Str).length = 3 := by decide +kernel
theorem l20 : ("\n" : Str).length = 1 := by decide +kernel
theorem l21 : ("" : Str).length = 0 := by decide +kernel
/-! ### trees -/
inductive Tr where
  | letter (a b c : Str)
  | use (n : Str) (qs : List Str)
  | loop (b : List Tr)
  | br (w : Bool) (bs : List (List Tr))
def brW (w : Bool) : Str := if w = true then "both" else "choice"
/-! a tree as data; letters and steps counted; depth; what a body may have: of the parties, of the pacts known -/
mutual
def dS : Tr → PyData
  | .letter a b c => .tuple [.str "letter", .str a, .str b, .str c]
  | .use n qs => .tuple [.str "use", .str n, .tuple (qs.map .str)]
  | .loop b => .tuple [.str "loop", .tuple (dB b)]
  | .br w bs => .tuple [.str (brW w), .tuple (dBs bs)]
def dB : List Tr → List PyData
  | [] => []
  | s :: b => dS s :: dB b
def dBs : List (List Tr) → List PyData
  | [] => []
  | b :: bs => .tuple (dB b) :: dBs bs
end
mutual
def szS : Tr → Nat
  | .letter _ _ _ => 1
  | .use _ _ => 1
  | .loop b => szB b + 1
  | .br _ bs => szBs bs + 1
def szB : List Tr → Nat
  | [] => 0
  | s :: b => szS s + szB b
def szBs : List (List Tr) → Nat
  | [] => 0
  | b :: bs => szB b + szBs bs
end
mutual
def dpS : Tr → Nat
  | .letter _ _ _ => 0
  | .use _ _ => 0
  | .loop b => dpB b + 1
  | .br _ bs => dpBs bs + 1
def dpB : List Tr → Nat
  | [] => 0
  | s :: b => max (dpS s) (dpB b)
def dpBs : List (List Tr) → Nat
  | [] => 0
  | b :: bs => max (dpB b) (dpBs bs)
end
mutual
def okS (ps : List Str) (er : List (Str × Nat)) : Tr → Prop
  | .letter a b c => a ∈ ps ∧ b ∈ ps ∧ a ≠ b ∧ isName c
  | .use n qs => (n, qs.length) ∈ er ∧ qs.Nodup ∧ ∀ q ∈ qs, q ∈ ps
  | .loop b => okB ps er b
  | .br _ bs => bs ≠ [] ∧ bs.length ≤ 3 ∧ okBs ps er bs
def okB (ps : List Str) (er : List (Str × Nat)) : List Tr → Prop
  | [] => True
  | s :: b => okS ps er s ∧ okB ps er b
def okBs (ps : List Str) (er : List (Str × Nat)) : List (List Tr) → Prop
  | [] => True
  | b :: bs => okB ps er b ∧ okBs ps er bs
end
theorem dB_map (b : List Tr) : dB b = b.map dS := by
  induction b with
  | nil => rfl
  | cons s b ih => show dS s :: dB b = _; rw [ih]; rfl
theorem dBs_map (bs : List (List Tr)) : dBs bs = bs.map fun b => .tuple (dB b) := by
  induction bs with
  | nil => rfl
  | cons s b ih => show .tuple (dB s) :: dBs b = _; rw [ih]; rfl
theorem szB_map (b : List Tr) : szB b = (b.map szS).sum := by
  induction b with
  | nil => rfl
  | cons s b ih => show szS s + szB b = _; rw [ih]; rfl
theorem szBs_map (bs : List (List Tr)) : szBs bs = (bs.map szB).sum := by
  induction bs with
  | nil => rfl
  | cons s b ih => show szB s + szBs b = _; rw [ih]; rfl
theorem okB_all {ps er} {b : List Tr} : okB ps er b ↔ ∀ s ∈ b, okS ps er s := by
  induction b with
  | nil => exact ⟨(fun _ s hs => by cases hs), fun _ => trivial⟩
  | cons s b ih =>
    show okS ps er s ∧ okB ps er b ↔ _
    rw [ih, List.forall_mem_cons]
theorem okBs_all {ps er} {bs : List (List Tr)} : okBs ps er bs ↔ ∀ b ∈ bs, okB ps er b := by
  induction bs with
  | nil => exact ⟨(fun _ s hs => by cases hs), fun _ => trivial⟩
  | cons s b ih =>
    show okB ps er s ∧ okBs ps er b ↔ _
    rw [ih, List.forall_mem_cons]
theorem dpB_le {n : Nat} {b : List Tr} : dpB b ≤ n ↔ ∀ s ∈ b, dpS s ≤ n := by
  induction b with
  | nil => exact ⟨(fun _ s hs => by cases hs), fun _ => Nat.zero_le _⟩
  | cons s b ih =>
    show max (dpS s) (dpB b) ≤ n ↔ _
    rw [Nat.max_le, ih, List.forall_mem_cons]
theorem dpBs_le {n : Nat} {bs : List (List Tr)} : dpBs bs ≤ n ↔ ∀ b ∈ bs, dpB b ≤ n := by
  induction bs with
  | nil => exact ⟨(fun _ s hs => by cases hs), fun _ => Nat.zero_le _⟩
  | cons s b ih =>
    show max (dpB s) (dpBs b) ≤ n ↔ _
    rw [Nat.max_le, ih, List.forall_mem_cons]
theorem szS_pos : ∀ t : Tr, 1 ≤ szS t
  | .letter _ _ _ => Nat.le_refl _
  | .use _ _ => Nat.le_refl _
  | .loop b => Nat.le_add_left _ _
  | .br _ bs => Nat.le_add_left _ _
theorem szB_cnt : ∀ b : List Tr, b.length ≤ szB b
  | [] => Nat.le_refl _
  | s :: b => by have := szS_pos s; have := szB_cnt b; show b.length + 1 ≤ szS s + szB b; omega
theorem dB_len (b : List Tr) : (dB b).length = b.length := by rw [dB_map, List.length_map]
theorem dBs_len (b : List (List Tr)) : (dBs b).length = b.length := by rw [dBs_map, List.length_map]
theorem szB_app (b c : List Tr) : szB (b ++ c) = szB b + szB c := by rw [szB_map, szB_map, szB_map, List.map_append, List.sum_append]
theorem dS_tup (t : Tr) : ∃ l, dS t = .tuple l := by cases t <;> exact ⟨_, rfl⟩
def nm (z : Str) : Prop := z.length ≤ 12
theorem nm_of {z : Str} (h : isName z) : nm z := by
  obtain ⟨⟨c, r, e, _, _, l⟩, _⟩ := h
  unfold nm
  rw [tl_len, e, List.length_cons]; omega
/-! ### names -/
def F__law_names : FSp := fun as κ R _ => ∃ (s : Cell) (m : Int) (tk : List Str), as = [.c 0, .d (.int m), .d (.list (tk.map .str))] ∧ κ = [s] ∧ isSrc s ∧ 0 ≤ m ∧ m ≤ 1000 ∧ tk.length ≤ 1000 ∧
  ∀ (zs : List Str) (s' : Cell), isSrc s' → zs.length = m.toNat → zs.Nodup → (∀ z ∈ zs, isName z ∧ z ∉ tk) → R (.d (.list (zs.map .str))) [s']
abbrev N__law_names : List Str := ["source", "many", "taken", "names", "k"]
def a__law_names (K : PySem.W.Frag) : AS :=
  (aSeq (aSet 3 (aLst aNil)) (aSeq (aFor (aRng1 (aCons (aVar 1) aNil)) (aName 4) (aDrop (aBM "list" aAppend (aVar 3) (aCons (aCall Com.F__law_name (fun _ _ => False) (aCons (aVar 0) (aCons (aOp (aCat false) (aVar 3) (aVar 2)) aNil))) aNil)))) (aRet (aVar 3))))
theorem len__law_names : ∀ as κ R E', F__law_names as κ R E' → as.length = (["source", "many", "taken"] : List Str).length := by
  rintro as κ R E' ⟨s, m, tk, rfl, _⟩; rfl
theorem src2_take {s c : Cell} (h : isSrc s) : (([s, c] : AK).take 1).all (okC 1) = true := by
  obtain ⟨ns, i, x, y, rfl, _⟩ := h; rfl
theorem rd__law_names : ∀ as κ R E', F__law_names as κ R E' → a__law_names K (endsA K κ.length R) (startA N__law_names as) κ := by
  rintro as κ R E' ⟨s, m, tk, rfl, rfl, hs, h0, h1, htk, h⟩
  refine ⟨Nat.zero_le _, ?_⟩
  refine ⟨by omega, by omega, ?_⟩
  refine for_r (fun i δ κ => ∃ s zs k, δ = [some (.c 0), some (.d (.int m)), some (.d (.list (tk.map .str))), some (.c 1), k] ∧ κ = [s, .ld (zs.map .str)] ∧ isSrc s ∧ zs.length = i ∧ zs.Nodup ∧ ∀ z ∈ zs, isName z ∧ z ∉ tk)
    ⟨s, [], none, rfl, rfl, hs, rfl, .nil, (fun z hz => by cases hz)⟩ ?_ ?_
  · rintro δ κ ⟨s, zs, k, rfl, rfl, hs, hl, hnd, hz⟩ _
    refine ⟨_, _, (GhR.freeze (show 1 ≤ 2 by decide) 1 _ rfl).trans (GhR.take 1 (Nat.le_refl _) (show 1 ≤ 2 by decide) (src2_take hs.fz) rfl), h _ _ hs.fz hl hnd hz⟩
  · rintro i δ κ hi ⟨s, zs, k, rfl, rfl, hs, hl, hnd, hz⟩ _
    refine ⟨rfl, zs.map .str, tk.map .str, rfl, rfl, ?_, ?_⟩
    · rw [List.length_map, List.length_map]; exact sl100 (by omega)
    rw [← List.map_append]
    refine name_w hs (by rw [List.length_append]; omega) fun z s' hs' hn hnin => ?_
    refine ⟨?_, s', zs ++ [z], _, rfl, ?_, hs', by simp [hl], ?_, fun x hx => ?_⟩
    · rw [List.length_map]; exact Nat.lt_of_lt_of_le (show zs.length < 10000 by omega) (by decide)
    · simp
    · rw [List.nodup_append]
      refine ⟨hnd, by simp, fun x hx y hy e => ?_⟩
      rw [List.mem_singleton.mp hy] at e
      subst e
      exact hnin (List.mem_append_left _ hx)
    · rcases List.mem_append.mp hx with y | y
      · exact hz x y
      · rw [List.mem_singleton.mp y]; exact ⟨hn, fun z => hnin (List.mem_append_right _ z)⟩
theorem names_w {s : Cell} {κr : AK} {m : Int} {tk : List Str} {E : AX → AK → Prop} {R : AR} (hs : isSrc s) (h0 : 0 ≤ m) (h1 : m ≤ 1000) (ht : tk.length ≤ 1000)
    (k : ∀ (zs : List Str) (s' : Cell), isSrc s' → zs.length = m.toNat → zs.Nodup → (∀ z ∈ zs, isName z ∧ z ∉ tk) → R (.d (.list (zs.map .str))) (s' :: κr)) : callW F__law_names E [.c 0, .d (.int m), .d (.list (tk.map .str))] (s :: κr) R :=
  callW_i ⟨[0], _, _, by decide, rfl, sel0 hs, s, m, tk, rfl, rfl, hs, h0, h1, ht, fun zs s' hs' hl hn hz => ⟨Nat.le_refl _, cl1 hs', rfl, k zs s' hs' hl hn hz⟩⟩
/-! ### the world of a pact -/
def wD (ps : List Str) (er : List (Str × Nat)) (rm : Int) (lb : List Str) (dp : Int) : List (L2.Key × PyData) :=
  [(.inr "parties", .list (ps.map .str)), (.inr "earlier", .list (er.map fun p => .tuple [.str p.1, .int p.2])), (.inr "room", .int rm), (.inr "labels", .list (lb.map .str)), (.inr "deep", .int dp)]
/-- a dict with these five keys, whatever their order; W rm is the dict whose room is rm -/
structure Wd (W : Int → List (L2.Key × PyData)) (ps : List Str) (er : List (Str × Nat)) (lb : List Str) (dp : Int) : Prop where
  gp : ∀ rm, valD (W rm) (.inr "parties") = some (.list (ps.map .str))
  ge : ∀ rm, valD (W rm) (.inr "earlier") = some (.list (er.map fun p => .tuple [.str p.1, .int p.2]))
  gr : ∀ rm, valD (W rm) (.inr "room") = some (.int rm)
  gl : ∀ rm, valD (W rm) (.inr "labels") = some (.list (lb.map .str))
  gd : ∀ rm, valD (W rm) (.inr "deep") = some (.int dp)
  pr : ∀ rm rm', putD (W rm) (.inr "room") (.int rm') = W rm'
  wl : ∀ rm, (W rm).length ≤ 1000
structure okW (W : Int → List (L2.Key × PyData)) (ps : List Str) (er : List (Str × Nat)) (lb : List Str) (dp : Int) : Prop where
  p : ∀ x ∈ ps, isName x
  pn : ps.Nodup
  pl : ps.length ≤ 6
  pp : 0 < ps.length
  e : ∀ x ∈ er, isName x.1 ∧ 0 < x.2 ∧ x.2 ≤ 6
  el : er.length ≤ 1000
  l : ∀ x ∈ lb, isName x
  ll : lb.length ≤ 1000
  lp : 0 < lb.length
  w : Wd W ps er lb dp
theorem kne {a b : Str} (h : a ≠ b) : (Sum.inr a : L2.Key) ≠ .inr b := fun e => h (Sum.inr.inj e)
section
variable {ps : List Str} {er : List (Str × Nat)} {rm rm' dp : Int} {lb : List Str}
theorem get_p : valD (wD ps er rm lb dp) (.inr "parties") = some (.list (ps.map .str)) := valD_pos rfl
theorem get_e : valD (wD ps er rm lb dp) (.inr "earlier") = some (.list (er.map fun p => .tuple [.str p.1, .int p.2])) := (valD_neg (kne (by decide +kernel))).trans (valD_pos rfl)
theorem get_r : valD (wD ps er rm lb dp) (.inr "room") = some (.int rm) := (valD_neg (kne (by decide +kernel))).trans ((valD_neg (kne (by decide +kernel))).trans (valD_pos rfl))
theorem get_l : valD (wD ps er rm lb dp) (.inr "labels") = some (.list (lb.map .str)) := (valD_neg (kne (by decide +kernel))).trans ((valD_neg (kne (by decide +kernel))).trans ((valD_neg (kne (by decide +kernel))).trans (valD_pos rfl)))
theorem get_d : valD (wD ps er rm lb dp) (.inr "deep") = some (.int dp) := (valD_neg (kne (by decide +kernel))).trans ((valD_neg (kne (by decide +kernel))).trans ((valD_neg (kne (by decide +kernel))).trans ((valD_neg (kne (by decide +kernel))).trans (valD_pos rfl))))
theorem s_er : ("earlier" : Str) ≠ "room" := by decide +kernel
theorem s_pr : ("parties" : Str) ≠ "room" := by decide +kernel
theorem s_lr : ("labels" : Str) ≠ "room" := by decide +kernel
theorem s_dr : ("deep" : Str) ≠ "room" := by decide +kernel
theorem s_pl : ("parties" : Str) ≠ "labels" := by decide +kernel
theorem s_el : ("earlier" : Str) ≠ "labels" := by decide +kernel
theorem s_rl : ("room" : Str) ≠ "labels" := by decide +kernel
theorem s_pd : ("parties" : Str) ≠ "deep" := by decide +kernel
theorem s_ed : ("earlier" : Str) ≠ "deep" := by decide +kernel
theorem s_rd : ("room" : Str) ≠ "deep" := by decide +kernel
theorem s_ld : ("labels" : Str) ≠ "deep" := by decide +kernel
theorem s_pe : ("parties" : Str) ≠ "earlier" := by decide +kernel
theorem put_r : putD (wD ps er rm lb dp) (.inr "room") (.int rm') = wD ps er rm' lb dp := by
  simp [putD, wD, s_er, s_pr, s_lr, s_dr]
theorem wd_std : Wd (fun rm => wD ps er rm lb dp) ps er lb dp := ⟨fun _ => get_p, fun _ => get_e, fun _ => get_r, fun _ => get_l, fun _ => get_d, fun _ _ => put_r, fun _ => (show 5 ≤ 1000 by decide)⟩
theorem mk_w {a b c : PyData} : mergeD [] [(.inr "parties", a), (.inr "earlier", b), (.inr "room", c)] = [(.inr "parties", a), (.inr "earlier", b), (.inr "room", c)] := by
  simp [mergeD, putD, s_pr, s_er, s_pe]
theorem put_l {a b c d : PyData} : putD [(.inr "parties", a), (.inr "earlier", b), (.inr "room", c)] (.inr "labels") d = [(.inr "parties", a), (.inr "earlier", b), (.inr "room", c), (.inr "labels", d)] := by
  simp [putD, s_pl, s_el, s_rl]
theorem put_d {a b c d e : PyData} : putD [(.inr "parties", a), (.inr "earlier", b), (.inr "room", c), (.inr "labels", d)] (.inr "deep") e = [(.inr "parties", a), (.inr "earlier", b), (.inr "room", c), (.inr "labels", d), (.inr "deep", e)] := by
  simp [putD, s_pd, s_ed, s_rd, s_ld]
end
theorem str_at {xs : List Str} {i : Int} (h0 : 0 ≤ i) (h : i < xs.length) : ∃ z, z ∈ xs ∧ atI (xs.map PyData.str) i = some (.str z) ∧ (xs.map PyData.str)[i.toNat]? = some (.str z) := by
  obtain ⟨w, hw, hm, hg⟩ := at_mem (xs := xs.map PyData.str) h0 (by rw [List.length_map]; exact h)
  obtain ⟨z, hz, rfl⟩ := List.mem_map.mp hm
  exact ⟨z, hz, hw, hg⟩
theorem sel01 {s : Cell} {kv : List (L2.Key × PyData)} {κr : AK} (h : isSrc s) : selK [0, 1] (s :: .dK kv :: κr) = some [s, .dK kv] := by
  show (match some s, (if true = true then some [Cell.dK kv] else none) with | some c, some cs => if clC c = true then some (c :: cs) else none | _, _ => none) = _
  simp [h.cl.1]
theorem sel02 {s c1 : Cell} {kv : List (L2.Key × PyData)} {κr : AK} (h : isSrc s) : selK [0, 2] (s :: c1 :: .dK kv :: κr) = some [s, .dK kv] := by
  show (match some s, (if true = true then some [Cell.dK kv] else none) with | some c, some cs => if clC c = true then some (c :: cs) else none | _, _ => none) = _
  simp [h.cl.1]
theorem cl2 {s : Cell} {kv : List (L2.Key × PyData)} (h : isSrc s) : ([s, .dK kv] : AK).all clC = true := by rw [List.all_cons, h.cl.1]; rfl
theorem map_erase {α β : Type} (f : α → β) : ∀ (l : List α) (i : Nat), (l.map f).eraseIdx i = (l.eraseIdx i).map f
  | [], _ => rfl
  | _ :: _, 0 => rfl
  | a :: l, i + 1 => congrArg (f a :: ·) (map_erase f l i)
theorem mem_erase {α : Type} {x : α} : ∀ {l : List α} {i : Nat}, x ∈ l.eraseIdx i → x ∈ l
  | [], _, h => h
  | _ :: _, 0, h => List.mem_cons_of_mem _ h
  | a :: l, i + 1, h => by
    rcases List.mem_cons.mp (show x ∈ a :: l.eraseIdx i from h) with rfl | h
    · exact List.mem_cons_self ..
    · exact List.mem_cons_of_mem _ (mem_erase h)
theorem perm_erase {α : Type} {z : α} : ∀ {l : List α} {i : Nat}, l[i]? = some z → (z :: l.eraseIdx i).Perm l
  | [], _, h => by simp at h
  | a :: l, 0, h => by simp at h; subst h; exact List.Perm.refl _
  | a :: l, i + 1, h => by
    have ih := perm_erase (l := l) (i := i) (z := z) (by simpa using h)
    exact (List.Perm.swap a z (l.eraseIdx i)).trans (ih.cons a)
theorem nodup_move {α : Type} {z : α} {ch l : List α} {i : Nat} (h : (ch ++ l).Nodup) (hz : l[i]? = some z) : ((ch ++ [z]) ++ l.eraseIdx i).Nodup := by
  rw [List.append_assoc]
  exact ((List.Perm.append_left ch (perm_erase hz)).nodup_iff).mpr h
/-! ### a letter -/
def F__law_letter : FSp := fun as κ R _ => ∃ (s : Cell) (W : Int → List (L2.Key × PyData)) (ps : List Str) (er : List (Str × Nat)) (rm : Int) (lb : List Str) (dp : Int), as = [.c 0, .c 1] ∧ κ = [s, .dK (W rm)] ∧ isSrc s ∧ okW W ps er lb dp ∧
  (∀ s', isSrc s' → R (.d .none) [s', .dK (W rm)]) ∧ ∀ s' a b c, isSrc s' → a ∈ ps → b ∈ ps → a ≠ b → isName c → R (.d (.tuple [.str "letter", .str a, .str b, .str c])) [s', .dK (W rm)]
abbrev N__law_letter : List Str := ["source", "world", "parties", "sender", "taker"]
def a__law_letter (K : PySem.W.Frag) : AS :=
  (aSeq (aSet 2 (aDGet (aVar 1) (aC (.d (.str "parties"))))) (aSeq (aIfS (aB (aOp aLt (aCB aLen (aCons (aVar 2) aNil)) (aC (.d (.int 2))))) (aRet (aC (.d .none))) aNext) (aSeq (aSet 3 (aCall Com.F__law_pick (fun _ _ => False) (aCons (aVar 0) (aCons (aCB aLen (aCons (aVar 2) aNil)) aNil)))) (aSeq (aSet 4 (aOp aMod (aCB aIntOf (aCons (aOp aAdd (aOp aAdd (aVar 3) (aC (.d (.int 1)))) (aCall Com.F__law_pick (fun _ _ => False) (aCons (aVar 0) (aCons (aOp aSub (aCB aLen (aCons (aVar 2) aNil)) (aC (.d (.int 1)))) aNil)))) aNil)) (aCB aLen (aCons (aVar 2) aNil)))) (aRet (aTup (aCons (aC (.d (.str "letter"))) (aCons (aOp aIx (aVar 2) (aVar 3)) (aCons (aOp aIx (aVar 2) (aVar 4)) (aCons (aOp aIx (aDGet (aVar 1) (aC (.d (.str "labels")))) (aCall Com.F__law_pick (fun _ _ => False) (aCons (aVar 0) (aCons (aCB aLen (aCons (aDGet (aVar 1) (aC (.d (.str "labels")))) aNil)) aNil)))) aNil))))))))))
theorem len__law_letter : ∀ as κ R E', F__law_letter as κ R E' → as.length = (["source", "world"] : List Str).length := by
  rintro as κ R E' ⟨s, m, tk, _, _, _, _, rfl, _⟩; rfl
theorem rd__law_letter : ∀ as κ R E', F__law_letter as κ R E' → a__law_letter K (endsA K κ.length R) (startA N__law_letter as) κ := by
  rintro as κ R E' ⟨s, W, ps, er, rm, lb, dp, rfl, rfl, hs, ok, h1, h2⟩
  have lp : (ps.map PyData.str).length = ps.length := List.length_map ..
  have ll : (lb.map PyData.str).length = lb.length := List.length_map ..
  have := ok.pl; have := ok.pp; have := ok.ll; have := ok.lp
  refine ⟨_, .inr "parties", _, rfl, rfl, (ok.w.gp _), ?_⟩
  refine bsel_i (fun _ => ⟨_, _, GhR.refl (Nat.le_refl _), h1 _ hs⟩) fun hl => ?_
  have hl : ¬ (((ps.map PyData.str).length : Nat) : Int) < 2 := of_decide_eq_false hl
  refine pick_w hs (by omega) (by omega) fun v s1 hs1 h10 h11 => ?_
  refine pick_w hs1 (by show (0 : Int) < ((ps.map PyData.str).length : Int) - 1; omega) (by show ((ps.map PyData.str).length : Int) - 1 < 1000000; omega) fun v2 s2 hs2 h20 h21 => ⟨by omega, ?_⟩
  obtain ⟨z1, m1, e1, g1'⟩ := str_at (xs := ps) h10 (by omega)
  have hlp : (0 : Int) < ((ps.map PyData.str).length : Nat) := by omega
  obtain ⟨z2, m2, e2, g2'⟩ := str_at (xs := ps) (i := (v + 1 + v2) % ((ps.map PyData.str).length : Nat)) (Int.emod_nonneg _ (by omega)) (by have := Int.emod_lt_of_pos (v + 1 + v2) hlp; omega)
  refine ⟨_, e1, _, e2, _, .inr "labels", _, rfl, rfl, (ok.w.gl _), _, .inr "labels", _, rfl, rfl, (ok.w.gl _), ?_⟩
  refine pick_w hs2 (by omega) (by omega) fun v3 s3 hs3 h30 h31 => ?_
  obtain ⟨z3, m3, e3, _⟩ := str_at (xs := lb) h30 (by omega)
  refine ⟨_, e3, (show 4 ≤ sizeLine by decide), _, _, GhR.refl (Nat.le_refl _), h2 _ _ _ _ hs3 m1 m2 ?_ (ok.l _ m3)⟩
  -- another place, another party
  have g1 := g1'
  rw [List.getElem?_map] at g1 g2'
  intro e
  subst e
  obtain ⟨y1, hy1, q1⟩ := Option.map_eq_some_iff.mp g1
  obtain ⟨y2, hy2, q2⟩ := Option.map_eq_some_iff.mp g2'
  cases q1; cases q2
  have b1 := (List.getElem?_eq_some_iff.mp hy1).1
  have hinj := (List.getElem?_inj b1 ok.pn).mp (hy1.trans hy2.symm)
  have h21' : v2 < (ps.length : Int) - 1 := by have : v2 < ((ps.map PyData.str).length : Int) - 1 := h21; omega
  have hq : ((ps.map PyData.str).length : Int) = ps.length := by omega
  rw [hq] at hinj
  have hmod := Int.emod_add_mul_ediv (v + 1 + v2) (ps.length : Int)
  have hm0 : 0 ≤ (v + 1 + v2) % (ps.length : Int) := Int.emod_nonneg _ (by omega)
  have hvm : v = (v + 1 + v2) % (ps.length : Int) := by omega
  have hdv : (ps.length : Int) * ((v + 1 + v2) / (ps.length : Int)) = 1 + v2 := by omega
  have hd1 : 0 < (v + 1 + v2) / (ps.length : Int) := by
    rcases Int.lt_or_le 0 ((v + 1 + v2) / (ps.length : Int)) with z | z
    · exact z
    · have := Int.mul_nonpos_of_nonneg_of_nonpos (a := (ps.length : Int)) (by omega) z; omega
  have := Int.mul_le_mul_of_nonneg_left (a := (1 : Int)) (c := (ps.length : Int)) hd1 (by omega)
  omega
theorem letter_w {s : Cell} {κr : AK} {W : Int → List (L2.Key × PyData)} {ps : List Str} {er : List (Str × Nat)} {rm : Int} {lb : List Str} {dp : Int} {E : AX → AK → Prop} {R : AR} (hs : isSrc s) (ok : okW W ps er lb dp)
    (h1 : ∀ s', isSrc s' → R (.d .none) (s' :: .dK (W rm) :: κr)) (h2 : ∀ s' a b c, isSrc s' → a ∈ ps → b ∈ ps → a ≠ b → isName c → R (.d (.tuple [.str "letter", .str a, .str b, .str c])) (s' :: .dK (W rm) :: κr)) :
    callW F__law_letter E [.c 0, .c 1] (s :: .dK (W rm) :: κr) R :=
  callW_i ⟨[0, 1], _, _, by decide, rfl, sel01 hs, s, W, ps, er, rm, lb, dp, rfl, rfl, hs, ok, fun s' hs' => ⟨Nat.le_refl _, cl2 hs', rfl, h1 s' hs'⟩, fun s' a b c hs' ha hb hn hc => ⟨Nat.le_refl _, cl2 hs', rfl, h2 s' a b c hs' ha hb hn hc⟩⟩
/-! ### a use -/
def F__law_use : FSp := fun as κ R _ => ∃ (s : Cell) (W : Int → List (L2.Key × PyData)) (ps : List Str) (er : List (Str × Nat)) (rm : Int) (lb : List Str) (dp : Int), as = [.c 0, .c 1] ∧ κ = [s, .dK (W rm)] ∧ isSrc s ∧ okW W ps er lb dp ∧
  (∀ s', isSrc s' → R (.d .none) [s', .dK (W rm)]) ∧ ∀ (s' : Cell) (n : Str) (qs : List Str), isSrc s' → (n, qs.length) ∈ er → qs.Nodup → (∀ q ∈ qs, q ∈ ps) → R (.d (.tuple [.str "use", .str n, .tuple (qs.map .str)])) [s', .dK (W rm)]
abbrev N__law_use : List Str := ["source", "world", "fits", "name", "many", "left", "chosen", "k", "one"]
def a__law_use (K : PySem.W.Frag) : AS :=
  (aSeq (aSet 2 (aLc (aIter (aDGet (aVar 1) (aC (.d (.str "earlier"))))) (aName 8) (aB (aOp aLe (aOp aIx (aVar 8) (aC (.d (.int 1)))) (aCB aLen (aCons (aDGet (aVar 1) (aC (.d (.str "parties")))) aNil)))) (aVar 8) [8])) (aSeq (aIfS (aNot (aTru (aVar 2))) (aRet (aC (.d .none))) aNext) (aSeq (aAsg (aOp aIx (aVar 2) (aCall Com.F__law_pick (fun _ _ => False) (aCons (aVar 0) (aCons (aCB aLen (aCons (aVar 2) aNil)) aNil)))) (aGTup 2 (aGCons (aName 3) (aGCons (aName 4) aGNil)))) (aSeq (aSet 5 (aCB (aListOf true) (aCons (aDGet (aVar 1) (aC (.d (.str "parties")))) aNil))) (aSeq (aSet 6 (aLst aNil)) (aSeq (aFor (aRng1 (aCons (aVar 4) aNil)) (aName 7) (aDrop (aBM "list" aAppend (aVar 6) (aCons (aBM "list" aPopAt (aVar 5) (aCons (aCall Com.F__law_pick (fun _ _ => False) (aCons (aVar 0) (aCons (aCB aLen (aCons (aVar 5) aNil)) aNil))) aNil)) aNil)))) (aRet (aTup (aCons (aC (.d (.str "use"))) (aCons (aVar 3) (aCons (aCB aTupOf (aCons (aVar 6) aNil)) aNil)))))))))))
theorem len__law_use : ∀ as κ R E', F__law_use as κ R E' → as.length = (["source", "world"] : List Str).length := by
  rintro as κ R E' ⟨s, m, tk, _, _, _, _, rfl, _⟩; rfl
theorem src_takeW {s : Cell} {kv : List (L2.Key × PyData)} {κr : AK} (h : isSrc s) : ((s :: .dK kv :: κr : AK).take 2).all (okC 2) = true := by
  obtain ⟨ns, i, x, y, rfl, _⟩ := h; rfl
theorem rd__law_use : ∀ as κ R E', F__law_use as κ R E' → a__law_use K (endsA K κ.length R) (startA N__law_use as) κ := by
  rintro as κ R E' ⟨s, W, ps, er, rm, lb, dp, rfl, rfl, hs, ok, h1, h2⟩
  have lp : (ps.map PyData.str).length = ps.length := List.length_map ..
  have := ok.pl; have := ok.pp; have := ok.el
  refine ⟨_, .inr "earlier", _, rfl, rfl, (ok.w.ge _), ?_⟩
  refine lc_d (fun i acc κ' => κ' = [s, .dK (W rm)] ∧ ∃ es : List (Str × Nat), acc = es.map (fun p => .tuple [.str p.1, .int p.2]) ∧ es.length ≤ i ∧ ∀ e ∈ es, e ∈ er ∧ e.2 ≤ ps.length) ⟨rfl, [], rfl, Nat.zero_le _, (fun e he => by cases he)⟩ ?_ ?_
  · rintro acc κ' ⟨rfl, es, rfl, hel, hes⟩
    have le : (es.map (fun p : Str × Nat => PyData.tuple [.str p.1, .int p.2])).length = es.length := List.length_map ..
    have ler : (er.map (fun p : Str × Nat => PyData.tuple [.str p.1, .int p.2])).length = er.length := List.length_map ..
    refine bsel_i (fun _ => ⟨_, _, GhR.refl (Nat.le_refl _), h1 _ hs⟩) fun hn => ?_
    have hne : 0 < es.length := by
      cases es with
      | nil => exact absurd hn (by decide)
      | cons _ _ => exact Nat.succ_pos _
    refine pick_w hs (by omega) (by omega) fun v s1 hs1 h10 h11 => ?_
    obtain ⟨w, hw, hm, _⟩ := at_mem (xs := es.map (fun p : Str × Nat => PyData.tuple [.str p.1, .int p.2])) h10 h11
    obtain ⟨⟨n, k⟩, hmem, rfl⟩ := List.mem_map.mp hm
    obtain ⟨hn1, hk⟩ := hes _ hmem
    have hk : k ≤ ps.length := hk
    refine ⟨_, hw, rfl, _, .inr "parties", _, rfl, rfl, (ok.w.gp _), Nat.zero_le _, by omega, by omega, ?_⟩
    have hlen : ∀ {ch : List Str}, ch.length = ((k : Nat) : Int).toNat → (n, ch.length) ∈ er := fun h => by
      have e : _ = k := h.trans (by omega)
      rw [e]; exact hn1
    refine for_r (fun i δ κ => ∃ (s : Cell) (l ch : List Str) (x : Option AV), δ = [some (.c 0), some (.c 1), some (.d (.list (es.map fun p => .tuple [.str p.1, .int p.2]))), some (.d (.str n)), some (.d (.int k)), some (.c 2), some (.c 3), x, none] ∧ κ = [s, .dK (W rm), .ld (l.map .str), .ld (ch.map .str)] ∧ isSrc s ∧ l.length + i = ps.length ∧ ch.length = i ∧ (ch ++ l).Nodup ∧ (∀ z ∈ l, z ∈ ps) ∧ ∀ z ∈ ch, z ∈ ps)
      ⟨s1, ps, [], none, rfl, rfl, hs1, rfl, rfl, ok.pn, (fun z hz => hz), (fun z hz => by cases hz)⟩ ?_ ?_
    · rintro δ κ ⟨s, l, ch, x, rfl, rfl, hs, hl, hc, hnd, hl2, hc2⟩ _
      exact ⟨_, rfl, (show 3 ≤ sizeLine by decide), _, _, GhR.take 2 (Nat.le_refl _) (show 2 ≤ 4 by decide) (src_takeW hs) rfl, h2 _ _ _ hs (hlen hc) (List.nodup_append.mp hnd).1 hc2⟩
    · rintro i δ κ hi ⟨s, l, ch, x, rfl, rfl, hs, hl, hc, hnd, hl2, hc2⟩ _
      have ll : (l.map PyData.str).length = l.length := List.length_map ..
      refine ⟨rfl, rfl, pick_w hs (by omega) (by omega) fun v s2 hs2 h20 h21 => ?_⟩
      obtain ⟨z, hz, _, hg⟩ := str_at (xs := l) h20 (by omega)
      have hg' : l[v.toNat]? = some z := by
        rw [List.getElem?_map] at hg
        obtain ⟨y, hy, q⟩ := Option.map_eq_some_iff.mp hg
        cases q; exact hy
      refine ⟨_, _, rfl, h20, by omega, hg, ?_, ?_⟩
      · rw [List.length_map]; exact Nat.lt_of_lt_of_le (show ch.length < 1000 by omega) (by decide)
      · refine ⟨s2, l.eraseIdx v.toNat, ch ++ [z], _, rfl, ?_, hs2, ?_, by simp [hc], ?_, fun y hy => hl2 _ (mem_erase hy), fun y hy => ?_⟩
        · simp only [List.set_cons_succ, List.set_cons_zero, map_erase, List.map_append, List.map_cons, List.map_nil]
        · rw [List.length_eraseIdx_of_lt (by omega)]; omega
        · exact nodup_move hnd hg'
        · rcases List.mem_append.mp hy with q | q
          · exact hc2 y q
          · rw [List.mem_singleton.mp q]; exact hl2 z hz
  · rintro i x acc κ' hx ⟨rfl, es, rfl, hel, hes⟩
    rw [List.getElem?_map] at hx
    obtain ⟨⟨n, k⟩, hg, rfl⟩ := Option.map_eq_some_iff.mp hx
    refine ⟨_, at_nat (j := 1) rfl, _, .inr "parties", _, rfl, rfl, (ok.w.gp _), bsel_i (fun hc => ?_) fun _ => ⟨rfl, es, rfl, Nat.le_succ_of_le hel, hes⟩⟩
    have hc : ((k : Nat) : Int) ≤ ((ps.map PyData.str).length : Nat) := of_decide_eq_true hc
    have hil := (List.getElem?_eq_some_iff.mp hg).1
    refine ⟨_, rfl, ?_, rfl, es ++ [(n, k)], by simp, by simp; omega, fun e he => ?_⟩
    · rw [List.length_map]; exact Nat.lt_of_lt_of_le (show es.length < 100000 by omega) (by decide)
    · rcases List.mem_append.mp he with q | q
      · exact hes e q
      · rw [List.mem_singleton.mp q]; exact ⟨List.mem_of_getElem? hg, (show k ≤ ps.length by omega)⟩
theorem use_w {s : Cell} {κr : AK} {W : Int → List (L2.Key × PyData)} {ps : List Str} {er : List (Str × Nat)} {rm : Int} {lb : List Str} {dp : Int} {E : AX → AK → Prop} {R : AR} (hs : isSrc s) (ok : okW W ps er lb dp)
    (h1 : ∀ s', isSrc s' → R (.d .none) (s' :: .dK (W rm) :: κr)) (h2 : ∀ (s' : Cell) (n : Str) (qs : List Str), isSrc s' → (n, qs.length) ∈ er → qs.Nodup → (∀ q ∈ qs, q ∈ ps) → R (.d (.tuple [.str "use", .str n, .tuple (qs.map .str)])) (s' :: .dK (W rm) :: κr)) :
    callW F__law_use E [.c 0, .c 1] (s :: .dK (W rm) :: κr) R :=
  callW_i ⟨[0, 1], _, _, by decide, rfl, sel01 hs, s, W, ps, er, rm, lb, dp, rfl, rfl, hs, ok, fun s' hs' => ⟨Nat.le_refl _, cl2 hs', rfl, h1 s' hs'⟩, fun s' a b hs' ha hb hc => ⟨Nat.le_refl _, cl2 hs', rfl, h2 s' a b hs' ha hb hc⟩⟩
/-! ### steps, bodies -/
def FF__law_step (n : Nat) : FSp := fun as κ R _ => ∃ (s : Cell) (D : Int) (d : Nat) (W : Int → List (L2.Key × PyData)) (ps : List Str) (er : List (Str × Nat)) (rm : Int) (lb : List Str) (dp : Int), as = [.c 0, .c 1, .d (.int D)] ∧ κ = [s, .dK (W rm)] ∧ D = d ∧ isSrc s ∧ okW W ps er lb dp ∧
  d ≤ 8 ∧ dp ≤ 8 ∧ 0 ≤ rm ∧ rm ≤ 100 ∧ 2 * (9 - d) ≤ n + 1 ∧ (∀ s' rm', isSrc s' → 0 ≤ rm' → rm' ≤ rm → R (.d .none) [s', .dK (W rm')]) ∧
  ∀ (s' : Cell) (x : Tr) (rm' : Int), isSrc s' → okS ps er x → dpS x + d ≤ 8 → 0 ≤ rm' → szS x + rm' ≤ rm + 1 → R (.d (dS x)) [s', .dK (W rm')]
def FF__law_body (n : Nat) : FSp := fun as κ R _ => ∃ (s : Cell) (D : Int) (d : Nat) (W : Int → List (L2.Key × PyData)) (ps : List Str) (er : List (Str × Nat)) (rm : Int) (lb : List Str) (dp : Int), as = [.c 0, .c 1, .d (.int D)] ∧ κ = [s, .dK (W rm)] ∧ D = d ∧ isSrc s ∧ okW W ps er lb dp ∧
  d ≤ 8 ∧ dp ≤ 8 ∧ 0 ≤ rm ∧ rm ≤ 100 ∧ 2 * (9 - d) ≤ n ∧
  ∀ (s' : Cell) (b : List Tr) (rm' : Int), isSrc s' → okB ps er b → dpB b + d ≤ 8 → 0 ≤ rm' → szB b + rm' ≤ rm → R (.d (.tuple (dB b))) [s', .dK (W rm')]
abbrev N__law_step : List Str := ["source", "world", "depth", "kind", "bodies", "made", "k"]
def a__law_step (K : PySem.W.Frag) (F_self__law_body : FSp) : AS :=
  (aSeq (aSet 3 (aCall Com.F__law_pick (fun _ _ => False) (aCons (aVar 0) (aCons (aC (.d (.int 9))) aNil)))) (aCut (aIfS (aAnd (aB (aOp aGt (aVar 3) (aC (.d (.int 4))))) (aAnd (aB (aOp aLt (aVar 3) (aC (.d (.int 8))))) (aB (aOp aLt (aVar 2) (aDGet (aVar 1) (aC (.d (.str "deep")))))))) (aSeq (aIfS (aB (aOp aEq (aVar 3) (aC (.d (.int 7))))) (aRet (aTup (aCons (aC (.d (.str "loop"))) (aCons (aCall F_self__law_body (fun _ _ => False) (aCons (aVar 0) (aCons (aVar 1) (aCons (aOp aAdd (aVar 2) (aC (.d (.int 1)))) aNil)))) aNil)))) aNext) (aSeq (aSet 4 (aLc (aRng1 (aCons (aOp aAdd (aC (.d (.int 1))) (aCall Com.F__law_pick (fun _ _ => False) (aCons (aVar 0) (aCons (aC (.d (.int 3))) aNil)))) aNil)) (aName 6) aYes (aCall F_self__law_body (fun _ _ => False) (aCons (aVar 0) (aCons (aVar 1) (aCons (aOp aAdd (aVar 2) (aC (.d (.int 1)))) aNil)))) [6])) (aRet (aTup (aCons (aOp aIx (aLstD (aCons (aC (.d (.str "choice"))) (aCons (aC (.d (.str "both"))) aNil))) (aOp aSub (aVar 3) (aC (.d (.int 5))))) (aCons (aCB aTupOf (aCons (aVar 4) aNil)) aNil)))))) aNext) (aCut (aIfS (aB (aOp aEq (aVar 3) (aC (.d (.int 8))))) (aSeq (aSet 5 (aCall F__law_use (fun _ _ => False) (aCons (aVar 0) (aCons (aVar 1) aNil)))) (aIfS (aB (aOp (aIsN not) (aVar 5) (aC (.d .none)))) (aRet (aVar 5)) aNext)) aNext) (aRet (aCall F__law_letter (fun _ _ => False) (aCons (aVar 0) (aCons (aVar 1) aNil)))))))
abbrev N__law_body : List Str := ["source", "world", "depth", "steps", "k", "step"]
def a__law_body (K : PySem.W.Frag) (F_self__law_step : FSp) : AS :=
  (aSeq (aSet 3 (aLst aNil)) (aSeq (aFor (aRng1 (aCons (aCall Com.F__law_pick (fun _ _ => False) (aCons (aVar 0) (aCons (aC (.d (.int 4))) aNil))) aNil)) (aName 4) (aIfS (aB (aOp aGt (aDGet (aVar 1) (aC (.d (.str "room")))) (aC (.d (.int 0))))) (aSeq (aDPut (aVar 1) (aC (.d (.str "room"))) (aOp aSub (aDGet (aVar 1) (aC (.d (.str "room")))) (aC (.d (.int 1))))) (aSeq (aSet 5 (aCall F_self__law_step (fun _ _ => False) (aCons (aVar 0) (aCons (aVar 1) (aCons (aVar 2) aNil))))) (aIfS (aB (aOp (aIsN not) (aVar 5) (aC (.d .none)))) (aDrop (aBM "list" aAppend (aVar 3) (aCons (aVar 5) aNil))) aNext))) aNext)) (aRet (aCB aTupOf (aCons (aVar 3) aNil)))))
theorem len__law_step (n : Nat) : ∀ as κ R E', FF__law_step n as κ R E' → as.length = (["source", "world", "depth"] : List Str).length := by
  rintro as κ R E' ⟨s, m, tk, _, _, _, _, _, _, rfl, _⟩; rfl
theorem len__law_body (n : Nat) : ∀ as κ R E', FF__law_body n as κ R E' → as.length = (["source", "world", "depth"] : List Str).length := by
  rintro as κ R E' ⟨s, m, tk, _, _, _, _, _, _, rfl, _⟩; rfl
theorem rd0__law_step {as κ R E'} (h : FF__law_step 0 as κ R E') : False := by
  obtain ⟨s, D, d, W, ps, er, rm, lb, dp, _, _, _, _, _, hd, _, _, _, hn, _⟩ := h; omega
theorem rd0__law_body {as κ R E'} (h : FF__law_body 0 as κ R E') : False := by
  obtain ⟨s, D, d, W, ps, er, rm, lb, dp, _, _, _, _, _, hd, _, _, _, hn, _⟩ := h; omega
section
variable {s : Cell} {κr : AK} {n : Nat} {D : Int} {d : Nat} {W : Int → List (L2.Key × PyData)} {ps : List Str} {er : List (Str × Nat)} {rm : Int} {lb : List Str} {dp : Int} {E : AX → AK → Prop} {R : AR} {kv : List (L2.Key × PyData)}
theorem step_w (hk : kv = W rm) (hD : D = d) (hs : isSrc s) (ok : okW W ps er lb dp) (h8 : d ≤ 8) (hp8 : dp ≤ 8) (h0 : 0 ≤ rm) (h100 : rm ≤ 100) (hn : 2 * (9 - d) ≤ n + 1)
    (h1 : ∀ s' rm', isSrc s' → 0 ≤ rm' → rm' ≤ rm → R (.d .none) (s' :: .dK (W rm') :: κr))
    (h2 : ∀ (s' : Cell) (x : Tr) (rm' : Int), isSrc s' → okS ps er x → dpS x + d ≤ 8 → 0 ≤ rm' → szS x + rm' ≤ rm + 1 → R (.d (dS x)) (s' :: .dK (W rm') :: κr)) :
    callW (FF__law_step n) E [.c 0, .c 1, .d (.int D)] (s :: .dK kv :: κr) R := by
  subst hk
  exact callW_i ⟨[0, 1], _, _, by decide, rfl, sel01 hs, s, D, d, W, ps, er, rm, lb, dp, rfl, rfl, hD, hs, ok, h8, hp8, h0, h100, hn, fun s' rm' hs' a b => ⟨Nat.le_refl _, cl2 hs', rfl, h1 s' rm' hs' a b⟩,
    fun s' x rm' hs' hx hd a b => by obtain ⟨l, el⟩ := dS_tup x; have := h2 s' x rm' hs' hx hd a b; rw [el] at this ⊢; exact ⟨Nat.le_refl _, cl2 hs', rfl, this⟩⟩
theorem body_w (hk : kv = W rm) (hD : D = d) (hs : isSrc s) (ok : okW W ps er lb dp) (h8 : d ≤ 8) (hp8 : dp ≤ 8) (h0 : 0 ≤ rm) (h100 : rm ≤ 100) (hn : 2 * (9 - d) ≤ n)
    (h2 : ∀ (s' : Cell) (b : List Tr) (rm' : Int), isSrc s' → okB ps er b → dpB b + d ≤ 8 → 0 ≤ rm' → szB b + rm' ≤ rm → R (.d (.tuple (dB b))) (s' :: .dK (W rm') :: κr)) :
    callW (FF__law_body n) E [.c 0, .c 1, .d (.int D)] (s :: .dK kv :: κr) R := by
  subst hk
  exact callW_i ⟨[0, 1], _, _, by decide, rfl, sel01 hs, s, D, d, W, ps, er, rm, lb, dp, rfl, rfl, hD, hs, ok, h8, hp8, h0, h100, hn, fun s' b rm' hs' hx hd a c => ⟨Nat.le_refl _, cl2 hs', rfl, h2 s' b rm' hs' hx hd a c⟩⟩
theorem body_w2 {c1 : Cell} (hk : kv = W rm) (hD : D = d) (hs : isSrc s) (ok : okW W ps er lb dp) (h8 : d ≤ 8) (hp8 : dp ≤ 8) (h0 : 0 ≤ rm) (h100 : rm ≤ 100) (hn : 2 * (9 - d) ≤ n)
    (h2 : ∀ (s' : Cell) (b : List Tr) (rm' : Int), isSrc s' → okB ps er b → dpB b + d ≤ 8 → 0 ≤ rm' → szB b + rm' ≤ rm → R (.d (.tuple (dB b))) (s' :: c1 :: .dK (W rm') :: κr)) :
    callW (FF__law_body n) E [.c 0, .c 2, .d (.int D)] (s :: c1 :: .dK kv :: κr) R := by
  subst hk
  exact callW_i ⟨[0, 2], _, _, by decide, rfl, sel02 hs, s, D, d, W, ps, er, rm, lb, dp, rfl, rfl, hD, hs, ok, h8, hp8, h0, h100, hn, fun s' b rm' hs' hx hd a c => ⟨Nat.le_refl _, cl2 hs', rfl, h2 s' b rm' hs' hx hd a c⟩⟩
end
theorem rd__law_body (n : Nat) : ∀ as κ R E', FF__law_body (n + 1) as κ R E' → a__law_body K (FF__law_step n) (endsA K κ.length R) (startA N__law_body as) κ := by
  rintro as κ R E' ⟨s, D, d, W, ps, er, rm, lb, dp, rfl, rfl, hD, hs, ok, h8, hp8, h0, h100, hn, h⟩
  refine ⟨Nat.zero_le _, pick_w hs (by decide) (by decide) fun v s1 hs1 h10 h11 => ⟨by omega, by omega, ?_⟩⟩
  refine for_r (fun i δ κ => ∃ (s : Cell) (rm' : Int) (b : List Tr) (x y : Option AV), δ = [some (.c 0), some (.c 1), some (.d (.int D)), some (.c 2), x, y] ∧ κ = [s, .dK (W rm'), .ld (dB b)] ∧ isSrc s ∧ okB ps er b ∧ dpB b + d ≤ 8 ∧ 0 ≤ rm' ∧ szB b + rm' ≤ rm)
    ⟨s1, rm, [], none, none, rfl, rfl, hs1, trivial, (by show 0 + d ≤ 8; omega), h0, (by show (0 : Int) + rm ≤ rm; omega)⟩ ?_ ?_
  · rintro δ κ ⟨s, rm', b, x, y, rfl, rfl, hs, hb, hdb, hr0, hr⟩ _
    exact ⟨_, rfl, _, _, GhR.take 2 (Nat.le_refl _) (show 2 ≤ 3 by decide) (src_takeW hs) rfl, h _ _ _ hs hb hdb hr0 hr⟩
  · rintro i δ κ hi ⟨s, rm', b, x, y, rfl, rfl, hs, hb, hdb, hr0, hr⟩ _
    refine ⟨_, .inr "room", _, rfl, rfl, (ok.w.gr _), bsel_i (fun hc => ?_) fun _ => ⟨s, rm', b, _, _, rfl, rfl, hs, hb, hdb, hr0, hr⟩⟩
    have hc : (0 : Int) < rm' := of_decide_eq_true hc
    refine ⟨_, .inr "room", _, rfl, rfl, (ok.w.gr _), _, .inr "room", _, rfl, rfl, rfl, (Nat.lt_of_le_of_lt (ok.w.wl _) (by decide)), ?_⟩
    refine step_w (rm := rm' - 1) (ok.w.pr _ _) hD hs ok h8 hp8 (by omega) (by omega) hn (fun s2 rm2 hs2 a c => ?_) fun s2 x rm2 hs2 hx hdx a c => ?_
    · exact ⟨s2, rm2, b, _, _, rfl, rfl, hs2, hb, hdb, a, by omega⟩
    · have hcnt := szB_cnt b
      have e : dB (b ++ [x]) = dB b ++ [dS x] := by rw [dB_map, dB_map, List.map_append]; rfl
      have hin : ∃ (s : Cell) (rm' : Int) (b' : List Tr) (x' y : Option AV), [some (AV.c 0), some (.c 1), some (.d (.int D)), some (.c 2), some (.d (.int (0 + (i : Int)))), some (.d (dS x))] = [some (.c 0), some (.c 1), some (.d (.int D)), some (.c 2), x', y] ∧ [s2, .dK (W rm2), Cell.ld (dB b ++ [dS x])] = [s, .dK (W rm'), .ld (dB b')] ∧ isSrc s ∧ okB ps er b' ∧ dpB b' + d ≤ 8 ∧ 0 ≤ rm' ∧ szB b' + rm' ≤ rm :=
        ⟨s2, rm2, b ++ [x], _, _, rfl, by rw [e], hs2, okB_all.mpr fun s hs => by
          rcases List.mem_append.mp hs with q | q
          · exact okB_all.mp hb s q
          · rw [List.mem_singleton.mp q]; exact hx, by
          have : dpB (b ++ [x]) ≤ 8 - d := dpB_le.mpr fun s hs => by
            rcases List.mem_append.mp hs with q | q
            · exact dpB_le.mp (by omega) s q
            · rw [List.mem_singleton.mp q]; omega
          omega, a, by rw [szB_app]; show ((szB b + (szS x + 0) : Nat) : Int) + rm2 ≤ rm; omega⟩
      obtain ⟨l, el⟩ := dS_tup x
      rw [el] at hin ⊢
      refine ⟨rfl, ?_, hin⟩
      rw [dB_len]
      exact Nat.lt_of_lt_of_le (show b.length < 1000 by omega) (by decide)
theorem rd__law_step (n : Nat) : ∀ as κ R E', FF__law_step (n + 1) as κ R E' → a__law_step K (FF__law_body n) (endsA K κ.length R) (startA N__law_step as) κ := by
  rintro as κ R E' ⟨s, D, d, W, ps, er, rm, lb, dp, rfl, rfl, hD, hs, ok, h8, hp8, h0, h100, hn, h1, h2⟩
  refine pick_w hs (by decide) (by decide) fun v s1 hs1 h10 h11 => ?_
  refine ⟨fun δ κ => δ = [some (.c 0), some (.c 1), some (.d (.int D)), some (.d (.int v)), none, none, none] ∧ κ = [s1, .dK (W rm)], ?_, ?_⟩
  · refine bsel_i (fun hv4 => bsel_i (fun hv8 => ⟨_, .inr "deep", _, rfl, rfl, (ok.w.gd _), bsel_i (fun hdp => ?_) fun _ => ⟨rfl, rfl⟩⟩) fun _ => ⟨rfl, rfl⟩) fun _ => ⟨rfl, rfl⟩
    have hv4 : (4 : Int) < v := of_decide_eq_true hv4
    have hv8 : v < 8 := of_decide_eq_true hv8
    have hdp : D < dp := of_decide_eq_true hdp
    have hd8 : d < 8 := by omega
    refine bsel_i (fun hv7 => ?_) fun hv7 => ?_
    · refine body_w (d := d + 1) rfl (by omega) hs1 ok (by omega) hp8 h0 h100 (by omega) fun s2 b rm2 hs2 hb hdb a c => ?_
      exact ⟨(show 2 ≤ sizeLine by decide), _, _, GhR.refl (Nat.le_refl _), h2 _ (.loop b) _ hs2 hb (by show dpB b + 1 + d ≤ 8; omega) a (by show ((szB b + 1 : Nat) : Int) + rm2 ≤ rm + 1; omega)⟩
    · have hv7 : v ≠ 7 := of_decide_eq_false hv7
      refine pick_w hs1 (by decide) (by decide) fun w' s2 hs2 h20 h21 => ⟨by omega, by omega, ?_⟩
      refine lc_r (fun i acc κ' => ∃ (s : Cell) (rm' : Int) (bs : List (List Tr)), κ' = [s, .dK (W rm')] ∧ acc = dBs bs ∧ isSrc s ∧ (∀ b ∈ bs, okB ps er b ∧ dpB b + d ≤ 7) ∧ bs.length = i ∧ 0 ≤ rm' ∧ szBs bs + rm' ≤ rm)
        ⟨s2, rm, [], rfl, rfl, hs2, (fun x hx => by cases hx), rfl, h0, (by show (0 : Int) + rm ≤ rm; omega)⟩ ?_ ?_
      · rintro acc κ' ⟨s, rm', bs, rfl, rfl, hs, hb, hl, hr0, hr⟩
        refine ⟨(show 2 ≤ sizeLine by decide), ?_⟩
        have : ∃ w : Bool, atI ([.str "choice", .str "both"] : List PyData) (v - 5) = some (.str (brW w)) := by
          by_cases e5 : v = 5
          · subst e5; exact ⟨false, at_nat (j := 0) rfl⟩
          · have e6 : v = 6 := by omega
            subst e6; exact ⟨true, at_nat (j := 1) rfl⟩
        obtain ⟨w, hat⟩ := this
        refine ⟨_, hat, _, rfl, (show 2 ≤ sizeLine by decide), _, _, GhR.refl (Nat.le_refl _), h2 _ (.br w bs) _ hs ⟨fun e => ?_, by omega, okBs_all.mpr fun b q => (hb b q).1⟩ ?_ hr0 (by show ((szBs bs + 1 : Nat) : Int) + rm' ≤ rm + 1; omega)⟩
        · subst e
          have : (0 : Nat) = (1 + w' : Int).toNat := hl
          omega
        · have : dpBs bs ≤ 7 - d := dpBs_le.mpr fun b q => by have := (hb b q).2; omega
          show dpBs bs + 1 + d ≤ 8; omega
      · rintro i acc κ' hi ⟨s, rm', bs, rfl, rfl, hs, hb, hl, hr0, hr⟩
        refine body_w (d := d + 1) rfl (by omega) hs ok (by omega) hp8 hr0 (by omega) (by omega) fun s3 b rm3 hs3 hb3 hdb a c => ?_
        refine ⟨_, rfl, ?_, s3, rm3, bs ++ [b], rfl, by rw [dBs_map, dBs_map, List.map_append]; rfl, hs3, fun x hx => ?_, by simp [hl], a, ?_⟩
        · rw [dBs_len]; exact Nat.lt_of_lt_of_le (show bs.length < 100 by omega) (by decide)
        · rcases List.mem_append.mp hx with q | q
          · exact hb x q
          · rw [List.mem_singleton.mp q]; exact ⟨hb3, by omega⟩
        · rw [szBs_map, List.map_append, List.sum_append, ← szBs_map]; show ((szBs bs + (szB b + 0) : Nat) : Int) + rm3 ≤ rm; omega
  · rintro δ κ ⟨rfl, rfl⟩ _
    refine ⟨fun δ κ => ∃ (s : Cell) (x : Option AV), δ = [some (.c 0), some (.c 1), some (.d (.int D)), some (.d (.int v)), none, x, none] ∧ κ = [s, .dK (W rm)] ∧ isSrc s, ?_, ?_⟩
    · refine bsel_i (fun _ => ?_) fun _ => ⟨s1, _, rfl, rfl, hs1⟩
      refine use_w hs1 ok (fun s2 hs2 => ⟨s2, _, rfl, rfl, hs2⟩) fun s2 n qs hs2 hn hq h6 => ?_
      exact ⟨_, _, GhR.refl (Nat.le_refl _), h2 _ (.use n qs) _ hs2 ⟨hn, hq, h6⟩ (by show 0 + d ≤ 8; omega) h0 (by show (1 : Int) + rm ≤ rm + 1; omega)⟩
    · rintro δ κ ⟨s, x, rfl, rfl, hs⟩ _
      refine letter_w hs ok (fun s2 hs2 => ⟨_, _, GhR.refl (Nat.le_refl _), h1 _ _ hs2 h0 (Int.le_refl _)⟩) fun s2 a b c hs2 ha hb hne hc => ⟨_, _, GhR.refl (Nat.le_refl _), h2 _ (.letter a b c) _ hs2 ⟨ha, hb, hne, hc⟩ (by show 0 + d ≤ 8; omega) h0 (by show (1 : Int) + rm ≤ rm + 1; omega)⟩
/-! ### pacts, books -/
structure Pct where
  name : Str
  ps : List Str
  body : List Tr
def pctD (p : Pct) : PyData := .tuple [.str "pact", .str p.name, .tuple (p.ps.map .str), .tuple (dB p.body)]
def earl (bk : List Pct) : List (Str × Nat) := bk.map fun p => (p.name, p.ps.length)
structure okP (room : Int) (er : List (Str × Nat)) (p : Pct) : Prop where
  n : isName p.name
  fresh : ∀ e ∈ er, e.1 ≠ p.name
  pa : ∀ x ∈ p.ps, isName x
  pn : p.ps.Nodup
  pl : p.ps.length ≤ 6
  pp : 0 < p.ps.length
  b : okB p.ps er p.body
  d : dpB p.body ≤ 8
  z : (szB p.body : Int) ≤ room
def okBk (room : Int) (bk : List Pct) : Prop := ∀ (i : Nat) (p : Pct), bk[i]? = some p → okP room (earl (bk.take i)) p
theorem okBk.snoc {room : Int} {bk : List Pct} {p : Pct} (h : okBk room bk) (hp : okP room (earl bk) p) : okBk room (bk ++ [p]) := by
  intro i q hq
  rcases get_snoc hq with ⟨l, e⟩ | ⟨l, e⟩
  · rw [List.take_append_of_le_length (Nat.le_of_lt l)]
    exact h i q e
  · subst l; subst e
    rw [List.take_append_of_le_length (Nat.le_refl _), List.take_of_length_le (Nat.le_refl _)]
    exact hp
def F__law_book : FSp := fun as κ R _ => ∃ (s : Cell) (most room : Int), as = [.c 0, .d (.int most), .d (.int room)] ∧ κ = [s] ∧ isSrc s ∧ 0 < most ∧ most ≤ 10 ∧ 0 ≤ room ∧ room ≤ 100 ∧
  ∀ (s' : Cell) (bk : List Pct), isSrc s' → okBk room bk → 0 < bk.length → bk.length ≤ most → R (.d (.list (bk.map pctD))) [s']
abbrev N__law_book : List Str := ["source", "most", "room", "book", "names", "earlier", "name", "world", "body"]
def a__law_book (K : PySem.W.Frag) : AS :=
  (aSeq (aSet 3 (aLst aNil)) (aSeq (aSet 4 (aCall F__law_names (fun _ _ => False) (aCons (aVar 0) (aCons (aOp aAdd (aC (.d (.int 1))) (aCall Com.F__law_pick (fun _ _ => False) (aCons (aVar 0) (aCons (aVar 1) aNil)))) (aCons (aLstD aNil) aNil))))) (aSeq (aSet 5 (aLstD aNil)) (aSeq (aFor (aIter (aVar 4)) (aName 6) (aSeq (aSet 7 (aDisp (aPCons (aC (.d (.str "parties"))) (aCall F__law_names (fun _ _ => False) (aCons (aVar 0) (aCons (aOp aAdd (aC (.d (.int 1))) (aCall Com.F__law_pick (fun _ _ => False) (aCons (aVar 0) (aCons (aC (.d (.int 6))) aNil)))) (aCons (aLstD aNil) aNil)))) (aPCons (aC (.d (.str "earlier"))) (aVar 5) (aPCons (aC (.d (.str "room"))) (aVar 2) aPNil))))) (aSeq (aDPut (aVar 7) (aC (.d (.str "labels"))) (aCall F__law_names (fun _ _ => False) (aCons (aVar 0) (aCons (aOp aAdd (aC (.d (.int 1))) (aCall Com.F__law_pick (fun _ _ => False) (aCons (aVar 0) (aCons (aC (.d (.int 4))) aNil)))) (aCons (aLstD aNil) aNil))))) (aSeq (aDPut (aVar 7) (aC (.d (.str "deep"))) (aOp aIx (aLstD (aCons (aC (.d (.int 1))) (aCons (aC (.d (.int 2))) (aCons (aC (.d (.int 3))) (aCons (aC (.d (.int 8))) aNil))))) (aCall Com.F__law_pick (fun _ _ => False) (aCons (aVar 0) (aCons (aC (.d (.int 4))) aNil))))) (aSeq (aSet 8 (aCall (FF__law_body 20) (fun _ _ => False) (aCons (aVar 0) (aCons (aVar 7) (aCons (aC (.d (.int 0))) aNil))))) (aCut (aIfS (aB (aOp aGt (aCall Com.F__law_pick (fun _ _ => False) (aCons (aVar 0) (aCons (aC (.d (.int 4))) aNil))) (aC (.d (.int 0))))) (aSet 8 (aOp aAdd (aVar 8) (aCall (FF__law_body 20) (fun _ _ => False) (aCons (aVar 0) (aCons (aVar 7) (aCons (aC (.d (.int 0))) aNil)))))) aNext) (aSeq (aDrop (aBM "list" aAppend (aVar 3) (aCons (aTup (aCons (aC (.d (.str "pact"))) (aCons (aVar 6) (aCons (aCB aTupOf (aCons (aDGet (aVar 7) (aC (.d (.str "parties")))) aNil)) (aCons (aVar 8) aNil))))) aNil))) (aSeq (aSet 5 (aOp (aCat false) (aVar 5) (aLstD (aCons (aTup (aCons (aVar 6) (aCons (aCB aLen (aCons (aDGet (aVar 7) (aC (.d (.str "parties")))) aNil)) aNil))) aNil)))) (aGh K aNext))))))))) (aRet (aVar 3))))))
theorem len__law_book : ∀ as κ R E', F__law_book as κ R E' → as.length = (["source", "most", "room"] : List Str).length := by
  rintro as κ R E' ⟨s, m, r, rfl, _⟩; rfl
theorem deeps {w : PyData} (h : w ∈ ([.int 1, .int 2, .int 3, .int 8] : List PyData)) : ∃ n : Int, w = .int n ∧ n ≤ 8 := by
  simp only [List.mem_cons, List.mem_nil_iff, or_false] at h
  rcases h with rfl | rfl | rfl | rfl <;> exact ⟨_, rfl, by omega⟩
theorem src_take2 {s : Cell} {ds : List PyData} {κr : AK} (h : isSrc s) : ((s :: .ld ds :: κr : AK).take 2).all (okC 2) = true := by
  obtain ⟨ns, i, x, y, rfl, _⟩ := h; rfl
theorem rd__law_book : ∀ as κ R E', F__law_book as κ R E' → a__law_book K (endsA K κ.length R) (startA N__law_book as) κ := by
  rintro as κ R E' ⟨s, most, room, rfl, rfl, hs, hm0, hm1, hr0, hr1, h⟩
  refine ⟨Nat.zero_le _, pick_w hs hm0 (by omega) fun v s1 hs1 h10 h11 => ⟨Nat.zero_le _, ?_⟩⟩
  refine names_w (tk := []) hs1 (by omega) (by omega) (Nat.zero_le _) fun zs s2 hs2 hzl hznd hz => ⟨Nat.zero_le _, ?_⟩
  refine for_d (fun i δ κ => ∃ (s : Cell) (bk : List Pct) (x6 x7 x8 : Option AV), δ = [some (.c 0), some (.d (.int most)), some (.d (.int room)), some (.c 1), some (.d (.list (zs.map .str))), some (.d (.list ((earl bk).map fun p => .tuple [.str p.1, .int p.2]))), x6, x7, x8] ∧ κ = [s, .ld (bk.map pctD)] ∧ isSrc s ∧ okBk room bk ∧ bk.length = i ∧ bk.map (·.name) = zs.take i)
    ⟨s2, [], none, none, none, rfl, rfl, hs2, (fun i p hp => by simp at hp), rfl, rfl⟩ ?_ ?_
  · rintro δ κ ⟨s, bk, x6, x7, x8, rfl, rfl, hs, hb, hbl, he⟩ _
    rw [List.length_map] at hbl
    exact ⟨_, _, (GhR.freeze (show 1 ≤ 2 by decide) 1 _ rfl).trans (GhR.take 1 (Nat.le_refl _) (show 1 ≤ 2 by decide) (src2_take hs.fz) rfl), h _ bk hs.fz hb (by omega) (by omega)⟩
  · rintro i x δ κ hx ⟨s, bk, x6, x7, x8, rfl, rfl, hs, hb, hbl, he⟩ _
    rw [List.getElem?_map] at hx
    obtain ⟨name, hg, rfl⟩ := Option.map_eq_some_iff.mp hx
    have hname := List.mem_of_getElem? hg
    have hil : i < zs.length := (List.getElem?_eq_some_iff.mp hg).1
    have hel : (earl bk).length = i := by unfold earl; rw [List.length_map]; exact hbl
    have hpct : ∀ q ∈ bk, ∃ er, okP room er q := fun q hq => by
      obtain ⟨j, hj⟩ := List.mem_iff_getElem?.mp hq
      exact ⟨_, hb j q hj⟩
    refine pick_w hs (by decide) (by decide) fun v3 s3 hs3 h30 h31 => ⟨Nat.zero_le _, ?_⟩
    refine names_w (tk := []) hs3 (by omega) (by omega) (Nat.zero_le _) fun ps s4 hs4 hpl hpnd hps => ?_
    refine ⟨[(.inr "parties", .list (ps.map .str)), (.inr "earlier", .list ((earl bk).map fun p => .tuple [.str p.1, .int p.2])), (.inr "room", .int room)], rfl, (show 3 ≤ 15 by decide), ?_⟩
    refine pick_w hs4 (by decide) (by decide) fun v5 s5 hs5 h50 h51 => ⟨Nat.zero_le _, ?_⟩
    refine names_w (tk := []) hs5 (by omega) (by omega) (Nat.zero_le _) fun lb s6 hs6 hll hlnd hlb => ?_
    refine ⟨_, .inr "labels", _, rfl, rfl, rfl, (by rw [mk_w]; exact (show 3 < sizeLine by decide)), ?_⟩
    refine ⟨(show 4 ≤ sizeLine by decide), pick_w hs6 (by decide) (by decide) fun v7 s7 hs7 h70 h71 => ?_⟩
    obtain ⟨w, hw, hwm, _⟩ := at_mem (xs := ([.int 1, .int 2, .int 3, .int 8] : List PyData)) h70 h71
    obtain ⟨dp, rfl, hdp⟩ := deeps hwm
    refine ⟨_, hw, _, .inr "deep", _, rfl, rfl, rfl, (by rw [mk_w, put_l]; exact (show 4 < sizeLine by decide)), ?_⟩
    have ok : okW (fun rm => wD ps (earl bk) rm lb dp) ps (earl bk) lb dp := ⟨fun x hx => (hps x hx).1, hpnd, by omega, by omega, fun e he => (by
      obtain ⟨q, hq, rfl⟩ := List.mem_map.mp he
      obtain ⟨er, oq⟩ := hpct q hq
      exact ⟨oq.n, oq.pp, oq.pl⟩), by omega, fun x hx => (hlb x hx).1, by omega, by omega, wd_std⟩
    refine body_w2 (d := 0) (ps := ps) (er := earl bk) (rm := room) (lb := lb) (dp := dp) (by rw [mk_w, put_l, put_d]; rfl) rfl hs7 ok (by decide) hdp hr0 hr1 (by decide) fun s8 body rm8 hs8 hbd hd8 h80 h81 => ?_
    refine ⟨fun δ κ => ∃ (s : Cell) (body : List Tr) (rm : Int), δ = [some (.c 0), some (.d (.int most)), some (.d (.int room)), some (.c 1), some (.d (.list (zs.map .str))), some (.d (.list ((earl bk).map fun p => .tuple [.str p.1, .int p.2]))), some (.d (.str name)), some (.c 2), some (.d (.tuple (dB body)))] ∧ κ = [s, .ld (bk.map pctD), .dK (wD ps (earl bk) rm lb dp)] ∧ isSrc s ∧ okB ps (earl bk) body ∧ dpB body ≤ 8 ∧ szB body ≤ room, ?_, ?_⟩
    · refine pick_w hs8 (by decide) (by decide) fun v9 s9 hs9 h90 h91 => bsel_i (fun _ => ?_) fun _ => ⟨s9, body, rm8, rfl, rfl, hs9, hbd, by omega, by omega⟩
      refine body_w2 (d := 0) (W := fun rm => wD ps (earl bk) rm lb dp) (rm := rm8) rfl rfl hs9 ok (by decide) hdp h80 (by omega) (by decide) fun s10 body2 rm10 hs10 hbd2 hd10 h100 h101 => ?_
      have c1 := szB_cnt body
      have c2 := szB_cnt body2
      refine ⟨by rw [dB_len, dB_len]; exact sl100 (by omega), s10, body ++ body2, rm10, ?_, rfl, hs10, okB_all.mpr fun s hs => ?_, dpB_le.mpr fun s hs => ?_, by rw [szB_app]; omega⟩
      · rw [dB_map (body ++ body2), List.map_append, ← dB_map, ← dB_map]; rfl
      · rcases List.mem_append.mp hs with q | q
        · exact okB_all.mp hbd s q
        · exact okB_all.mp hbd2 s q
      · rcases List.mem_append.mp hs with q | q
        · exact dpB_le.mp (show dpB body ≤ 8 by omega) s q
        · exact dpB_le.mp (show dpB body2 ≤ 8 by omega) s q
    · rintro δ κ ⟨s, body, rm, rfl, rfl, hs, hbd, hd, hm⟩ _
      refine ⟨rfl, _, .inr "parties", _, rfl, rfl, get_p, _, rfl, (show 4 ≤ sizeLine by decide), ?_, _, .inr "parties", _, rfl, rfl, get_p, (show 2 ≤ sizeLine by decide), (show 1 ≤ sizeLine by decide), ?_⟩
      · rw [List.length_map]; exact Nat.lt_of_lt_of_le (show bk.length < 100 by omega) (by decide)
      refine ⟨_, _, rfl, rfl, ?_, ?_⟩
      · rw [List.length_map]; exact sl100 (by show (earl bk).length + 1 ≤ _; omega)
      refine ⟨_, _, (GhS.wipe [6, 7, 8] (show 2 ≤ 3 by decide)).trans (GhS.take 2 (Nat.le_refl _) (show 2 ≤ 3 by decide) (src_take2 hs) rfl), s, bk ++ [⟨name, ps, body⟩], none, none, none, ?_, ?_, hs, hb.snoc ⟨(hz _ hname).1, fun e he' => ?_, ok.p, ok.pn, ok.pl, ok.pp, hbd, hd, hm⟩, by simp [hbl], ?_⟩
      · unfold earl; simp only [List.map_append, List.map_cons, List.map_nil, List.length_map]; rfl
      · simp only [List.map_append, List.map_cons, List.map_nil]; rfl
      · obtain ⟨q, hq, rfl⟩ := List.mem_map.mp he'
        have hqn : q.name ∈ zs.take i := by rw [← he]; exact List.mem_map.mpr ⟨q, hq, rfl⟩
        intro e
        have e : q.name = name := e
        rw [e] at hqn
        obtain ⟨j, hj⟩ := List.mem_iff_getElem?.mp hqn
        have hji : j < i := by have := (List.getElem?_eq_some_iff.mp hj).1; rw [List.length_take] at this; omega
        rw [List.getElem?_take_of_lt hji] at hj
        have := (List.getElem?_inj (by omega) hznd).mp (hj.trans hg.symm)
        omega
      · rw [List.map_append, he, List.take_add_one, hg]; rfl
theorem book_w {s : Cell} {κr : AK} {most room : Int} {E : AX → AK → Prop} {R : AR} (hs : isSrc s) (h0 : 0 < most) (h1 : most ≤ 10) (hr0 : 0 ≤ room) (hr1 : room ≤ 100)
    (k : ∀ (s' : Cell) (bk : List Pct), isSrc s' → okBk room bk → 0 < bk.length → bk.length ≤ most → R (.d (.list (bk.map pctD))) (s' :: κr)) :
    callW F__law_book E [.c 0, .d (.int most), .d (.int room)] (s :: κr) R :=
  callW_i ⟨[0], _, _, by decide, rfl, sel0 hs, s, most, room, rfl, rfl, hs, h0, h1, hr0, hr1, fun s' bk hs' hb h0 hl => ⟨Nat.le_refl _, cl1 hs', rfl, k s' bk hs' hb h0 hl⟩⟩
end Com
set_option Elab.async false
set_option linter.all false
set_option maxRecDepth 100000
set_option maxHeartbeats 4000000
/-! Tok: tokens, what the laws share -/
namespace Com
open PySem L2 Ab
/-! ### tokens -/
def marksS : List Str := ["(", ")", "{", "}", ",", ";", ":", "|"]
def isRunTok (w : Str) : Prop := ∃ c r, tl w = c :: r ∧ low c ∧ (∀ x ∈ r, run x) ∧ r.length ≤ 11
def tokW (w : Str) : Prop := isRunTok w ∨ w ∈ marksS ∨ w = "->"
def kindOf (w : Str) : Str := if w ∈ wordsL then ("word" : Str) else if w ∈ marksS ∨ w = "->" then ("mark" : Str) else ("name" : Str)
def tokD (w : Str) (p : Int) : PyData := .tuple [.str (kindOf w), .str w, .int p]
inductive Toks : List Nat → Nat → List (Str × Nat) → Prop
  | nil (n : Nat) : Toks [] n []
  | blank {c : Nat} {l : List Nat} {n : Nat} {ts} : blankC c → Toks l (n + 1) ts → Toks (c :: l) n ts
  | tok {w : Str} {l : List Nat} {n : Nat} {ts} : tokW w → (isRunTok w → ∀ c r, l = c :: r → ¬ run c) → Toks l (n + w.length) ts → Toks (tl w ++ l) n ((w, n) :: ts)
theorem marks_ok {w : Str} (h : w ∈ marksS) : ∃ c, w = ⟨#[c]⟩ ∧ ¬ run c ∧ ¬ low c ∧ ¬ blankC c ∧ w ∉ wordsL ∧ c ∈ tl "(){},;:|" ∧ w.length = 1 := by
  unfold marksS at h
  simp only [List.mem_cons, List.mem_nil_iff, or_false] at h
  rcases h with rfl | rfl | rfl | rfl | rfl | rfl | rfl | rfl
  · exact ⟨40, by decide +kernel, by decide, by decide, (fun h => by rcases h with h | h <;> cases h), by decide +kernel, by decide +kernel, by decide +kernel⟩
  · exact ⟨41, by decide +kernel, by decide, by decide, (fun h => by rcases h with h | h <;> cases h), by decide +kernel, by decide +kernel, by decide +kernel⟩
  · exact ⟨123, by decide +kernel, by decide, by decide, (fun h => by rcases h with h | h <;> cases h), by decide +kernel, by decide +kernel, by decide +kernel⟩
  · exact ⟨125, by decide +kernel, by decide, by decide, (fun h => by rcases h with h | h <;> cases h), by decide +kernel, by decide +kernel, by decide +kernel⟩
  · exact ⟨44, by decide +kernel, by decide, by decide, (fun h => by rcases h with h | h <;> cases h), by decide +kernel, by decide +kernel, by decide +kernel⟩
  · exact ⟨59, by decide +kernel, by decide, by decide, (fun h => by rcases h with h | h <;> cases h), by decide +kernel, by decide +kernel, by decide +kernel⟩
  · exact ⟨58, by decide +kernel, by decide, by decide, (fun h => by rcases h with h | h <;> cases h), by decide +kernel, by decide +kernel, by decide +kernel⟩
  · exact ⟨124, by decide +kernel, by decide, by decide, (fun h => by rcases h with h | h <;> cases h), by decide +kernel, by decide +kernel, by decide +kernel⟩
theorem arrow_tl : tl "->" = [45, 62] := by decide +kernel
theorem words_low : ∀ w ∈ wordsL, isRunTok w := by
  intro w h
  unfold wordsL at h
  simp only [List.mem_cons, List.mem_nil_iff, or_false] at h
  rcases h with rfl | rfl | rfl | rfl | rfl | rfl
  · exact ⟨112, [97, 99, 116], by decide +kernel, by decide, by decide, by decide⟩
  · exact ⟨101, [110, 100], by decide +kernel, by decide, by decide, by decide⟩
  · exact ⟨99, [104, 111, 105, 99, 101], by decide +kernel, by decide, by decide, by decide⟩
  · exact ⟨98, [111, 116, 104], by decide +kernel, by decide, by decide, by decide⟩
  · exact ⟨108, [111, 111, 112], by decide +kernel, by decide, by decide, by decide⟩
  · exact ⟨117, [115, 101], by decide +kernel, by decide, by decide, by decide⟩
theorem run_notMark {w : Str} (h : isRunTok w) : ¬ (w ∈ marksS ∨ w = "->") := by
  obtain ⟨c, r, e, hc, _⟩ := h
  rintro (hm | rfl)
  · obtain ⟨d, rfl, _, hd, _⟩ := marks_ok hm
    cases e
    exact hd hc
  · rw [arrow_tl] at e; cases e; exact absurd hc (by decide)
theorem kind_run {w : Str} (h : isRunTok w) : kindOf w = if w ∈ wordsL then ("word" : Str) else ("name" : Str) := by
  unfold kindOf; rw [if_neg (run_notMark h)]
theorem mark_notWord {w : Str} (h : w ∈ marksS ∨ w = "->") : w ∉ wordsL := fun hw => run_notMark (words_low w hw) h
theorem kind_mark {w : Str} (h : w ∈ marksS ∨ w = "->") : kindOf w = "mark" := by
  unfold kindOf; rw [if_neg (mark_notWord h), if_pos h]
theorem tok_ne {w : Str} (h : tokW w) : w ≠ "" := by
  rintro rfl
  rcases h with ⟨c, r, e, _⟩ | h | h
  · rw [tl_empty] at e; cases e
  · exact absurd h (by decide +kernel)
  · exact absurd h (by decide +kernel)
theorem tok_len {w : Str} (h : tokW w) : w.length ≤ 12 := by
  rcases h with ⟨c, r, e, _, _, h⟩ | h | rfl
  · rw [tl_len, e, List.length_cons]; omega
  · obtain ⟨c, rfl, _⟩ := marks_ok h
    show 1 ≤ 12; decide
  · rw [tl_len, arrow_tl]; decide
/-- a token of letters and digits at its place -/
structure RunAt (s : Str) (at' : Nat) (w : Str) (l : List Nat) : Prop where
  len : s.length ≤ 6000000
  ex : ∃ pre, tl s = pre ++ (tl w ++ l) ∧ pre.length = at'
def F__belongs_to_run : FSp := fun as κ R _ => ∃ c, as = [.d (.str ⟨#[c]⟩)] ∧ κ = [] ∧ R (.d (.bool (decide (run c)))) []
def F__run_at : FSp := fun as κ R _ => ∃ s at' w l, as = [.d (.str s), .d (.int (at' : Nat))] ∧ κ = [] ∧ RunAt s at' w l ∧ isRunTok w ∧ (∀ c r, l = c :: r → ¬ run c) ∧ R (.d (tokD w (at' : Nat))) []
def F__token_at : FSp := fun as κ R _ => ∃ s at' w l, as = [.d (.str s), .d (.int (at' : Nat))] ∧ κ = [] ∧ RunAt s at' w l ∧ tokW w ∧ (isRunTok w → ∀ c r, l = c :: r → ¬ run c) ∧ R (.d (tokD w (at' : Nat))) []
def F_tokenize : FSp := fun as κ R _ => ∃ s ts, as = [.d (.str s)] ∧ κ = [] ∧ s.length ≤ 6000000 ∧ Toks (tl s) 0 ts ∧ R (.c 0) [.ld (ts.map fun p => tokD p.1 (p.2 : Nat))]
def w_ARROW : PyData := .str "->"
def w_DIGITS : PyData := .str "0123456789"
def w_LETTERS : PyData := .str "abcdefghijklmnopqrstuvwxyz"
def w_LONGEST_NAME : PyData := .int 12
def w_MOST_BRACES : PyData := .int 8
def w_MOST_PACTS : PyData := .int 10
def w_MOST_PARTIES : PyData := .int 6
def w_SHORT_MARKS : PyData := .str "(){},;:|"
def w_STEP_WORDS : PyData := .tuple [.str "choice", .str "both", .str "loop", .str "use"]
def w_WORDS : PyData := .tuple [.str "pact", .str "end", .str "choice", .str "both", .str "loop", .str "use"]
abbrev N__belongs_to_run : List Str := ["sign"]
def a__belongs_to_run (K : PySem.W.Frag) : AS :=
  (aRet (aOrV (aOp (aIn id) (aVar 0) (aC (.d w_LETTERS))) (aOp (aIn id) (aVar 0) (aC (.d w_DIGITS)))))
abbrev N__run_at : List Str := ["text", "at", "behind", "run"]
def a__run_at (K : PySem.W.Frag) : AS :=
  (aSeq (aSet 2 (aVar 1)) (aCut (aWhile (aAnd (aB (aOp aLt (aVar 2) (aCB aLen (aCons (aVar 0) aNil)))) (aTru (aCall F__belongs_to_run (fun _ _ => False) (aCons (aOp aIx (aVar 0) (aVar 2)) aNil)))) (aAug 2 (aC (.d (.int 1))) (aI0 fun i j => i + j))) (aSeq (aSet 3 (aSl (aVar 0) (aPart (aVar 1)) (aPart (aVar 2)))) (aSeq (aIfS (aOr (aB (aOp (aIn id) (aOp aIx (aVar 3) (aC (.d (.int 0)))) (aC (.d w_DIGITS)))) (aB (aOp aGt (aCB aLen (aCons (aVar 3) aNil)) (aC (.d w_LONGEST_NAME))))) aNever aNext) (aSeq (aIfS (aB (aOp (aIn id) (aVar 3) (aC (.d w_WORDS)))) (aRet (aTup (aCons (aC (.d (.str "word"))) (aCons (aVar 3) (aCons (aVar 1) aNil))))) aNext) (aRet (aTup (aCons (aC (.d (.str "name"))) (aCons (aVar 3) (aCons (aVar 1) aNil))))))))))
abbrev N__token_at : List Str := ["text", "at"]
def a__token_at (K : PySem.W.Frag) : AS :=
  (aSeq (aIfS (aTru (aCall F__belongs_to_run (fun _ _ => False) (aCons (aOp aIx (aVar 0) (aVar 1)) aNil))) (aRet (aCall F__run_at (fun _ _ => False) (aCons (aVar 0) (aCons (aVar 1) aNil)))) aNext) (aSeq (aIfS (aB (aOp (aIn id) (aOp aIx (aVar 0) (aVar 1)) (aC (.d w_SHORT_MARKS)))) (aRet (aTup (aCons (aC (.d (.str "mark"))) (aCons (aOp aIx (aVar 0) (aVar 1)) (aCons (aVar 1) aNil))))) aNext) (aSeq (aIfS (aTru (aBM "str" aStarts3 (aVar 0) (aCons (aC (.d w_ARROW)) (aCons (aVar 1) aNil)))) (aRet (aTup (aCons (aC (.d (.str "mark"))) (aCons (aC (.d w_ARROW)) (aCons (aVar 1) aNil))))) aNext) aNever)))
abbrev N_tokenize : List Str := ["text", "tokens", "at", "token"]
def a_tokenize (K : PySem.W.Frag) : AS :=
  (aSeq (aSet 1 (aLst aNil)) (aSeq (aSet 2 (aC (.d (.int 0)))) (aCut (aWhile (aB (aOp aLt (aVar 2) (aCB aLen (aCons (aVar 0) aNil)))) (aIfS (aB (aOp (aIn id) (aOp aIx (aVar 0) (aVar 2)) (aC (.d (.str " \n"))))) (aAug 2 (aC (.d (.int 1))) (aI0 fun i j => i + j)) (aSeq (aSet 3 (aCall F__token_at (fun _ _ => False) (aCons (aVar 0) (aCons (aVar 2) aNil)))) (aSeq (aDrop (aBM "list" aAppend (aVar 1) (aCons (aVar 3) aNil))) (aAug 2 (aCB aLen (aCons (aOp aIx (aVar 3) (aC (.d (.int 1)))) aNil)) (aI0 fun i j => i + j)))))) (aRet (aVar 1)))))
variable {K : PySem.W.Frag}
/-! ### the program's own defs -/
theorem len__belongs_to_run : ∀ as κ R E', F__belongs_to_run as κ R E' → as.length = (["sign"] : List Str).length := by
  rintro as κ R E' ⟨c, rfl, _⟩; rfl
theorem letters_mem {c : Nat} : c ∈ tl "abcdefghijklmnopqrstuvwxyz" ↔ low c := by
  have h : tl "abcdefghijklmnopqrstuvwxyz" = (List.range 26).map (97 + ·) := by decide +kernel
  rw [h, List.mem_map]
  unfold low
  constructor
  · rintro ⟨i, hi, rfl⟩; rw [List.mem_range] at hi; omega
  · intro h; exact ⟨c - 97, by rw [List.mem_range]; omega, by omega⟩
theorem digits_mem {c : Nat} : c ∈ tl "0123456789" ↔ dig c := by
  have h : tl "0123456789" = (List.range 10).map (48 + ·) := by decide +kernel
  rw [h, List.mem_map]
  unfold dig
  constructor
  · rintro ⟨i, hi, rfl⟩; rw [List.mem_range] at hi; omega
  · intro h; exact ⟨c - 48, by rw [List.mem_range]; omega, by omega⟩
theorem rd__belongs_to_run : ∀ as κ R E', F__belongs_to_run as κ R E' → a__belongs_to_run K (endsA K κ.length R) (startA N__belongs_to_run as) κ := by
  rintro as κ R E' ⟨c, rfl, rfl, h⟩
  have fin : ∀ b : Bool, b = decide (run c) → (endsA K ([] : AK).length R).rt (.d (.bool b)) [] := fun b e => ⟨_, _, GhR.refl (Nat.le_refl _), by rw [e]; exact h⟩
  refine ⟨c, rfl, bsel_i (fun h1 => fin _ ?_) fun h1 => ⟨c, rfl, fin _ ?_⟩⟩
  · have h1 : decide (c ∈ tl "abcdefghijklmnopqrstuvwxyz") = true := h1
    rw [decide_eq_true (show run c from .inl (letters_mem.mp (of_decide_eq_true h1)))]
  · have h1 : decide (c ∈ tl "abcdefghijklmnopqrstuvwxyz") = false := h1
    have hl : ¬ low c := fun z => of_decide_eq_false h1 (letters_mem.mpr z)
    show decide (c ∈ tl "0123456789") = _
    by_cases hd : dig c
    · rw [decide_eq_true (digits_mem.mpr hd), decide_eq_true (show run c from .inr hd)]
    · rw [decide_eq_false (fun z => hd (digits_mem.mp z)), decide_eq_false (fun z : run c => z.elim hl hd)]
theorem bel_w {c : Nat} {κ : AK} {R : AR} {E : AX → AK → Prop} (h : R (.d (.bool (decide (run c)))) κ) : callW F__belongs_to_run E [.d (.str ⟨#[c]⟩)] κ R :=
  callW_i ⟨[], _, _, .nil, rfl, rfl, c, rfl, rfl, Nat.zero_le _, rfl, rfl, h⟩
theorem len__run_at : ∀ as κ R E', F__run_at as κ R E' → as.length = (["text", "at"] : List Str).length := by
  rintro as κ R E' ⟨s, a, w, l, rfl, _⟩; rfl
theorem RunAt.at' {s w : Str} {n : Nat} {l : List Nat} (h : RunAt s n w l) {j : Nat} (hj : j < w.length) : ∃ c, (tl s)[n + j]? = some c ∧ (tl w)[j]? = some c := by
  obtain ⟨pre, e, rfl⟩ := h.ex
  have hj' : j < (tl w).length := by rw [← tl_len]; exact hj
  refine ⟨(tl w)[j], ?_, List.getElem?_eq_getElem hj'⟩
  rw [e, List.getElem?_append_right (by omega), Nat.add_sub_cancel_left, List.getElem?_append_left hj', List.getElem?_eq_getElem hj']
theorem RunAt.slen {s w : Str} {n : Nat} {l : List Nat} (h : RunAt s n w l) : s.length = n + w.length + l.length := by
  obtain ⟨pre, e, rfl⟩ := h.ex
  rw [tl_len, e, List.length_append, List.length_append, ← tl_len]; omega
theorem RunAt.next {s w : Str} {n : Nat} {l : List Nat} (h : RunAt s n w l) : (tl s)[n + w.length]? = l[0]? := by
  obtain ⟨pre, e, rfl⟩ := h.ex
  rw [e, List.getElem?_append_right (by omega), Nat.add_sub_cancel_left, List.getElem?_append_right (by rw [tl_len]; omega), tl_len, Nat.sub_self]
theorem RunAt.cut {s w : Str} {n : Nat} {l : List Nat} (h : RunAt s n w l) : cutS s (some (n : Int)) (some ((n + w.length : Nat) : Int)) = w := by
  have hs := h.slen
  obtain ⟨pre, e, hp⟩ := h.ex
  apply tl_inj
  show ((tl s).drop (HT.sIx s.length 0 (some (n : Int)))).take _ = _
  rw [HT.sIx_nat, HT.sIx_nat, show min n s.length = n by omega, show min (n + w.length) s.length = n + w.length by omega, e, ← hp, List.drop_left, Nat.add_sub_cancel_left, tl_len, List.take_left]
theorem lt6 {n : Nat} (h : n ≤ 6000000) : n ≤ sizeLine := Nat.le_trans h (by decide)
theorem rd__run_at : ∀ as κ R E', F__run_at as κ R E' → a__run_at K (endsA K κ.length R) (startA N__run_at as) κ := by
  rintro as κ R E' ⟨s, n, w, l, rfl, rfl, hr, hw, hl, h⟩
  have hs := hr.slen
  have hsl := hr.len
  have fin : ∀ k : Str, k = kindOf w → (endsA K ([] : AK).length R).rt (.d (.tuple [.str k, .str w, .int (n : Nat)])) [] := fun k e => ⟨_, _, GhR.refl (Nat.le_refl _), by rw [e]; exact h⟩
  obtain ⟨c0, r0, e0, hc0, hr0, hr1⟩ := hw
  have hw : isRunTok w := ⟨c0, r0, e0, hc0, hr0, hr1⟩
  refine ⟨fun δ κ => δ = [some (.d (.str s)), some (.d (.int (n : Nat))), some (.d (.int ((n + w.length : Nat) : Int))), none] ∧ κ = [], ?_, ?_⟩
  · refine ⟨fun m δ κ => ∃ j, δ = [some (.d (.str s)), some (.d (.int (n : Nat))), some (.d (.int ((n + j : Nat) : Int))), none] ∧ κ = [] ∧ j ≤ w.length ∧ m = w.length - j, ⟨_, 0, rfl, rfl, Nat.zero_le _, rfl⟩, ?_⟩
    rintro m δ κ ⟨j, rfl, rfl, hj, rfl⟩ _
    have done : j = w.length → ([some (.d (.str s)), some (.d (.int (n : Nat))), some (.d (.int ((n + j : Nat) : Int))), none] : AD) = [some (.d (.str s)), some (.d (.int (n : Nat))), some (.d (.int ((n + w.length : Nat) : Int))), none] ∧ ([] : AK) = [] := by
      rintro rfl; exact ⟨rfl, rfl⟩
    refine ⟨lt6 hsl, bsel_i (fun hlt => ?_) fun hlt => ?_⟩
    · have hlt : decide (((n + j : Nat) : Int) < (s.length : Int)) = true := hlt
      have hlt := of_decide_eq_true hlt
      by_cases hjw : j < w.length
      · obtain ⟨c, h1, h2⟩ := hr.at' hjw
        have hrun : run c := by
          rw [e0] at h2
          cases j with
          | zero => cases h2; exact .inl hc0
          | succ j => exact hr0 c (List.mem_of_getElem? (by simpa using h2))
        refine ⟨c, lt6 hsl, at_nat h1, bel_w ?_⟩
        rw [decide_eq_true hrun]
        exact ⟨_, fun _ _ q => q, w.length - (j + 1), by omega, j + 1, rfl, rfl, hjw, rfl⟩
      · have ej : j = w.length := by omega
        have hn := hr.next
        have hl0 : 0 < l.length := by omega
        obtain ⟨c, r, rfl⟩ : ∃ c r, l = c :: r := by
          cases l with
          | nil => simp at hl0
          | cons c r => exact ⟨c, r, rfl⟩
        refine ⟨c, lt6 hsl, at_nat (by rw [ej]; exact hn), bel_w ?_⟩
        rw [decide_eq_false (hl c r rfl)]
        exact done ej
    · have hlt : decide (((n + j : Nat) : Int) < (s.length : Int)) = false := hlt
      have hlt := of_decide_eq_false hlt
      exact done (by omega)
  · rintro δ κ ⟨rfl, rfl⟩ _
    refine ⟨lt6 hsl, ?_⟩
    rw [hr.cut]
    have hlw : w.length ≤ 12 := by rw [tl_len, e0, List.length_cons]; omega
    refine ⟨c0, sl100 (by omega), at_nat (j := 0) (by show (tl w)[0]? = _; rw [e0]; rfl), c0, rfl, bsel_i (fun hd => ?_) fun hd => ⟨sl100 (by omega), bsel_i (fun hg => ?_) fun hg => ⟨rfl, rfl, bsel_i (fun hw' => ?_) fun hw' => ?_⟩⟩⟩
    · have hd : decide (c0 ∈ tl "0123456789") = true := hd
      have := digits_mem.mp (of_decide_eq_true hd)
      unfold dig at this; unfold low at hc0; omega
    · have hg : decide ((12 : Int) < (w.length : Int)) = true := hg
      have := of_decide_eq_true hg
      omega
    · have hw' : inD (.str w) (wordsL.map .str) = true := hw'
      rw [inD_str] at hw'
      refine ⟨(show 3 ≤ sizeLine by decide), fin _ ?_⟩
      rw [kind_run hw, if_pos (of_decide_eq_true hw')]
    · have hw' : inD (.str w) (wordsL.map .str) = false := hw'
      rw [inD_str] at hw'
      refine ⟨(show 3 ≤ sizeLine by decide), fin _ ?_⟩
      rw [kind_run hw, if_neg (of_decide_eq_false hw')]
theorem run_w {s : Str} {n : Nat} {w : Str} {l : List Nat} {κ : AK} {R : AR} {E : AX → AK → Prop} (h1 : RunAt s n w l) (h2 : isRunTok w) (h3 : ∀ c r, l = c :: r → ¬ run c) (h : R (.d (tokD w (n : Nat))) κ) : callW F__run_at E [.d (.str s), .d (.int (n : Nat))] κ R :=
  callW_i ⟨[], _, _, .nil, rfl, rfl, s, n, w, l, rfl, rfl, h1, h2, h3, Nat.zero_le _, rfl, rfl, h⟩
theorem starts_arrow {s : Str} {pre l : List Nat} (h : tl s = pre ++ ([45, 62] ++ l)) : Txt.startswith3 s "->" (pre.length : Int) = true := by
  have hf : PySem.fromIndex s.length (pre.length : Int) = pre.length := by
    unfold PySem.fromIndex
    rw [if_neg (by omega)]
    omega
  have hl : s.length = pre.length + 2 + l.length := by rw [tl_len, h]; simp; omega
  have h2 : ("->" : Str).length = 2 := by decide +kernel
  unfold Txt.startswith3
  rw [hf, h2, Bool.and_eq_true]
  refine ⟨decide_eq_true (by omega), ?_⟩
  unfold Builtin.Str.subAt
  rw [h2, beq_iff_eq]
  apply Array.toList_inj.mp
  rw [Array.toList_extract]
  show List.extract (tl s) _ _ = tl "->"
  rw [arrow_tl, h]
  show (List.drop _ _).take _ = _
  simp
theorem len__token_at : ∀ as κ R E', F__token_at as κ R E' → as.length = (["text", "at"] : List Str).length := by
  rintro as κ R E' ⟨s, a, w, l, rfl, _⟩; rfl
theorem rd__token_at : ∀ as κ R E', F__token_at as κ R E' → a__token_at K (endsA K κ.length R) (startA N__token_at as) κ := by
  rintro as κ R E' ⟨s, n, w, l, rfl, rfl, hr, hw, hl, h⟩
  have hsl := hr.len
  have fin : ∀ v, v = tokD w (n : Nat) → (endsA K ([] : AK).length R).rt (.d v) [] := fun v e => ⟨_, _, GhR.refl (Nat.le_refl _), by rw [e]; exact h⟩
  have first : ∀ {c r}, tl w = c :: r → (tl s)[n]? = some c := fun {c r} e => by
    obtain ⟨c', h1, h2⟩ := hr.at' (j := 0) (by rw [tl_len, e]; exact Nat.succ_pos _)
    rw [e] at h2; cases h2
    exact h1
  rcases hw with hw | hw | rfl
  · obtain ⟨c, r, e, hc, _⟩ := hw
    refine ⟨c, lt6 hsl, at_nat (first e), bel_w ?_⟩
    rw [decide_eq_true (show run c from .inl hc)]
    exact run_w hr ⟨c, r, e, hc, ‹_›⟩ (hl ⟨c, r, e, hc, ‹_›⟩) (fin _ rfl)
  · obtain ⟨c, rfl, hc, _, _, _, hm, _⟩ := marks_ok hw
    have f := first (c := c) (r := []) rfl
    refine ⟨c, lt6 hsl, at_nat f, bel_w ?_⟩
    rw [decide_eq_false hc]
    refine ⟨c, lt6 hsl, at_nat f, c, rfl, bsel_i (fun _ => ⟨c, lt6 hsl, at_nat f, (show 3 ≤ sizeLine by decide), fin _ ?_⟩) fun hn => ?_⟩
    · unfold tokD; rw [kind_mark (.inl hw)]
    · exact absurd hm (of_decide_eq_false (p := c ∈ tl "(){},;:|") hn)
  · have f := first arrow_tl
    refine ⟨45, lt6 hsl, at_nat f, bel_w ?_⟩
    refine ⟨45, lt6 hsl, at_nat f, 45, rfl, bsel_i (fun hy => ?_) fun hn => ⟨rfl, ?_⟩⟩
    · exact absurd (of_decide_eq_true (p := 45 ∈ tl "(){},;:|") hy) (by decide +kernel)
    · obtain ⟨pre, e, hp⟩ := hr.ex
      rw [arrow_tl] at e
      have hst := starts_arrow e
      rw [hp] at hst
      refine bsel_i (fun _ => ⟨(show 3 ≤ sizeLine by decide), fin _ ?_⟩) fun hf => ?_
      · unfold tokD; rw [kind_mark (.inr rfl)]; rfl
      · have hf : Txt.startswith3 s "->" (n : Int) = false := hf
        rw [hst] at hf; cases hf
theorem tokAt_w {s : Str} {n : Nat} {w : Str} {l : List Nat} {κ : AK} {R : AR} {E : AX → AK → Prop} (h1 : RunAt s n w l) (h2 : tokW w) (h3 : isRunTok w → ∀ c r, l = c :: r → ¬ run c) (h : R (.d (tokD w (n : Nat))) κ) : callW F__token_at E [.d (.str s), .d (.int (n : Nat))] κ R :=
  callW_i ⟨[], _, _, .nil, rfl, rfl, s, n, w, l, rfl, rfl, h1, h2, h3, Nat.zero_le _, rfl, rfl, h⟩
theorem len_tokenize : ∀ as κ R E', F_tokenize as κ R E' → as.length = (["text"] : List Str).length := by
  rintro as κ R E' ⟨s, ts, rfl, _⟩; rfl
theorem tok_first {w : Str} (h : tokW w) : ∃ c r, tl w = c :: r ∧ ¬ blankC c := by
  rcases h with ⟨c, r, e, hc, _⟩ | h | rfl
  · refine ⟨c, r, e, fun hb => ?_⟩
    unfold low at hc
    rcases hb with rfl | rfl <;> omega
  · obtain ⟨c, rfl, _, _, hb, _⟩ := marks_ok h
    exact ⟨c, [], rfl, hb⟩
  · exact ⟨45, [62], arrow_tl, fun hb => by rcases hb with h | h <;> cases h⟩
theorem toks_len : ∀ {l : List Nat} {n : Nat} {ts : List (Str × Nat)}, Toks l n ts → ts.length ≤ l.length
  | _, _, _, .nil _ => Nat.le_refl _
  | _, _, _, .blank _ h => Nat.le_succ_of_le (toks_len h)
  | _, _, _, .tok hw _ h => by
    have := toks_len h
    obtain ⟨c, r, e, _⟩ := tok_first hw
    rw [List.length_cons, List.length_append, e, List.length_cons]; omega
theorem rd_tokenize : ∀ as κ R E', F_tokenize as κ R E' → a_tokenize K (endsA K κ.length R) (startA N_tokenize as) κ := by
  rintro as κ R E' ⟨s, ts, rfl, rfl, hsl, ht, h⟩
  refine ⟨Nat.zero_le _, fun δ κ => (∃ x y, δ = [some (.d (.str s)), some (.c 0), x, y]) ∧ κ = [.ld (ts.map fun p => tokD p.1 (p.2 : Nat))], ?_, ?_⟩
  · refine ⟨fun m δ κ => ∃ n pre l ts1 ts2 y, δ = [some (.d (.str s)), some (.c 0), some (.d (.int (n : Nat))), y] ∧ κ = [.ld (ts1.map fun p => tokD p.1 (p.2 : Nat))] ∧ tl s = pre ++ l ∧ pre.length = n ∧ Toks l n ts2 ∧ ts = ts1 ++ ts2 ∧ m = l.length,
      ⟨_, 0, [], tl s, [], ts, none, rfl, rfl, rfl, rfl, ht, rfl, rfl⟩, ?_⟩
    rintro m δ κ ⟨n, pre, l, ts1, ts2, y, rfl, rfl, hsp, hpl, htk, rfl, rfl⟩ _
    have hlen : s.length = n + l.length := by rw [tl_len, hsp, List.length_append, hpl]
    cases htk with
    | nil n =>
      refine ⟨lt6 hsl, bsel_i (fun hlt => ?_) fun _ => ⟨⟨_, _, rfl⟩, by rw [List.append_nil]⟩⟩
      have hlt : decide (((n : Nat) : Int) < (s.length : Int)) = true := hlt
      have := of_decide_eq_true hlt
      simp at hlen; omega
    | @blank c l n ts hb htk =>
      refine ⟨lt6 hsl, bsel_i (fun _ => ?_) fun hlt => ?_⟩
      · refine ⟨_, fun _ _ q => q, c, lt6 hsl, at_nat (by show (tl s)[n]? = _; rw [hsp, List.getElem?_append_right (by omega), hpl, Nat.sub_self]; rfl), c, rfl, bsel_i (fun _ => ?_) fun hn => ?_⟩
        · exact ⟨l.length, Nat.lt_succ_self _, n + 1, pre ++ [c], l, ts1, _, y, rfl, rfl, by rw [hsp]; simp, by simp [hpl], htk, rfl, rfl⟩
        · have hn := of_decide_eq_false (p := c ∈ tl " \n") hn
          exact absurd (show c ∈ tl " \n" from by
            have e : tl " \n" = [32, 10] := by decide +kernel
            rw [e]; rcases hb with rfl | rfl <;> decide) hn
      · have hlt : decide (((n : Nat) : Int) < (s.length : Int)) = false := hlt
        have := of_decide_eq_false hlt
        simp at hlen; omega
    | @tok w l n ts hw hl htk =>
      obtain ⟨c, r, ew, hnb⟩ := tok_first hw
      have hwl : 0 < w.length := by rw [tl_len, ew]; exact Nat.succ_pos _
      rw [List.length_append, ← tl_len] at hlen
      have hlts := toks_len ht
      rw [← tl_len, List.length_append, List.length_cons] at hlts
      refine ⟨lt6 hsl, bsel_i (fun _ => ?_) fun hlt => ?_⟩
      · refine ⟨_, fun _ _ q => q, c, lt6 hsl, at_nat (by show (tl s)[n]? = _; rw [hsp, List.getElem?_append_right (by omega), hpl, Nat.sub_self, ew]; rfl), c, rfl, bsel_i (fun hb => ?_) fun hn => ?_⟩
        · have hb := of_decide_eq_true (p := c ∈ tl " \n") hb
          have e : tl " \n" = [32, 10] := by decide +kernel
          rw [e] at hb
          exact absurd (show blankC c from by simpa [blankC] using hb) hnb
        · refine tokAt_w ⟨hsl, pre, hsp, hpl⟩ hw hl ?_
          refine ⟨rfl, ?_, _, at_nat (j := 1) rfl, ?_, l.length, ?_, n + w.length, pre ++ tl w, l, ts1 ++ [(w, n)], _, _, rfl, ?_, by rw [hsp]; simp, ?_, htk, by simp, rfl⟩
          · rw [List.length_map]; exact Nat.lt_of_lt_of_le (show ts1.length < 7000000 by omega) (by decide)
          · exact Nat.le_trans (tok_len hw) (by decide)
          · rw [List.length_append, ← tl_len]; omega
          · rw [List.map_append]; rfl
          · rw [List.length_append, ← tl_len, hpl]
      · have hlt : decide (((n : Nat) : Int) < (s.length : Int)) = false := hlt
        have := of_decide_eq_false hlt
        omega
  · rintro δ κ ⟨⟨x, y, rfl⟩, rfl⟩ _
    exact ⟨_, _, GhR.refl (Nat.zero_le _), h⟩
theorem name_tok {z : Str} (h : isName z) : tokW z := by
  obtain ⟨⟨c, r, e, h1, h2, h3⟩, _⟩ := h
  exact .inl ⟨c, r, e, h1, h2, h3⟩
/-! ### spread words are tokens -/
def plcN (n : Nat) : List Piece → List (Str × Nat)
  | [] => []
  | p :: ps => (p.2, n + p.1.length) :: plcN (n + p.1.length + p.2.length) ps
theorem plc_len : ∀ (n : Nat) (ps : List Piece), (plc n ps).length = ps.length
  | _, [] => rfl
  | _, p :: ps => by show (plc _ ps).length + 1 = _; rw [plc_len]; rfl
theorem zip_plc : ∀ (n : Nat) (ps : List Piece), ((ps.map (·.2)).zip (plc n ps)).map (fun p => tokD p.1 p.2) = (plcN n ps).map fun p => tokD p.1 (p.2 : Nat)
  | _, [] => rfl
  | n, p :: ps => by
    show tokD p.2 _ :: _ = tokD p.2 _ :: _
    rw [← zip_plc _ ps]
    rfl
theorem toks_blanks : ∀ {b l : List Nat} {n : Nat} {ts}, (∀ c ∈ b, blankC c) → Toks l (n + b.length) ts → Toks (b ++ l) n ts
  | [], _, _, _, _, h => h
  | c :: b, l, n, ts, hb, h => .blank (hb c (List.mem_cons_self ..)) (toks_blanks (b := b) (fun x hx => hb x (List.mem_cons_of_mem _ hx)) (by rw [List.length_cons] at h; rw [show n + 1 + b.length = n + (b.length + 1) by omega]; exact h))
theorem runTok_last {w : Str} (h : isRunTok w) : runLast w := by
  obtain ⟨c, r, e, hc, hr, _⟩ := h
  obtain ⟨r', c', e'⟩ := ne_last (w := w) (fun z => by rw [z, tl_empty] at e; cases e)
  refine ⟨r', c', e', ?_⟩
  have hm : c' ∈ tl w := by rw [e']; simp
  rw [e] at hm
  rcases List.mem_cons.mp hm with rfl | hm
  · exact .inl hc
  · exact hr _ hm
theorem sep_tail {p : Piece} {ps : List Piece} (h : Sep (p :: ps)) : Sep ps := fun k a b h1 h2 => h (k + 1) a b (by simpa using h1) (by simpa using h2)
theorem blank_not {c : Nat} (h : blankC c) : ¬ run c := by
  rcases h with rfl | rfl <;> decide
theorem spread_toks (bl : Str) (hbl : isBlank bl) : ∀ (ps : List Piece) (n : Nat), (∀ p ∈ ps, isBlank p.1 ∧ tokW p.2) → Sep ps → Toks (txt ps ++ tl bl) n (plcN n ps)
  | [], n, _, _ => by
    have := toks_blanks (b := tl bl) (l := []) (n := n) (ts := []) hbl.1 (.nil _)
    rw [List.append_nil] at this
    exact this
  | p :: ps, n, hp, hs => by
    obtain ⟨h1, h2⟩ := hp p (List.mem_cons_self ..)
    have ih := spread_toks bl hbl ps (n + p.1.length + p.2.length) (fun q hq => hp q (List.mem_cons_of_mem _ hq)) (sep_tail hs)
    have e : txt (p :: ps) ++ tl bl = tl p.1 ++ (tl p.2 ++ (txt ps ++ tl bl)) := by
      unfold txt; rw [List.flatMap_cons]; simp
    rw [e]
    refine toks_blanks h1.1 ?_
    rw [← tl_len]
    refine .tok h2 (fun hr c r hcr => ?_) ih
    -- what stands behind a name
    cases ps with
    | nil =>
      have hcr : tl bl = c :: r := hcr
      exact blank_not (hbl.1 c (by rw [hcr]; exact List.mem_cons_self ..))
    | cons q ps =>
      obtain ⟨h3, h4⟩ := hp q (List.mem_cons_of_mem _ (List.mem_cons_self ..))
      have e2 : txt (q :: ps) ++ tl bl = tl q.1 ++ (tl q.2 ++ (txt ps ++ tl bl)) := by
        unfold txt; rw [List.flatMap_cons]; simp
      rw [e2] at hcr
      cases eb : tl q.1 with
      | cons d b =>
        rw [eb] at hcr
        cases hcr
        exact blank_not (h3.1 c (by rw [eb]; exact List.mem_cons_self ..))
      | nil =>
        obtain ⟨c2, r2, e3, _⟩ := tok_first h4
        rw [eb, e3] at hcr
        cases hcr
        intro hrun
        exact hs 0 p q rfl rfl (runTok_last hr) ⟨c, r2, e3, hrun⟩ (tl_inj (eb.trans tl_empty.symm))
theorem toks_of {ws : List Str} {text : Str} {places : List Int} (h : Spread ws text places) (hw : ∀ w ∈ ws, tokW w) :
    ∃ ts, Toks (tl text) 0 ts ∧ (ws.zip places).map (fun p => tokD p.1 p.2) = ts.map (fun p => tokD p.1 (p.2 : Nat)) ∧ places.length = ws.length := by
  obtain ⟨b0, bl, ps, rfl, hb0, hbl, hb, hsep, ht, rfl⟩ := h.ex
  refine ⟨plcN b0.length ps, ?_, zip_plc _ _, by rw [plc_len, List.length_map]⟩
  rw [ht, List.append_assoc]
  refine toks_blanks hb0.1 ?_
  rw [Nat.zero_add, ← tl_len]
  exact spread_toks bl hbl ps _ (fun p hp => ⟨hb p hp, hw _ (List.mem_map.mpr ⟨p, hp, rfl⟩)⟩) hsep
theorem tokens_dep {ts : List (Str × Nat)} (h : ts.length ≤ 7000000) : sdep 5 (.list (ts.map fun p => tokD p.1 (p.2 : Nat))) := by
  refine ⟨by rw [List.length_map]; omega, fun d hd => ?_⟩
  obtain ⟨p, _, rfl⟩ := List.mem_map.mp hd
  refine ⟨(show 3 < 2 ^ 62 by decide), fun x hx => ?_⟩
  simp only [List.mem_cons, List.mem_nil_iff, or_false] at hx
  rcases hx with rfl | rfl | rfl <;> trivial
theorem tokenize_w {s : Str} {ts : List (Str × Nat)} {κ : AK} {R : AR} {E : AX → AK → Prop} (h1 : s.length ≤ 6000000) (h2 : Toks (tl s) 0 ts) (h : R (.c (κ.length + 0)) (κ ++ [.ld (ts.map fun p => tokD p.1 (p.2 : Nat))])) : callW F_tokenize E [.d (.str s)] κ R :=
  callW_i ⟨[], _, _, .nil, rfl, rfl, s, ts, rfl, rfl, h1, h2, Nat.zero_le _, rfl, rfl, h⟩
end Com
set_option Elab.async false
set_option linter.all false
set_option maxRecDepth 100000
set_option maxHeartbeats 4000000
/-! Rea1: the words of trees; what the law says of them -/
namespace Com
open PySem L2 Ab
theorem bsel_t {b : Bool} {A C : Prop} (e : b = true) (h : A) : bsel b A C := bsel_i (fun _ => h) fun z => by rw [e] at z; cases z
theorem bsel_f {b : Bool} {A C : Prop} (e : b = false) (h : C) : bsel b A C := bsel_i (fun z => by rw [e] at z; cases z) fun _ => h
/-! ### words -/
def sk (s : Str) : List (List Str) → List Str
  | [] => []
  | x :: xs => s :: (x ++ sk s xs)
def sj (s : Str) : List (List Str) → List Str
  | [] => []
  | x :: xs => x ++ sk s xs
def wL (qs : List Str) : List Str := ("(" : Str) :: (sj "," (qs.map fun q => [q]) ++ ([(")" : Str)] : List Str))
mutual
def pS : Tr → List Str
  | .letter a b c => [a, "->", b, ":", c]
  | .use n qs => "use" :: n :: wL qs
  | .loop b => "loop" :: "{" :: (sj ";" (pB b) ++ ([("}" : Str)] : List Str))
  | .br w bs => brW w :: "{" :: (sj "|" (pBs bs) ++ ([("}" : Str)] : List Str))
def pB : List Tr → List (List Str)
  | [] => []
  | s :: b => pS s :: pB b
def pBs : List (List Tr) → List (List Str)
  | [] => []
  | b :: bs => sj ";" (pB b) :: pBs bs
end
abbrev wB (b : List Tr) : List Str := sj ";" (pB b)
def wP (p : Pct) : List Str := "pact" :: p.name :: (wL p.ps ++ (wB p.body ++ ([("end" : Str)] : List Str)))
def wBk (bk : List Pct) : List Str := bk.flatMap wP
theorem pB_map (b : List Tr) : pB b = b.map pS := by
  induction b with
  | nil => rfl
  | cons s b ih => show pS s :: pB b = _; rw [ih]; rfl
theorem pBs_map (bs : List (List Tr)) : pBs bs = bs.map wB := by
  induction bs with
  | nil => rfl
  | cons s b ih => show wB s :: pBs b = _; rw [ih]; rfl
theorem sk_app (s : Str) (ys : List (List Str)) : ∀ xs, sk s (xs ++ ys) = sk s xs ++ sk s ys
  | [] => rfl
  | x :: xs => by show s :: (x ++ sk s (xs ++ ys)) = s :: (x ++ sk s xs) ++ sk s ys; rw [sk_app s ys xs]; simp
theorem sj_snoc (s : Str) (y : List Str) : ∀ xs, sj s (xs ++ [y]) = (if xs = [] then [] else sj s xs ++ [s]) ++ y
  | [] => by show y ++ [] = [] ++ y; simp
  | x :: xs => by
    rw [if_neg (by simp)]
    show x ++ sk s (xs ++ [y]) = _
    rw [sk_app]
    show x ++ (sk s xs ++ s :: (y ++ [])) = (x ++ sk s xs ++ [s]) ++ y
    simp
theorem sk_len (s : Str) : ∀ xs, (sk s xs).length = (xs.map fun x => x.length + 1).sum
  | [] => rfl
  | x :: xs => by
    show (s :: (x ++ sk s xs)).length = _
    rw [List.length_cons, List.length_append, sk_len s xs, List.map_cons, List.sum_cons]; omega
theorem sk_one (s : Str) (x : List Str) : ∀ {xs : List (List Str)}, x ∈ xs → x.length ≤ (sk s xs).length
  | y :: xs, h => by
    show _ ≤ (s :: (y ++ sk s xs)).length
    rw [List.length_cons, List.length_append]
    rcases List.mem_cons.mp h with rfl | h
    · omega
    · have := sk_one s x h; omega
theorem sj_one (s : Str) {x : List Str} : ∀ {xs : List (List Str)}, x ∈ xs → x.length ≤ (sj s xs).length
  | y :: xs, h => by
    show _ ≤ (y ++ sk s xs).length
    rw [List.length_append]
    rcases List.mem_cons.mp h with rfl | h
    · omega
    · have := sk_one s x h; omega
theorem sk_cnt (s : Str) : ∀ xs : List (List Str), xs.length ≤ (sk s xs).length
  | [] => Nat.le_refl _
  | x :: xs => by
    have := sk_cnt s xs
    show xs.length + 1 ≤ (s :: (x ++ sk s xs)).length
    rw [List.length_cons, List.length_append]; omega
theorem sj_cnt (s : Str) (xs : List (List Str)) : xs.length ≤ (sj s xs).length + 1 := by
  cases xs with
  | nil => exact Nat.zero_le _
  | cons x xs =>
    have := sk_cnt s xs
    show xs.length + 1 ≤ (x ++ sk s xs).length + 1
    rw [List.length_append]; omega
theorem sj_len (s : Str) (xs : List (List Str)) : (sj s xs).length ≤ (xs.map fun x => x.length + 1).sum := by
  cases xs with
  | nil => exact Nat.le_refl _
  | cons x xs =>
    show (x ++ sk s xs).length ≤ _
    rw [List.length_append, sk_len, List.map_cons, List.sum_cons]; omega
theorem sj_take (s : Str) {xs : List (List Str)} {i : Nat} {y : List Str} (h : xs[i]? = some y) : sj s (xs.take (i + 1)) = (if i = 0 then [] else sj s (xs.take i) ++ [s]) ++ y := by
  have hl := (List.getElem?_eq_some_iff.mp h).1
  rw [List.take_add_one, h]
  show sj s (xs.take i ++ [y]) = _
  rw [sj_snoc]
  by_cases h0 : i = 0
  · subst h0; rfl
  · rw [if_neg h0, if_neg]
    intro e
    have := congrArg List.length e
    rw [List.length_take] at this
    rw [Nat.min_eq_left (by omega)] at this
    exact h0 this
theorem sj_take_len (s : Str) (xs : List (List Str)) (i : Nat) : (sj s (xs.take i)).length ≤ (sj s xs).length := by
  cases xs with
  | nil => simp [sj]
  | cons x xs =>
    cases i with
    | zero => exact Nat.zero_le _
    | succ i =>
      show (x ++ sk s (xs.take i)).length ≤ (x ++ sk s xs).length
      have e : sk s xs = sk s (xs.take i) ++ sk s (xs.drop i) := by rw [← sk_app, List.take_append_drop]
      rw [List.length_append, List.length_append, e, List.length_append]; omega
theorem wL_len (qs : List Str) : (wL qs).length = 2 * qs.length + (if qs = [] then 2 else 1) := by
  cases qs with
  | nil => rfl
  | cons q qs =>
    rw [if_neg (by simp)]
    show (("(" : Str) :: (([q] ++ sk "," (qs.map fun q => [q])) ++ ([(")" : Str)] : List Str))).length = _
    rw [List.length_cons, List.length_append, List.length_append, sk_len, List.map_map]
    have : (qs.map ((fun x : List Str => x.length + 1) ∘ fun q => [q])).sum = 2 * qs.length := sum_const 2 qs
    rw [this]
    simp; omega
/-! the words of a body, how many -/
mutual
theorem pS_len {ps : List Str} {er : List (Str × Nat)} (hp : ps.length ≤ 6) : ∀ t : Tr, okS ps er t → (pS t).length + 1 ≤ 24 * szS t
  | .letter a b c, _ => by show 5 + 1 ≤ 24 * 1; omega
  | .use n qs, h => by
    have h1 : qs.length ≤ ps.length := List.Nodup.length_le_of_subset h.2.1 fun x hx => h.2.2 x hx
    have h2 := wL_len qs
    show (wL qs).length + 2 + 1 ≤ 24 * 1
    split at h2 <;> omega
  | .loop b, h => by
    have ih := pB_len hp b h
    show (sj ";" (pB b) ++ ([("}" : Str)] : List Str)).length + 2 + 1 ≤ 24 * (szB b + 1)
    rw [List.length_append]; simp only [List.length_cons, List.length_nil]; omega
  | .br w bs, h => by
    have ih := pBs_len hp bs h.2.2
    have h3 := h.2.1
    have h4 := sj_len "|" (pBs bs)
    show (sj "|" (pBs bs) ++ ([("}" : Str)] : List Str)).length + 2 + 1 ≤ 24 * (szBs bs + 1)
    rw [List.length_append]; simp only [List.length_cons, List.length_nil]; omega
theorem pB_len {ps : List Str} {er : List (Str × Nat)} (hp : ps.length ≤ 6) : ∀ b : List Tr, okB ps er b → (sj ";" (pB b)).length ≤ 24 * szB b ∧ ((pB b).map fun x => x.length + 1).sum ≤ 24 * szB b
  | [], _ => ⟨Nat.zero_le _, Nat.zero_le _⟩
  | s :: b, h => by
    have h1 := pS_len hp s h.1
    have h2 := pB_len hp b h.2
    have h3 : ((pB (s :: b)).map fun x => x.length + 1).sum ≤ 24 * szB (s :: b) := by
      show (pS s).length + 1 + ((pB b).map fun x => x.length + 1).sum ≤ 24 * (szS s + szB b); omega
    exact ⟨Nat.le_trans (sj_len _ _) h3, h3⟩
theorem pBs_len {ps : List Str} {er : List (Str × Nat)} (hp : ps.length ≤ 6) : ∀ bs : List (List Tr), okBs ps er bs → ((pBs bs).map fun x => x.length + 1).sum ≤ 24 * szBs bs + bs.length
  | [], _ => Nat.zero_le _
  | b :: bs, h => by
    have h1 := (pB_len hp b h.1).1
    have h2 := pBs_len hp bs h.2
    show (sj ";" (pB b)).length + 1 + ((pBs bs).map fun x => x.length + 1).sum ≤ 24 * (szB b + szBs bs) + (bs.length + 1); omega
end
/-! a tree as data, its word with an equation -/
inductive TrV : Tr → PyData → Prop
  | letter (w a b c : Str) : w = "letter" → TrV (.letter a b c) (.tuple [.str w, .str a, .str b, .str c])
  | use (w n : Str) (qs : List Str) : w = "use" → TrV (.use n qs) (.tuple [.str w, .str n, .tuple (qs.map .str)])
  | loop (w : Str) (b : List Tr) : w = "loop" → TrV (.loop b) (.tuple [.str w, .tuple (dB b)])
  | br (w : Str) (v : Bool) (bs : List (List Tr)) : w = brW v → (w = "choice" ∨ w = "both") → TrV (.br v bs) (.tuple [.str w, .tuple (dBs bs)])
theorem trV (t : Tr) : TrV t (dS t) := by
  cases t with
  | letter a b c => exact .letter _ a b c rfl
  | use n qs => exact .use _ n qs rfl
  | loop b => exact .loop _ b rfl
  | br v bs =>
    refine .br _ v bs rfl ?_
    cases v with
    | true => exact .inr rfl
    | false => exact .inl rfl
/-! ### the law's words -/
variable {K : PySem.W.Frag}
theorem sep_asg {x0 : Option AV} {κ : AK} {A : AEnds} {s : Str} {ws zs : List Str} {i : Nat} {f : AE} (hf : ∀ R' : AR, R' (.d (.list (zs.map .str))) κ → f [x0, some (.d (.list (ws.map .str))), some (.d (.int (0 + (i : Int))))] κ R')
    (hz : ws.length + zs.length ≤ 60000) (h : A.nx [x0, some (.d (.list (((if i = 0 then ws else ws ++ [s]) ++ zs).map .str))), some (.d (.int (0 + (i : Int))))] κ) :
    aSet 1 (aOp (aCat false) (aOp (aCat false) (aVar 1) (aOp aMulL (aLstD (aCons (aC (.d (.str s))) aNil)) (aCB aIntOf (aCons (aOp aGt (aVar 2) (aC (.d (.int 0)))) aNil)))) f) A [x0, some (.d (.list (ws.map .str))), some (.d (.int (0 + (i : Int))))] κ := by
  refine ⟨(show 1 ≤ sizeLine by decide), ?_⟩
  have b1 : (ws.map PyData.str).length + ([] : List PyData).length ≤ sizeLine := by rw [List.length_map]; exact sl100 (by show ws.length + 0 ≤ _; omega)
  have b2 : (ws.map PyData.str).length + ([.str s] : List PyData).length ≤ sizeLine := by rw [List.length_map]; exact sl100 (by show ws.length + 1 ≤ _; omega)
  by_cases h0 : i = 0
  · subst h0
    rw [if_pos rfl] at h
    refine .inl ⟨rfl, ws.map .str, [], rfl, rfl, b1, hf _ ⟨ws.map .str ++ [], zs.map .str, rfl, rfl, ?_, ?_⟩⟩
    · rw [List.length_append, List.length_map, List.length_map]; exact sl100 (by show ws.length + 0 + zs.length ≤ _; omega)
    · have e : ws.map PyData.str ++ [] ++ zs.map PyData.str = (ws ++ zs).map PyData.str := by simp
      rw [e]; exact h
  · rw [if_neg h0] at h
    have hd : decide ((0 : Int) < 0 + (i : Int)) = true := decide_eq_true (by omega)
    refine .inr ⟨?_, ws.map .str, [.str s], rfl, rfl, b2, hf _ ⟨ws.map .str ++ [.str s], zs.map .str, rfl, rfl, ?_, ?_⟩⟩
    · show (if decide ((0 : Int) < 0 + (i : Int)) = true then (1 : Int) else 0) = 1
      rw [hd]; rfl
    · rw [List.length_append, List.length_map, List.length_map]; exact sl100 (by show ws.length + 1 + zs.length ≤ _; omega)
    · have e : ws.map PyData.str ++ [.str s] ++ zs.map PyData.str = (ws ++ [s] ++ zs).map PyData.str := by simp
      rw [e]; exact h
def F__law_listed : FSp := fun as κ R _ => ∃ qs : List Str, as = [.d (.tuple (qs.map .str))] ∧ κ = [] ∧ qs.length ≤ 10000 ∧ R (.d (.list ((wL qs).map .str))) []
abbrev N__law_listed : List Str := ["names", "words", "k"]
def a__law_listed (K : PySem.W.Frag) : AS :=
  (aSeq (aSet 1 (aLstD (aCons (aC (.d (.str "("))) aNil))) (aSeq (aFor (aRng1 (aCons (aCB aLen (aCons (aVar 0) aNil)) aNil)) (aName 2) (aSet 1 (aOp (aCat false) (aOp (aCat false) (aVar 1) (aOp aMulL (aLstD (aCons (aC (.d (.str ","))) aNil)) (aCB aIntOf (aCons (aOp aGt (aVar 2) (aC (.d (.int 0)))) aNil)))) (aLstD (aCons (aOp aIx (aVar 0) (aVar 2)) aNil))))) (aRet (aOp (aCat false) (aVar 1) (aLstD (aCons (aC (.d (.str ")"))) aNil))))))
theorem len__law_listed : ∀ as κ R E', F__law_listed as κ R E' → as.length = (["names"] : List Str).length := by
  rintro as κ R E' ⟨qs, rfl, _⟩; rfl
theorem rd__law_listed : ∀ as κ R E', F__law_listed as κ R E' → a__law_listed K (endsA K κ.length R) (startA N__law_listed as) κ := by
  rintro as κ R E' ⟨qs, rfl, rfl, hq, h⟩
  have lq : (qs.map PyData.str).length = qs.length := List.length_map ..
  refine ⟨(show 1 ≤ sizeLine by decide), by omega, by omega, ?_⟩
  have hlen : ∀ i, (sj "," ((qs.map fun q => [q]).take i)).length ≤ 20001 := fun i => by
    have h1 := sj_take_len "," (qs.map fun q => [q]) i
    have h2 := wL_len qs
    unfold wL at h2
    rw [List.length_cons, List.length_append] at h2
    simp only [List.length_cons, List.length_nil] at h2
    split at h2 <;> omega
  refine for_r (fun i δ κ => ∃ (ws : List Str) (k : Option AV), δ = [some (.d (.tuple (qs.map .str))), some (.d (.list (ws.map .str))), k] ∧ κ = [] ∧ ws = ("(" : Str) :: sj "," ((qs.map fun q => [q]).take i))
    ⟨[("(" : Str)], none, rfl, rfl, rfl⟩ ?_ ?_
  · rintro δ κ ⟨ws, k, rfl, rfl, hw⟩ _
    have e : ((qs.map PyData.str).length : Int).toNat = qs.length := by omega
    have hl := hlen qs.length
    rw [e] at hw
    have hl2 : ws.length ≤ 30000 := by rw [hw, List.length_cons]; omega
    rw [List.take_of_length_le (by simp)] at hw
    refine ⟨(show 1 ≤ sizeLine by decide), _, [.str ")"], rfl, rfl, ?_, _, _, GhR.refl (Nat.le_refl _), ?_⟩
    · rw [List.length_map]; exact sl100 (by show ws.length + 1 ≤ _; omega)
    · have e2 : ws.map PyData.str ++ [.str ")"] = (wL qs).map .str := by rw [hw]; unfold wL; simp
      rw [e2]; exact h
  · rintro i δ κ hi ⟨ws, k, rfl, rfl, hw⟩ _
    have hi' : i < qs.length := by omega
    have hl := hlen i
    have hq1 : (qs.map fun q => [q])[i]? = some [qs[i]] := by rw [List.getElem?_map, List.getElem?_eq_getElem hi']; rfl
    have hq2 : (qs.map PyData.str)[i]? = some (.str qs[i]) := by rw [List.getElem?_map, List.getElem?_eq_getElem hi']; rfl
    refine sep_asg (zs := [qs[i]]) (fun R' h' => ⟨_, ?_, (show 1 ≤ sizeLine by decide), h'⟩) ?_ ⟨_, _, rfl, rfl, ?_⟩
    · rw [Int.zero_add]; exact at_nat hq2
    · rw [hw, List.length_cons]; simp only [List.length_cons, List.length_nil]; omega
    · rw [sj_take "," hq1]
      subst hw
      by_cases h0 : i = 0
      · subst h0; rfl
      · rw [if_neg h0, if_neg h0]; rfl
theorem listed_w {qs : List Str} {κ : AK} {R : AR} {E : AX → AK → Prop} (hq : qs.length ≤ 10000) (h : R (.d (.list ((wL qs).map .str))) κ) : callW F__law_listed E [.d (.tuple (qs.map .str))] κ R :=
  callW_i ⟨[], _, _, .nil, rfl, rfl, qs, rfl, rfl, hq, Nat.zero_le _, rfl, rfl, h⟩
def FF__law_said (n : Nat) : FSp := fun as κ R _ => ∃ t : Tr, as = [.d (dS t)] ∧ κ = [] ∧ (pS t).length ≤ 20000 ∧ 2 * dpS t + 1 ≤ n ∧ R (.d (.list ((pS t).map .str))) []
def FF__law_body_said (n : Nat) : FSp := fun as κ R _ => ∃ b : List Tr, as = [.d (.tuple (dB b))] ∧ κ = [] ∧ (wB b).length ≤ 20000 ∧ 2 * dpB b + 2 ≤ n ∧ R (.d (.list ((wB b).map .str))) []
abbrev N__law_said : List Str := ["step", "words", "k"]
def a__law_said (K : PySem.W.Frag) (F_self__law_body_said : FSp) : AS :=
  (aSeq (aIfS (aB (aOp aEq (aOp aIx (aVar 0) (aC (.d (.int 0)))) (aC (.d (.str "letter"))))) (aRet (aLstD (aCons (aOp aIx (aVar 0) (aC (.d (.int 1)))) (aCons (aC (.d (.str "->"))) (aCons (aOp aIx (aVar 0) (aC (.d (.int 2)))) (aCons (aC (.d (.str ":"))) (aCons (aOp aIx (aVar 0) (aC (.d (.int 3)))) aNil))))))) aNext) (aSeq (aIfS (aB (aOp aEq (aOp aIx (aVar 0) (aC (.d (.int 0)))) (aC (.d (.str "use"))))) (aRet (aOp (aCat false) (aLstD (aCons (aC (.d (.str "use"))) (aCons (aOp aIx (aVar 0) (aC (.d (.int 1)))) aNil))) (aCall F__law_listed (fun _ _ => False) (aCons (aOp aIx (aVar 0) (aC (.d (.int 2)))) aNil)))) aNext) (aSeq (aIfS (aB (aOp aEq (aOp aIx (aVar 0) (aC (.d (.int 0)))) (aC (.d (.str "loop"))))) (aRet (aOp (aCat false) (aOp (aCat false) (aLstD (aCons (aC (.d (.str "loop"))) (aCons (aC (.d (.str "{"))) aNil))) (aCall F_self__law_body_said (fun _ _ => False) (aCons (aOp aIx (aVar 0) (aC (.d (.int 1)))) aNil))) (aLstD (aCons (aC (.d (.str "}"))) aNil)))) aNext) (aSeq (aSet 1 (aLstD (aCons (aOp aIx (aVar 0) (aC (.d (.int 0)))) (aCons (aC (.d (.str "{"))) aNil)))) (aSeq (aFor (aRng1 (aCons (aCB aLen (aCons (aOp aIx (aVar 0) (aC (.d (.int 1)))) aNil)) aNil)) (aName 2) (aSet 1 (aOp (aCat false) (aOp (aCat false) (aVar 1) (aOp aMulL (aLstD (aCons (aC (.d (.str "|"))) aNil)) (aCB aIntOf (aCons (aOp aGt (aVar 2) (aC (.d (.int 0)))) aNil)))) (aCall F_self__law_body_said (fun _ _ => False) (aCons (aOp aIx (aOp aIx (aVar 0) (aC (.d (.int 1)))) (aVar 2)) aNil))))) (aRet (aOp (aCat false) (aVar 1) (aLstD (aCons (aC (.d (.str "}"))) aNil)))))))))
abbrev N__law_body_said : List Str := ["body", "words", "k"]
def a__law_body_said (K : PySem.W.Frag) (F_self__law_said : FSp) : AS :=
  (aSeq (aSet 1 (aLstD aNil)) (aSeq (aFor (aRng1 (aCons (aCB aLen (aCons (aVar 0) aNil)) aNil)) (aName 2) (aSet 1 (aOp (aCat false) (aOp (aCat false) (aVar 1) (aOp aMulL (aLstD (aCons (aC (.d (.str ";"))) aNil)) (aCB aIntOf (aCons (aOp aGt (aVar 2) (aC (.d (.int 0)))) aNil)))) (aCall F_self__law_said (fun _ _ => False) (aCons (aOp aIx (aVar 0) (aVar 2)) aNil))))) (aRet (aVar 1))))
theorem len__law_said (n : Nat) : ∀ as κ R E', FF__law_said n as κ R E' → as.length = (["step"] : List Str).length := by
  rintro as κ R E' ⟨qs, rfl, _⟩; rfl
theorem len__law_body_said (n : Nat) : ∀ as κ R E', FF__law_body_said n as κ R E' → as.length = (["body"] : List Str).length := by
  rintro as κ R E' ⟨qs, rfl, _⟩; rfl
theorem rd0__law_said {as κ R E'} (h : FF__law_said 0 as κ R E') : False := by
  obtain ⟨t, _, _, _, h, _⟩ := h; omega
theorem rd0__law_body_said {as κ R E'} (h : FF__law_body_said 0 as κ R E') : False := by
  obtain ⟨t, _, _, _, h, _⟩ := h; omega
theorem said_w {n : Nat} {t : Tr} {κ : AK} {R : AR} {E : AX → AK → Prop} (h1 : (pS t).length ≤ 20000) (h2 : 2 * dpS t + 1 ≤ n) (h : R (.d (.list ((pS t).map .str))) κ) : callW (FF__law_said n) E [.d (dS t)] κ R :=
  callW_i ⟨[], _, _, .nil, rfl, rfl, t, rfl, rfl, h1, h2, Nat.zero_le _, rfl, rfl, h⟩
theorem bsaid_w {n : Nat} {b : List Tr} {κ : AK} {R : AR} {E : AX → AK → Prop} (h1 : (wB b).length ≤ 20000) (h2 : 2 * dpB b + 2 ≤ n) (h : R (.d (.list ((wB b).map .str))) κ) : callW (FF__law_body_said n) E [.d (.tuple (dB b))] κ R :=
  callW_i ⟨[], _, _, .nil, rfl, rfl, b, rfl, rfl, h1, h2, Nat.zero_le _, rfl, rfl, h⟩
theorem rd__law_body_said (n : Nat) : ∀ as κ R E', FF__law_body_said (n + 1) as κ R E' → a__law_body_said K (FF__law_said n) (endsA K κ.length R) (startA N__law_body_said as) κ := by
  rintro as κ R E' ⟨b, rfl, rfl, hb, hn, h⟩
  have lb := dB_len b
  have hcnt := sj_cnt ";" (pB b)
  rw [pB_map, List.length_map, ← pB_map] at hcnt
  have hb : (sj ";" (pB b)).length ≤ 20000 := hb
  refine ⟨Nat.zero_le _, by omega, by omega, ?_⟩
  refine for_r (fun i δ κ => ∃ (ws : List Str) (k : Option AV), δ = [some (.d (.tuple (dB b))), some (.d (.list (ws.map .str))), k] ∧ κ = [] ∧ ws = sj ";" ((pB b).take i))
    ⟨[], none, rfl, rfl, rfl⟩ ?_ ?_
  · rintro δ κ ⟨ws, k, rfl, rfl, hw⟩ _
    have e : ((dB b).length : Int).toNat = b.length := by omega
    rw [e, List.take_of_length_le (by rw [pB_map, List.length_map]; exact Nat.le_refl _)] at hw
    subst hw
    exact ⟨_, _, GhR.refl (Nat.le_refl _), h⟩
  · rintro i δ κ hi ⟨ws, k, rfl, rfl, hw⟩ _
    have hi' : i < b.length := by omega
    have hl := sj_take_len ";" (pB b) i
    have hp : (pB b)[i]? = some (pS b[i]) := by rw [pB_map, List.getElem?_map, List.getElem?_eq_getElem hi']; rfl
    have hd : (dB b)[i]? = some (dS b[i]) := by rw [dB_map, List.getElem?_map, List.getElem?_eq_getElem hi']; rfl
    have h1 := sj_one ";" (List.mem_of_getElem? hp)
    have h2 : dpS b[i] ≤ dpB b := dpB_le.mp (Nat.le_refl _) _ (List.getElem_mem hi')
    refine sep_asg (zs := pS b[i]) (fun R' h' => ⟨_, ?_, said_w (by omega) (by omega) h'⟩) ?_ ⟨_, _, rfl, rfl, ?_⟩
    · rw [Int.zero_add]; exact at_nat hd
    · rw [hw]; omega
    · rw [sj_take ";" hp]
      subst hw
      by_cases h0 : i = 0
      · subst h0; rfl
      · rw [if_neg h0, if_neg h0]
theorem rd__law_said (n : Nat) : ∀ as κ R E', FF__law_said (n + 1) as κ R E' → a__law_said K (FF__law_body_said n) (endsA K κ.length R) (startA N__law_said as) κ := by
  rintro as κ R E' ⟨t, rfl, rfl, ht, hn, h⟩
  have hv := trV t
  generalize dS t = d at hv
  cases hv with
  | letter w a b c hw =>
    exact ⟨.str w, at_nat (j := 0) rfl, bsel_t (decide_eq_true hw) ⟨.str a, at_nat (j := 1) rfl, .str b, at_nat (j := 2) rfl, .str c, at_nat (j := 3) rfl, (show 5 ≤ sizeLine by decide), _, _, GhR.refl (Nat.le_refl _), h⟩⟩
  | use w nn qs hw =>
    have n1 : w ≠ "letter" := by rw [hw]; decide +kernel
    have ht : (wL qs).length + 2 ≤ 20000 := ht
    have hq := wL_len qs
    have hn2 : dpS (.use nn qs) = 0 := rfl
    have hql : qs.length ≤ 10000 := by split at hq <;> omega
    refine ⟨.str w, at_nat (j := 0) rfl, bsel_f (decide_eq_false n1) ⟨.str w, at_nat (j := 0) rfl, bsel_t (decide_eq_true hw) ⟨.str nn, at_nat (j := 1) rfl, (show 2 ≤ sizeLine by decide), .tuple (qs.map .str), at_nat (j := 2) rfl, listed_w hql ⟨_, _, rfl, rfl, ?_, _, _, GhR.refl (Nat.le_refl _), h⟩⟩⟩⟩
    show 2 + ((wL qs).map PyData.str).length ≤ sizeLine
    rw [List.length_map]; exact sl100 (by omega)
  | loop w b hw =>
    have n1 : w ≠ "letter" := by rw [hw]; decide +kernel
    have n2 : w ≠ "use" := by rw [hw]; decide +kernel
    have ht : (wB b ++ ([("}" : Str)] : List Str)).length + 2 ≤ 20000 := ht
    rw [List.length_append] at ht
    have hn : 2 * (dpB b + 1) + 1 ≤ n + 1 := hn
    refine ⟨.str w, at_nat (j := 0) rfl, bsel_f (decide_eq_false n1) ⟨.str w, at_nat (j := 0) rfl, bsel_f (decide_eq_false n2) ⟨.str w, at_nat (j := 0) rfl, bsel_t (decide_eq_true hw) ⟨(show 2 ≤ sizeLine by decide), .tuple (dB b), at_nat (j := 1) rfl, bsaid_w (by omega) (by omega) ⟨_, _, rfl, rfl, ?_, (show 1 ≤ sizeLine by decide), _, _, rfl, rfl, ?_, _, _, GhR.refl (Nat.le_refl _), ?_⟩⟩⟩⟩⟩
    · show 2 + ((wB b).map PyData.str).length ≤ sizeLine
      rw [List.length_map]; exact sl100 (by omega)
    · rw [List.length_append, List.length_map]; exact sl100 (by show 2 + (wB b).length + 1 ≤ _; omega)
    · have e : ([.str "loop", .str "{"] ++ (wB b).map PyData.str) ++ [.str "}"] = (pS (.loop b)).map .str := by
        show _ = (("loop" : Str) :: ("{" : Str) :: (wB b ++ ([("}" : Str)] : List Str))).map PyData.str; simp
      rw [e]; exact h
  | br w v bs hv hw =>
    have n1 : w ≠ "letter" := by rcases hw with rfl | rfl <;> decide +kernel
    have n2 : w ≠ "use" := by rcases hw with rfl | rfl <;> decide +kernel
    have n3 : w ≠ "loop" := by rcases hw with rfl | rfl <;> decide +kernel
    have ht : (sj "|" (pBs bs) ++ ([("}" : Str)] : List Str)).length + 2 ≤ 20000 := ht
    rw [List.length_append] at ht
    have hn : 2 * (dpBs bs + 1) + 1 ≤ n + 1 := hn
    have lb := dBs_len bs
    have hcnt := sj_cnt "|" (pBs bs)
    rw [pBs_map, List.length_map, ← pBs_map] at hcnt
    refine ⟨.str w, at_nat (j := 0) rfl, bsel_f (decide_eq_false n1) ⟨.str w, at_nat (j := 0) rfl, bsel_f (decide_eq_false n2) ⟨.str w, at_nat (j := 0) rfl, bsel_f (decide_eq_false n3) ⟨.str w, at_nat (j := 0) rfl, (show 2 ≤ sizeLine by decide), .tuple (dBs bs), at_nat (j := 1) rfl, by omega, by omega, ?_⟩⟩⟩⟩
    refine for_r (fun i δ κ => ∃ (ws : List Str) (k : Option AV), δ = [some (.d (.tuple [.str w, .tuple (dBs bs)])), some (.d (.list (ws.map .str))), k] ∧ κ = [] ∧ ws = w :: ("{" : Str) :: sj "|" ((pBs bs).take i))
      ⟨[w, "{"], none, rfl, rfl, rfl⟩ ?_ ?_
    · rintro δ κ ⟨ws, k, rfl, rfl, hws⟩ _
      have e : ((dBs bs).length : Int).toNat = bs.length := by omega
      rw [e, List.take_of_length_le (by rw [pBs_map, List.length_map]; exact Nat.le_refl _)] at hws
      have hl : ws.length ≤ 30000 := by rw [hws, List.length_cons, List.length_cons]; omega
      refine ⟨(show 1 ≤ sizeLine by decide), _, [.str "}"], rfl, rfl, ?_, _, _, GhR.refl (Nat.le_refl _), ?_⟩
      · rw [List.length_map]; exact sl100 (by show ws.length + 1 ≤ _; omega)
      · have e2 : ws.map PyData.str ++ [.str "}"] = (pS (.br v bs)).map .str := by
          rw [hws, hv]
          show _ = (brW v :: "{" :: (sj "|" (pBs bs) ++ ([("}" : Str)] : List Str))).map PyData.str; simp
        rw [e2]; exact h
    · rintro i δ κ hi ⟨ws, k, rfl, rfl, hws⟩ _
      have hi' : i < bs.length := by omega
      have hl := sj_take_len "|" (pBs bs) i
      have hp : (pBs bs)[i]? = some (wB bs[i]) := by rw [pBs_map, List.getElem?_map, List.getElem?_eq_getElem hi']; rfl
      have hd : (dBs bs)[i]? = some (.tuple (dB bs[i])) := by rw [dBs_map, List.getElem?_map, List.getElem?_eq_getElem hi']; rfl
      have h1 := sj_one "|" (List.mem_of_getElem? hp)
      have h2 : dpB bs[i] ≤ dpBs bs := dpBs_le.mp (Nat.le_refl _) _ (List.getElem_mem hi')
      refine sep_asg (zs := wB bs[i]) (fun R' h' => ⟨.tuple (dBs bs), at_nat (j := 1) rfl, _, ?_, bsaid_w (by omega) (by omega) h'⟩) ?_ ⟨_, _, rfl, rfl, ?_⟩
      · rw [Int.zero_add]; exact at_nat hd
      · rw [hws, List.length_cons, List.length_cons]; omega
      · rw [sj_take "|" hp]
        subst hws
        by_cases h0 : i = 0
        · subst h0; rfl
        · rw [if_neg h0, if_neg h0]; rfl
end Com
set_option Elab.async false
set_option linter.all false
set_option maxRecDepth 100000
set_option maxHeartbeats 4000000
/-! Rea2: the reader -/
namespace Com
open PySem L2 Ab
variable {K : PySem.W.Frag}
/-! ### the reader as a cell -/
def rF (L : List PyData) (p : Nat) (b : Int) : List (Str × AV) := [("tokens", .d (.list L)), ("place", .d (.int p)), ("braces", .d (.int b))]
def rdr (C : Addr) (L : List PyData) (p : Nat) (b : Int) : Cell := .ins C (rF L p b)
theorem n_tp : ("tokens" : Str) ≠ "place" := by decide +kernel
theorem n_tb : ("tokens" : Str) ≠ "braces" := by decide +kernel
theorem n_pb : ("place" : Str) ≠ "braces" := by decide +kernel
section
variable {C : Addr} {L : List PyData} {p : Nat} {b b' : Int}
theorem look_t : lookA "tokens" (rF L p b) = some (.d (.list L)) := rfl
theorem look_p : lookA "place" (rF L p b) = some (.d (.int p)) := by
  unfold rF lookA; rw [if_neg n_tp]; rfl
theorem look_b : lookA "braces" (rF L p b) = some (.d (.int b)) := by
  unfold rF lookA; rw [if_neg n_tb]; unfold lookA; rw [if_neg n_pb]; rfl
theorem look_m {m : Str} (h1 : ("tokens" : Str) ≠ m) (h2 : ("place" : Str) ≠ m) (h3 : ("braces" : Str) ≠ m) : lookA m (rF L p b) = none := by
  unfold rF lookA; rw [if_neg h1]; unfold lookA; rw [if_neg h2]; unfold lookA; rw [if_neg h3]; rfl
theorem put_p : putA "place" (.d (.int ((p : Int) + 1))) (rF L p b) = rF L (p + 1) b := by
  unfold rF putA; rw [if_neg n_tp]; rfl
theorem put_b : putA "braces" (.d (.int b')) (rF L p b) = rF L p b' := by
  unfold rF putA; rw [if_neg n_tb]; unfold putA; rw [if_neg n_pb]; rfl
theorem put_3 {x : AV} : putA "braces" (.d (.int 0)) (putA "place" (.d (.int 0)) (putA "tokens" x [])) = [(("tokens" : Str), x), (("place" : Str), .d (.int 0)), (("braces" : Str), .d (.int 0))] := by
  show putA "braces" (.d (.int 0)) (putA "place" (.d (.int 0)) [(("tokens" : Str), x)]) = _
  have e : putA "place" (.d (.int 0)) [(("tokens" : Str), x)] = [(("tokens" : Str), x), (("place" : Str), .d (.int 0))] := by unfold putA; rw [if_neg n_tp]; rfl
  rw [e]; unfold putA; rw [if_neg n_tb]; unfold putA; rw [if_neg n_pb]; rfl
theorem put_2l {x : AV} : (putA "place" (.d (.int 0)) (putA "tokens" x [])).length < 1000 := by
  show (putA "place" (.d (.int 0)) [(("tokens" : Str), x)]).length < 1000
  have e : putA "place" (.d (.int 0)) [(("tokens" : Str), x)] = [(("tokens" : Str), x), (("place" : Str), .d (.int 0))] := by unfold putA; rw [if_neg n_tp]; rfl
  rw [e]; show 2 < 1000; decide
theorem lk_next_is : lookA "next_is" (rF L p b) = none := look_m (by decide +kernel) (by decide +kernel) (by decide +kernel)
theorem lk_need : lookA "need" (rF L p b) = none := look_m (by decide +kernel) (by decide +kernel) (by decide +kernel)
theorem lk_read_name : lookA "read_name" (rF L p b) = none := look_m (by decide +kernel) (by decide +kernel) (by decide +kernel)
theorem lk_passes : lookA "passes" (rF L p b) = none := look_m (by decide +kernel) (by decide +kernel) (by decide +kernel)
theorem lk_read_parties : lookA "read_parties" (rF L p b) = none := look_m (by decide +kernel) (by decide +kernel) (by decide +kernel)
theorem lk_read_body : lookA "read_body" (rF L p b) = none := look_m (by decide +kernel) (by decide +kernel) (by decide +kernel)
theorem lk_step_begins : lookA "step_begins" (rF L p b) = none := look_m (by decide +kernel) (by decide +kernel) (by decide +kernel)
theorem lk_read_step : lookA "read_step" (rF L p b) = none := look_m (by decide +kernel) (by decide +kernel) (by decide +kernel)
theorem lk_read_letter : lookA "read_letter" (rF L p b) = none := look_m (by decide +kernel) (by decide +kernel) (by decide +kernel)
theorem lk_read_loop : lookA "read_loop" (rF L p b) = none := look_m (by decide +kernel) (by decide +kernel) (by decide +kernel)
theorem lk_read_branches : lookA "read_branches" (rF L p b) = none := look_m (by decide +kernel) (by decide +kernel) (by decide +kernel)
theorem lk_open_brace : lookA "open_brace" (rF L p b) = none := look_m (by decide +kernel) (by decide +kernel) (by decide +kernel)
theorem lk_close_brace : lookA "close_brace" (rF L p b) = none := look_m (by decide +kernel) (by decide +kernel) (by decide +kernel)
theorem lk_read_pact : lookA "read_pact" (rF L p b) = none := look_m (by decide +kernel) (by decide +kernel) (by decide +kernel)
theorem lk_is_behind_all : lookA "is_behind_all" (rF L p b) = none := look_m (by decide +kernel) (by decide +kernel) (by decide +kernel)
theorem rdr_cl : clC (rdr C L p b) = true := rfl
theorem sel_r {κr : AK} : selK [0] (rdr C L p b :: κr) = some [rdr C L p b] := rfl
end
/-! ### tokens -/
def tokT (k w : Str) (n : Int) : PyData := .tuple [.str k, .str w, .int n]
def Rd (L : List PyData) (p : Nat) (ws : List Str) : Prop := ∀ (i : Nat) (w : Str), ws[i]? = some w → PyData.strOk w = true ∧ ∃ n : Int, L[p + i]? = some (tokT (kindOf w) w n)
theorem Rd.head {L : List PyData} {p : Nat} {w : Str} {ws : List Str} (h : Rd L p (w :: ws)) : ∃ n : Int, L[p]? = some (tokT (kindOf w) w n) := (h 0 w rfl).2
theorem Rd.ok {L : List PyData} {p : Nat} {w : Str} {ws : List Str} (h : Rd L p (w :: ws)) : PyData.strOk w = true := (h 0 w rfl).1
theorem kind_ok (w : Str) : PyData.strOk (kindOf w) = true := by
  unfold kindOf
  split
  · decide +kernel
  · split <;> decide +kernel
theorem shaped2 {a b : Str} (ha : PyData.strOk a = true) (hb : PyData.strOk b = true) : SeqAt.shaped (.tuple [.str a, .str b]) = true := by
  simp [SeqAt.shaped, PyData.canLay0, PyData.canLayAll0, PyData.depth, PyData.depthAll, ha, hb]
theorem Rd.tail {L : List PyData} {p : Nat} {w : Str} {ws : List Str} (h : Rd L p (w :: ws)) : Rd L (p + 1) ws := fun i x hx => by
  obtain ⟨ho, n, hn⟩ := h (i + 1) x (by simpa using hx)
  exact ⟨ho, n, by rw [← hn]; congr 1; omega⟩
theorem Rd.left {L : List PyData} {p : Nat} {xs ys : List Str} (h : Rd L p (xs ++ ys)) : Rd L p xs := fun i x hx => h i x (get_app hx)
theorem Rd.right {L : List PyData} {p : Nat} {xs ys : List Str} (h : Rd L p (xs ++ ys)) : Rd L (p + xs.length) ys := fun i x hx => by
  obtain ⟨ho, n, hn⟩ := h (xs.length + i) x (by rw [List.getElem?_append_right (by omega), Nat.add_sub_cancel_left]; exact hx)
  exact ⟨ho, n, by rw [← hn]; congr 1; omega⟩
theorem kind_name {z : Str} (h : isName z) : kindOf z = "name" := by
  obtain ⟨⟨c, r, e, h1, h2, h3⟩, h4⟩ := h
  rw [kind_run ⟨c, r, e, h1, h2, h3⟩, if_neg h4]
theorem name_notMark {z : Str} (h : isName z) : ¬ (z ∈ marksS ∨ z = "->") := by
  obtain ⟨⟨c, r, e, h1, h2, h3⟩, h4⟩ := h
  exact run_notMark ⟨c, r, e, h1, h2, h3⟩
theorem kind_word {z : Str} (h : z ∈ wordsL) : kindOf z = "word" := by unfold kindOf; rw [if_pos h]
theorem eqv2 (a b c d : Str) : PyData.eqv (.tuple [.str a, .str b]) (.tuple [.str c, .str d]) = (a == c && (b == d && true)) := rfl
theorem cut2 (a b c : PyData) : cutD [a, b, c] none (some 2) = [a, b] := rfl
/-! ### next_is -/
def F_Reader_next_is (C : Addr) : FSp := fun as κ R _ => ∃ (L : List PyData) (p : Nat) (b : Int) (k0 w0 : Str) (n : Int) (k w : Str), as = [.c 0, .d (.str k), .d (.str w)] ∧ κ = [rdr C L p b] ∧ L[p]? = some (tokT k0 w0 n) ∧ PyData.strOk k0 = true ∧ PyData.strOk w0 = true ∧ PyData.strOk k = true ∧ PyData.strOk w = true ∧ R (.d (.bool (k0 == k && (w0 == w && true)))) [rdr C L p b]
abbrev N_Reader_next_is : List Str := ["self", "kind", "signs"]
def a_Reader_next_is (K : PySem.W.Frag) (C_Reader : Addr) : AS :=
  (aRet (aOp aEq (aSlT (aOp aIx (aFld C_Reader "tokens" (aVar 0)) (aFld C_Reader "place" (aVar 0))) aNoPart (aPart (aC (.d (.int 2))))) (aTup (aCons (aVar 1) (aCons (aVar 2) aNil)))))
theorem len_Reader_next_is (C : Addr) : ∀ as κ R E', F_Reader_next_is C as κ R E' → as.length = (["self", "kind", "signs"] : List Str).length := by
  rintro as κ R E' ⟨L, p, b, k0, w0, n, k, w, rfl, _⟩; rfl
theorem rd_Reader_next_is (C : Addr) : ∀ as κ R E', F_Reader_next_is C as κ R E' → a_Reader_next_is K C (endsA K κ.length R) (startA N_Reader_next_is as) κ := by
  rintro as κ R E' ⟨L, p, b, k0, w0, n, k, w, rfl, rfl, hL, o1, o2, o3, o4, h⟩
  refine ⟨_, _, rfl, look_t, _, _, rfl, look_p, _, at_nat hL, ?_⟩
  exact ⟨(show 2 ≤ sizeLine by decide), shaped2 o1 o2, shaped2 o3 o4, _, _, GhR.refl (Nat.le_refl _), h⟩
section
variable {C : Addr} {L : List PyData} {p : Nat} {b : Int} {k0 w0 : Str} {n : Int} {k w : Str} {κr : AK} {E : AX → AK → Prop} {R : AR}
theorem next_w (hL : L[p]? = some (tokT k0 w0 n)) (o1 : PyData.strOk k0 = true) (o2 : PyData.strOk w0 = true) (o3 : PyData.strOk k = true) (o4 : PyData.strOk w = true) (h : R (.d (.bool (k0 == k && (w0 == w && true)))) (rdr C L p b :: κr)) : callW (F_Reader_next_is C) E [.c 0, .d (.str k), .d (.str w)] (rdr C L p b :: κr) R :=
  callW_i ⟨[0], _, _, by decide, rfl, sel_r, L, p, b, k0, w0, n, k, w, rfl, rfl, hL, o1, o2, o3, o4, Nat.le_refl _, rfl, rfl, h⟩
end
/-! ### need -/
def F_Reader_need (C : Addr) : FSp := fun as κ R _ => ∃ (L : List PyData) (p : Nat) (b : Int) (k w : Str) (n : Int), as = [.c 0, .d (.str k), .d (.str w)] ∧ κ = [rdr C L p b] ∧ L[p]? = some (tokT k w n) ∧ PyData.strOk k = true ∧ PyData.strOk w = true ∧ R (.d .none) [rdr C L (p + 1) b]
abbrev N_Reader_need : List Str := ["self", "kind", "signs"]
def a_Reader_need (K : PySem.W.Frag) (C_Reader : Addr) : AS :=
  (aSeq (aIfS (aNot (aTru (aMeth C_Reader "next_is" (F_Reader_next_is C_Reader) (aVar 0) (aCons (aVar 1) (aCons (aVar 2) aNil))))) aNever aNext) (aFldAug C_Reader "place" (fun i j => i + j) (aVar 0) (aC (.d (.int 1)))))
theorem len_Reader_need (C : Addr) : ∀ as κ R E', F_Reader_need C as κ R E' → as.length = (["self", "kind", "signs"] : List Str).length := by
  rintro as κ R E' ⟨L, p, b, k, w, n, rfl, _⟩; rfl
theorem beq_t {a b : Str} (h : a = b) : (a == b) = true := by subst h; exact beq_self_eq_true _
theorem rd_Reader_need (C : Addr) : ∀ as κ R E', F_Reader_need C as κ R E' → a_Reader_need K C (endsA K κ.length R) (startA N_Reader_need as) κ := by
  rintro as κ R E' ⟨L, p, b, k, w, n, rfl, rfl, hL, o1, o2, h⟩
  refine ⟨_, rfl, lk_next_is, next_w hL o1 o2 o1 o2 ?_⟩
  rw [beq_t rfl, beq_t rfl]
  refine ⟨_, _, rfl, look_p, _, rfl, (show 3 < 1000 by decide), _, _, GhR.refl (Nat.le_refl _), ?_⟩
  rw [put_p]; exact h
section
variable {C : Addr} {L : List PyData} {p : Nat} {b : Int} {k w : Str} {n : Int} {κr : AK} {E : AX → AK → Prop} {R : AR}
theorem need_w (hL : L[p]? = some (tokT k w n)) (o1 : PyData.strOk k = true) (o2 : PyData.strOk w = true) (h : R (.d .none) (rdr C L (p + 1) b :: κr)) : callW (F_Reader_need C) E [.c 0, .d (.str k), .d (.str w)] (rdr C L p b :: κr) R :=
  callW_i ⟨[0], _, _, by decide, rfl, sel_r, L, p, b, k, w, n, rfl, rfl, hL, o1, o2, Nat.le_refl _, rfl, rfl, h⟩
end
/-! ### read_name -/
def F_Reader_read_name (C : Addr) : FSp := fun as κ R _ => ∃ (L : List PyData) (p : Nat) (b : Int) (w : Str), as = [.c 0] ∧ κ = [rdr C L p b] ∧ Rd L p [w] ∧ isName w ∧ R (.d (.str w)) [rdr C L (p + 1) b]
abbrev N_Reader_read_name : List Str := ["self", "kind", "signs", "_"]
def a_Reader_read_name (K : PySem.W.Frag) (C_Reader : Addr) : AS :=
  (aSeq (aAsg (aOp aIx (aFld C_Reader "tokens" (aVar 0)) (aFld C_Reader "place" (aVar 0))) (aGTup 3 (aGCons (aName 1) (aGCons (aName 2) (aGCons (aName 3) aGNil))))) (aSeq (aIfS (aB (aOp aNe (aVar 1) (aC (.d (.str "name"))))) aNever aNext) (aSeq (aFldAug C_Reader "place" (fun i j => i + j) (aVar 0) (aC (.d (.int 1)))) (aRet (aVar 2)))))
theorem len_Reader_read_name (C : Addr) : ∀ as κ R E', F_Reader_read_name C as κ R E' → as.length = (["self"] : List Str).length := by
  rintro as κ R E' ⟨L, p, b, w, rfl, _⟩; rfl
theorem rd_Reader_read_name (C : Addr) : ∀ as κ R E', F_Reader_read_name C as κ R E' → a_Reader_read_name K C (endsA K κ.length R) (startA N_Reader_read_name as) κ := by
  rintro as κ R E' ⟨L, p, b, w, rfl, rfl, hr, hw, h⟩
  obtain ⟨n, hL⟩ := hr.head
  have hk := kind_name hw
  generalize kindOf w = k at hL hk
  refine ⟨_, _, rfl, look_t, _, _, rfl, look_p, _, at_nat hL, rfl, bsel_f (by rw [decide_eq_true hk]; rfl) ?_⟩
  refine ⟨_, _, rfl, look_p, _, rfl, (show 3 < 1000 by decide), _, _, GhR.refl (Nat.le_refl _), ?_⟩
  rw [put_p]; exact h
section
variable {C : Addr} {L : List PyData} {p : Nat} {b : Int} {w : Str} {ws : List Str} {κr : AK} {E : AX → AK → Prop} {R : AR}
theorem name_r (hr : Rd L p (w :: ws)) (hw : isName w) (h : R (.d (.str w)) (rdr C L (p + 1) b :: κr)) : callW (F_Reader_read_name C) E [.c 0] (rdr C L p b :: κr) R :=
  callW_i ⟨[0], _, _, by decide, rfl, sel_r, L, p, b, w, rfl, rfl, Rd.left (ys := ws) hr, hw, Nat.le_refl _, rfl, rfl, h⟩
end
/-! ### passes -/
def F_Reader_passes (C : Addr) : FSp := fun as κ R _ => ∃ (L : List PyData) (p : Nat) (b : Int) (k w m : Str) (n : Int), as = [.c 0, .d (.str m)] ∧ κ = [rdr C L p b] ∧ L[p]? = some (tokT k w n) ∧ PyData.strOk k = true ∧ PyData.strOk w = true ∧ PyData.strOk m = true ∧
  ((k = "mark" ∧ w = m ∧ R (.d (.bool true)) [rdr C L (p + 1) b]) ∨ ((k ≠ "mark" ∨ w ≠ m) ∧ R (.d (.bool false)) [rdr C L p b]))
abbrev N_Reader_passes : List Str := ["self", "mark", "found"]
def a_Reader_passes (K : PySem.W.Frag) (C_Reader : Addr) : AS :=
  (aSeq (aSet 2 (aMeth C_Reader "next_is" (F_Reader_next_is C_Reader) (aVar 0) (aCons (aC (.d (.str "mark"))) (aCons (aVar 1) aNil)))) (aCut (aIfS (aTru (aVar 2)) (aFldAug C_Reader "place" (fun i j => i + j) (aVar 0) (aC (.d (.int 1)))) aNext) (aRet (aVar 2))))
theorem len_Reader_passes (C : Addr) : ∀ as κ R E', F_Reader_passes C as κ R E' → as.length = (["self", "mark"] : List Str).length := by
  rintro as κ R E' ⟨L, p, b, k, w, m, n, rfl, _⟩; rfl
theorem beq_f {a b : Str} (h : a ≠ b) : (a == b) = false := by
  cases e : a == b with
  | false => rfl
  | true => exact absurd (eq_of_beq e) h
theorem rd_Reader_passes (C : Addr) : ∀ as κ R E', F_Reader_passes C as κ R E' → a_Reader_passes K C (endsA K κ.length R) (startA N_Reader_passes as) κ := by
  rintro as κ R E' ⟨L, p, b, k, w, m, n, rfl, rfl, hL, o1, o2, o3, h⟩
  rcases h with ⟨hk, hw, h⟩ | ⟨hn, h⟩
  · refine ⟨_, rfl, lk_next_is, next_w hL o1 o2 (by decide +kernel) o3 ?_⟩
    rw [beq_t hk, beq_t hw]
    refine ⟨fun δ κ => δ = [some (.c 0), some (.d (.str m)), some (.d (.bool true))] ∧ κ = [rdr C L (p + 1) b], ?_, ?_⟩
    · refine ⟨_, _, rfl, look_p, _, rfl, (show 3 < 1000 by decide), rfl, ?_⟩
      rw [put_p]; rfl
    · rintro δ κ ⟨rfl, rfl⟩ _
      exact ⟨_, _, GhR.refl (Nat.le_refl _), h⟩
  · refine ⟨_, rfl, lk_next_is, next_w hL o1 o2 (by decide +kernel) o3 ?_⟩
    have e : (k == "mark" && (w == m && true)) = false := by
      rcases hn with hn | hn
      · rw [beq_f hn]; rfl
      · rw [beq_f hn, Bool.false_and, Bool.and_false]
    rw [e]
    refine ⟨fun δ κ => δ = [some (.c 0), some (.d (.str m)), some (.d (.bool false))] ∧ κ = [rdr C L p b], ⟨rfl, rfl⟩, ?_⟩
    rintro δ κ ⟨rfl, rfl⟩ _
    exact ⟨_, _, GhR.refl (Nat.le_refl _), h⟩
section
variable {C : Addr} {L : List PyData} {p : Nat} {b : Int} {w m : Str} {ws : List Str} {κr : AK} {E : AX → AK → Prop} {R : AR}
theorem pass_t (hr : Rd L p (w :: ws)) (hm : w ∈ marksS) (h : R (.d (.bool true)) (rdr C L (p + 1) b :: κr)) : callW (F_Reader_passes C) E [.c 0, .d (.str w)] (rdr C L p b :: κr) R := by
  obtain ⟨n, hL⟩ := hr.head
  exact callW_i ⟨[0], _, _, by decide, rfl, sel_r, L, p, b, kindOf w, w, w, n, rfl, rfl, hL, kind_ok w, hr.ok, hr.ok, .inl ⟨kind_mark (.inl hm), rfl, Nat.le_refl _, rfl, rfl, h⟩⟩
theorem pass_f (hr : Rd L p (w :: ws)) (hm : w ≠ m) (om : PyData.strOk m = true) (h : R (.d (.bool false)) (rdr C L p b :: κr)) : callW (F_Reader_passes C) E [.c 0, .d (.str m)] (rdr C L p b :: κr) R := by
  obtain ⟨n, hL⟩ := hr.head
  exact callW_i ⟨[0], _, _, by decide, rfl, sel_r, L, p, b, kindOf w, w, m, n, rfl, rfl, hL, kind_ok w, hr.ok, om, .inr ⟨.inr hm, Nat.le_refl _, rfl, rfl, h⟩⟩
end
theorem m_comma : ("," : Str) ∈ marksS := by decide +kernel
theorem m_semi : (";" : Str) ∈ marksS := by decide +kernel
theorem m_bar : ("|" : Str) ∈ marksS := by decide +kernel
theorem m_open : ("{" : Str) ∈ marksS := by decide +kernel
theorem m_close : ("}" : Str) ∈ marksS := by decide +kernel
theorem m_par : ("(" : Str) ∈ marksS := by decide +kernel
theorem m_rap : (")" : Str) ∈ marksS := by decide +kernel
theorem m_colon : (":" : Str) ∈ marksS := by decide +kernel
section
variable {C : Addr} {L : List PyData} {p : Nat} {b : Int} {w : Str} {ws : List Str} {κr : AK} {E : AX → AK → Prop} {R : AR}
theorem need_m (hr : Rd L p (w :: ws)) (hm : w ∈ marksS ∨ w = "->") (h : R (.d .none) (rdr C L (p + 1) b :: κr)) : callW (F_Reader_need C) E [.c 0, .d (.str "mark"), .d (.str w)] (rdr C L p b :: κr) R := by
  obtain ⟨n, hL⟩ := hr.head
  rw [kind_mark hm] at hL
  exact need_w hL (by decide +kernel) hr.ok h
theorem need_k (hr : Rd L p (w :: ws)) (hm : w ∈ wordsL) (h : R (.d .none) (rdr C L (p + 1) b :: κr)) : callW (F_Reader_need C) E [.c 0, .d (.str "word"), .d (.str w)] (rdr C L p b :: κr) R := by
  obtain ⟨n, hL⟩ := hr.head
  rw [kind_word hm] at hL
  exact need_w hL (by decide +kernel) hr.ok h
end
/-! ### read_parties -/
def F_Reader_read_parties (C : Addr) : FSp := fun as κ R _ => ∃ (L : List PyData) (p : Nat) (b : Int) (qs : List Str), as = [.c 0] ∧ κ = [rdr C L p b] ∧ Rd L p (wL qs) ∧ 0 < qs.length ∧ qs.length ≤ 6 ∧ (∀ q ∈ qs, isName q) ∧ R (.d (.tuple (qs.map .str))) [rdr C L (p + (wL qs).length) b]
abbrev N_Reader_read_parties : List Str := ["self", "parties"]
def a_Reader_read_parties (K : PySem.W.Frag) (C_Reader : Addr) : AS :=
  (aSeq (aDrop (aMeth C_Reader "need" (F_Reader_need C_Reader) (aVar 0) (aCons (aC (.d (.str "mark"))) (aCons (aC (.d (.str "("))) aNil)))) (aSeq (aSet 1 (aLst (aCons (aMeth C_Reader "read_name" (F_Reader_read_name C_Reader) (aVar 0) aNil) aNil))) (aCut (aWhile (aTru (aMeth C_Reader "passes" (F_Reader_passes C_Reader) (aVar 0) (aCons (aC (.d (.str ","))) aNil))) (aSeq (aIfS (aB (aOp aEq (aCB aLen (aCons (aVar 1) aNil)) (aC (.d w_MOST_PARTIES)))) aNever aNext) (aDrop (aBM "list" aAppend (aVar 1) (aCons (aMeth C_Reader "read_name" (F_Reader_read_name C_Reader) (aVar 0) aNil) aNil))))) (aSeq (aDrop (aMeth C_Reader "need" (F_Reader_need C_Reader) (aVar 0) (aCons (aC (.d (.str "mark"))) (aCons (aC (.d (.str ")"))) aNil)))) (aRet (aCB aTupOf (aCons (aVar 1) aNil)))))))
theorem len_Reader_read_parties (C : Addr) : ∀ as κ R E', F_Reader_read_parties C as κ R E' → as.length = (["self"] : List Str).length := by
  rintro as κ R E' ⟨L, p, b, w, rfl, _⟩; rfl
theorem rd_Reader_read_parties (C : Addr) : ∀ as κ R E', F_Reader_read_parties C as κ R E' → a_Reader_read_parties K C (endsA K κ.length R) (startA N_Reader_read_parties as) κ := by
  rintro as κ R E' ⟨L, p, b, qs, rfl, rfl, hr, h0, h6, hn, h⟩
  cases qs with
  | nil => exact absurd h0 (Nat.lt_irrefl _)
  | cons q qs =>
    refine ⟨_, rfl, lk_need, need_m hr (.inl m_par) ?_⟩
    have hr1 : Rd L (p + 1) (q :: (sk "," (qs.map fun q => [q]) ++ [(")" : Str)])) := hr.tail
    refine ⟨_, rfl, lk_read_name, name_r hr1 (hn q (List.mem_cons_self ..)) ⟨(show 1 ≤ sizeLine by decide), ?_⟩⟩
    refine ⟨fun δ κ => ∃ p', δ = [some (.c 0), some (.c 1)] ∧ κ = [rdr C L p' b, .ld ((q :: qs).map .str)] ∧ Rd L p' [(")" : Str)] ∧ p' + 1 = p + (wL (q :: qs)).length, ?_, ?_⟩
    · refine ⟨fun m δ κ => ∃ p' done todo, δ = [some (.c 0), some (.c 1)] ∧ κ = [rdr C L p' b, .ld (done.map .str)] ∧ q :: qs = done ++ todo ∧ 0 < done.length ∧ Rd L p' (sk "," (todo.map fun q => [q]) ++ [(")" : Str)]) ∧ p' + (sk "," (todo.map fun q => [q])).length + 1 = p + (wL (q :: qs)).length ∧ m = todo.length,
        ⟨_, p + 1 + 1, [q], qs, rfl, rfl, rfl, Nat.succ_pos _, hr1.tail, ?_, rfl⟩, ?_⟩
      · show _ = p + (("(" : Str) :: (([q] ++ sk "," (qs.map fun q => [q])) ++ [(")" : Str)])).length
        rw [List.length_cons, List.length_append, List.length_append]; simp only [List.length_cons, List.length_nil]; omega
      · rintro m δ κ ⟨p', done, todo, rfl, rfl, hq, hd0, hr2, hp', rfl⟩ _
        cases todo with
        | nil =>
          rw [List.append_nil] at hq
          refine ⟨_, rfl, lk_passes, pass_f (w := ")") hr2 (by decide +kernel) (by decide +kernel) ⟨p', rfl, by rw [hq], hr2, hp'⟩⟩
        | cons y todo =>
          have hr3 : Rd L p' (("," : Str) :: y :: (sk "," (todo.map fun q => [q]) ++ [(")" : Str)])) := hr2
          have hlen : (q :: qs).length = done.length + (todo.length + 1) := by rw [hq, List.length_append, List.length_cons]
          refine ⟨_, rfl, lk_passes, pass_t hr3 m_comma ⟨_, fun _ _ q => q, bsel_f (decide_eq_false ?_) ?_⟩⟩
          · rw [List.length_map]; omega
          · refine ⟨rfl, _, rfl, lk_read_name, name_r hr3.tail (hn y (by rw [hq]; simp)) ⟨?_, todo.length, Nat.lt_succ_self _, p' + 1 + 1, done ++ [y], todo, rfl, ?_, by rw [hq]; simp, by simp, hr3.tail.tail, ?_, rfl⟩⟩
            · rw [List.length_map]; exact Nat.lt_of_lt_of_le (show done.length < 100 by omega) (by decide)
            · rw [List.map_append]; rfl
            · rw [← hp']
              show _ = p' + (("," : Str) :: ([y] ++ sk "," (todo.map fun q => [q]))).length + 1
              rw [List.length_cons, List.length_append]; simp only [List.length_cons, List.length_nil]; omega
    · rintro δ κ ⟨p', rfl, rfl, hr2, hp'⟩ _
      refine ⟨_, rfl, lk_need, need_m hr2 (.inl m_rap) ⟨_, rfl, _, _, GhR.take 1 (Nat.le_refl _) (show 1 ≤ 2 by decide) rfl rfl, ?_⟩⟩
      rw [← hp'] at h; exact h
section
variable {C : Addr} {L : List PyData} {p : Nat} {b : Int} {qs ws : List Str} {κr : AK} {E : AX → AK → Prop} {R : AR}
theorem parties_w (hr : Rd L p (wL qs ++ ws)) (h0 : 0 < qs.length) (h6 : qs.length ≤ 6) (hn : ∀ q ∈ qs, isName q) (h : R (.d (.tuple (qs.map .str))) (rdr C L (p + (wL qs).length) b :: κr)) : callW (F_Reader_read_parties C) E [.c 0] (rdr C L p b :: κr) R :=
  callW_i ⟨[0], _, _, by decide, rfl, sel_r, L, p, b, qs, rfl, rfl, hr.left, h0, h6, hn, Nat.le_refl _, rfl, rfl, h⟩
end
/-! ### step_begins -/
def stepWs : List Str := ["choice", "both", "loop", "use"]
def F_Reader_step_begins (C : Addr) : FSp := fun as κ R _ => ∃ (L : List PyData) (p : Nat) (b : Int) (k w : Str) (n : Int), as = [.c 0] ∧ κ = [rdr C L p b] ∧ L[p]? = some (tokT k w n) ∧ ∀ v : Bool, v = (decide (k = "name") || decide (w ∈ stepWs)) → R (.d (.bool v)) [rdr C L p b]
abbrev N_Reader_step_begins : List Str := ["self", "kind", "signs", "_"]
def a_Reader_step_begins (K : PySem.W.Frag) (C_Reader : Addr) : AS :=
  (aSeq (aAsg (aOp aIx (aFld C_Reader "tokens" (aVar 0)) (aFld C_Reader "place" (aVar 0))) (aGTup 3 (aGCons (aName 1) (aGCons (aName 2) (aGCons (aName 3) aGNil))))) (aRet (aOrV (aOp aEq (aVar 1) (aC (.d (.str "name")))) (aOp (aIn id) (aVar 2) (aC (.d w_STEP_WORDS))))))
theorem len_Reader_step_begins (C : Addr) : ∀ as κ R E', F_Reader_step_begins C as κ R E' → as.length = (["self"] : List Str).length := by
  rintro as κ R E' ⟨L, p, b, k, w, n, rfl, _⟩; rfl
theorem rd_Reader_step_begins (C : Addr) : ∀ as κ R E', F_Reader_step_begins C as κ R E' → a_Reader_step_begins K C (endsA K κ.length R) (startA N_Reader_step_begins as) κ := by
  rintro as κ R E' ⟨L, p, b, k, w, n, rfl, rfl, hL, h⟩
  refine ⟨_, _, rfl, look_t, _, _, rfl, look_p, _, at_nat hL, rfl, bsel_i (fun hk => ?_) fun hk => ?_⟩
  · have hk : decide (k = "name") = true := hk
    exact ⟨_, _, GhR.refl (Nat.le_refl _), h _ (by rw [hk]; rfl)⟩
  · have hk : decide (k = "name") = false := hk
    refine ⟨rfl, rfl, _, _, GhR.refl (Nat.le_refl _), h _ ?_⟩
    rw [hk]
    exact inD_str w stepWs
section
variable {C : Addr} {L : List PyData} {p : Nat} {b : Int} {w : Str} {ws : List Str} {κr : AK} {E : AX → AK → Prop} {R : AR}
theorem begins_t (hr : Rd L p (w :: ws)) (hw : isName w ∨ w ∈ stepWs) (h : R (.d (.bool true)) (rdr C L p b :: κr)) : callW (F_Reader_step_begins C) E [.c 0] (rdr C L p b :: κr) R := by
  obtain ⟨n, hL⟩ := hr.head
  refine callW_i ⟨[0], _, _, by decide, rfl, sel_r, L, p, b, kindOf w, w, n, rfl, rfl, hL, fun v hv => ⟨Nat.le_refl _, rfl, rfl, ?_⟩⟩
  have e : v = true := by
    rw [hv]
    rcases hw with hw | hw
    · rw [decide_eq_true (kind_name hw)]; rfl
    · rw [decide_eq_true hw, Bool.or_true]
  subst e; exact h
theorem begins_f (hr : Rd L p (w :: ws)) (hw : kindOf w ≠ "name" ∧ w ∉ stepWs) (h : R (.d (.bool false)) (rdr C L p b :: κr)) : callW (F_Reader_step_begins C) E [.c 0] (rdr C L p b :: κr) R := by
  obtain ⟨n, hL⟩ := hr.head
  refine callW_i ⟨[0], _, _, by decide, rfl, sel_r, L, p, b, kindOf w, w, n, rfl, rfl, hL, fun v hv => ⟨Nat.le_refl _, rfl, rfl, ?_⟩⟩
  have e : v = false := by rw [hv, decide_eq_false hw.1, decide_eq_false hw.2]; rfl
  subst e; exact h
end
/-! ### read_letter -/
def F_Reader_read_letter (C : Addr) : FSp := fun as κ R _ => ∃ (L : List PyData) (p : Nat) (br : Int) (a b c : Str), as = [.c 0] ∧ κ = [rdr C L p br] ∧ Rd L p [a, "->", b, ":", c] ∧ isName a ∧ isName b ∧ isName c ∧ R (.d (dS (.letter a b c))) [rdr C L (p + 5) br]
abbrev N_Reader_read_letter : List Str := ["self", "sender", "taker"]
def a_Reader_read_letter (K : PySem.W.Frag) (C_Reader : Addr) : AS :=
  (aSeq (aSet 1 (aMeth C_Reader "read_name" (F_Reader_read_name C_Reader) (aVar 0) aNil)) (aSeq (aDrop (aMeth C_Reader "need" (F_Reader_need C_Reader) (aVar 0) (aCons (aC (.d (.str "mark"))) (aCons (aC (.d (.str "->"))) aNil)))) (aSeq (aSet 2 (aMeth C_Reader "read_name" (F_Reader_read_name C_Reader) (aVar 0) aNil)) (aSeq (aDrop (aMeth C_Reader "need" (F_Reader_need C_Reader) (aVar 0) (aCons (aC (.d (.str "mark"))) (aCons (aC (.d (.str ":"))) aNil)))) (aRet (aTup (aCons (aC (.d (.str "letter"))) (aCons (aVar 1) (aCons (aVar 2) (aCons (aMeth C_Reader "read_name" (F_Reader_read_name C_Reader) (aVar 0) aNil) aNil))))))))))
theorem len_Reader_read_letter (C : Addr) : ∀ as κ R E', F_Reader_read_letter C as κ R E' → as.length = (["self"] : List Str).length := by
  rintro as κ R E' ⟨L, p, b, _, _, _, rfl, _⟩; rfl
theorem rd_Reader_read_letter (C : Addr) : ∀ as κ R E', F_Reader_read_letter C as κ R E' → a_Reader_read_letter K C (endsA K κ.length R) (startA N_Reader_read_letter as) κ := by
  rintro as κ R E' ⟨L, p, br, a, b, c, rfl, rfl, hr, ha, hb, hc, h⟩
  refine ⟨_, rfl, lk_read_name, name_r hr ha ⟨_, rfl, lk_need, need_m hr.tail (.inr rfl) ⟨_, rfl, lk_read_name, name_r hr.tail.tail hb ⟨_, rfl, lk_need, need_m hr.tail.tail.tail (.inl m_colon) ⟨_, rfl, lk_read_name, name_r hr.tail.tail.tail.tail hc ⟨(show 4 ≤ sizeLine by decide), _, _, GhR.refl (Nat.le_refl _), h⟩⟩⟩⟩⟩⟩
section
variable {C : Addr} {L : List PyData} {p : Nat} {br : Int} {a b c : Str} {κr : AK} {E : AX → AK → Prop} {R : AR}
theorem letter_r (hr : Rd L p [a, "->", b, ":", c]) (ha : isName a) (hb : isName b) (hc : isName c) (h : R (.d (dS (.letter a b c))) (rdr C L (p + 5) br :: κr)) : callW (F_Reader_read_letter C) E [.c 0] (rdr C L p br :: κr) R :=
  callW_i ⟨[0], _, _, by decide, rfl, sel_r, L, p, br, a, b, c, rfl, rfl, hr, ha, hb, hc, Nat.le_refl _, rfl, rfl, h⟩
end
/-! ### braces -/
def F_Reader_open_brace (C : Addr) : FSp := fun as κ R _ => ∃ (L : List PyData) (p : Nat) (br : Int), as = [.c 0] ∧ κ = [rdr C L p br] ∧ Rd L p [("{" : Str)] ∧ br < 8 ∧ R (.d .none) [rdr C L (p + 1) (br + 1)]
abbrev N_Reader_open_brace : List Str := ["self"]
def a_Reader_open_brace (K : PySem.W.Frag) (C_Reader : Addr) : AS :=
  (aSeq (aIfS (aB (aOp aEq (aFld C_Reader "braces" (aVar 0)) (aC (.d w_MOST_BRACES)))) aNever aNext) (aSeq (aDrop (aMeth C_Reader "need" (F_Reader_need C_Reader) (aVar 0) (aCons (aC (.d (.str "mark"))) (aCons (aC (.d (.str "{"))) aNil)))) (aFldAug C_Reader "braces" (fun i j => i + j) (aVar 0) (aC (.d (.int 1))))))
def F_Reader_close_brace (C : Addr) : FSp := fun as κ R _ => ∃ (L : List PyData) (p : Nat) (br : Int), as = [.c 0] ∧ κ = [rdr C L p br] ∧ Rd L p [("}" : Str)] ∧ R (.d .none) [rdr C L (p + 1) (br - 1)]
abbrev N_Reader_close_brace : List Str := ["self"]
def a_Reader_close_brace (K : PySem.W.Frag) (C_Reader : Addr) : AS :=
  (aSeq (aDrop (aMeth C_Reader "need" (F_Reader_need C_Reader) (aVar 0) (aCons (aC (.d (.str "mark"))) (aCons (aC (.d (.str "}"))) aNil)))) (aFldAug C_Reader "braces" (fun i j => i - j) (aVar 0) (aC (.d (.int 1)))))
theorem len_Reader_open_brace (C : Addr) : ∀ as κ R E', F_Reader_open_brace C as κ R E' → as.length = (["self"] : List Str).length := by
  rintro as κ R E' ⟨L, p, b, rfl, _⟩; rfl
theorem len_Reader_close_brace (C : Addr) : ∀ as κ R E', F_Reader_close_brace C as κ R E' → as.length = (["self"] : List Str).length := by
  rintro as κ R E' ⟨L, p, b, rfl, _⟩; rfl
theorem rd_Reader_open_brace (C : Addr) : ∀ as κ R E', F_Reader_open_brace C as κ R E' → a_Reader_open_brace K C (endsA K κ.length R) (startA N_Reader_open_brace as) κ := by
  rintro as κ R E' ⟨L, p, br, rfl, rfl, hr, hb, h⟩
  refine ⟨_, _, rfl, look_b, bsel_f (decide_eq_false (show ¬ br = 8 by omega)) ⟨_, rfl, lk_need, need_m hr (.inl m_open) ⟨_, _, rfl, look_b, _, rfl, (show 3 < 1000 by decide), _, _, GhR.refl (Nat.le_refl _), ?_⟩⟩⟩
  rw [put_b]; exact h
theorem rd_Reader_close_brace (C : Addr) : ∀ as κ R E', F_Reader_close_brace C as κ R E' → a_Reader_close_brace K C (endsA K κ.length R) (startA N_Reader_close_brace as) κ := by
  rintro as κ R E' ⟨L, p, br, rfl, rfl, hr, h⟩
  refine ⟨_, rfl, lk_need, need_m hr (.inl m_close) ⟨_, _, rfl, look_b, _, rfl, (show 3 < 1000 by decide), _, _, GhR.refl (Nat.le_refl _), ?_⟩⟩
  rw [put_b]; exact h
section
variable {C : Addr} {L : List PyData} {p : Nat} {br : Int} {ws : List Str} {κr : AK} {E : AX → AK → Prop} {R : AR}
theorem open_w (hr : Rd L p (("{" : Str) :: ws)) (hb : br < 8) (h : R (.d .none) (rdr C L (p + 1) (br + 1) :: κr)) : callW (F_Reader_open_brace C) E [.c 0] (rdr C L p br :: κr) R :=
  callW_i ⟨[0], _, _, by decide, rfl, sel_r, L, p, br, rfl, rfl, Rd.left (ys := ws) hr, hb, Nat.le_refl _, rfl, rfl, h⟩
theorem close_w (hr : Rd L p (("}" : Str) :: ws)) (h : R (.d .none) (rdr C L (p + 1) (br - 1) :: κr)) : callW (F_Reader_close_brace C) E [.c 0] (rdr C L p br :: κr) R :=
  callW_i ⟨[0], _, _, by decide, rfl, sel_r, L, p, br, rfl, rfl, Rd.left (ys := ws) hr, Nat.le_refl _, rfl, rfl, h⟩
end
end Com
set_option Elab.async false
set_option linter.all false
set_option maxRecDepth 100000
set_option maxHeartbeats 4000000
/-! Rea3: steps, bodies, pacts are read -/
namespace Com
open PySem L2 Ab
variable {K : PySem.W.Frag}
def stopW (w : Str) : Prop := w = "}" ∨ w = "|" ∨ w = "end"
structure okN (ps : List Str) (er : List (Str × Nat)) : Prop where
  p : ∀ x ∈ ps, isName x
  pl : ps.length ≤ 6
  e : ∀ x ∈ er, isName x.1 ∧ 0 < x.2
theorem stop_kind {w : Str} (h : stopW w) : kindOf w ≠ "name" ∧ w ∉ stepWs ∧ w ≠ ";" := by
  rcases h with rfl | rfl | rfl <;> refine ⟨?_, ?_, ?_⟩ <;> decide +kernel
def FF_Reader_read_step (C : Addr) (n : Nat) : FSp := fun as κ R _ => ∃ (L : List PyData) (p : Nat) (br : Int) (t : Tr) (ps : List Str) (er : List (Str × Nat)), as = [.c 0] ∧ κ = [rdr C L p br] ∧ okN ps er ∧ okS ps er t ∧ Rd L p (pS t) ∧ szS t ≤ 1000 ∧ dpS t + br ≤ 8 ∧ 3 * dpS t + 1 ≤ n ∧ R (.d (dS t)) [rdr C L (p + (pS t).length) br]
def FF_Reader_read_body (C : Addr) (n : Nat) : FSp := fun as κ R _ => ∃ (L : List PyData) (p : Nat) (br : Int) (b : List Tr) (w : Str) (ps : List Str) (er : List (Str × Nat)), as = [.c 0] ∧ κ = [rdr C L p br] ∧ okN ps er ∧ okB ps er b ∧ Rd L p (wB b ++ [w]) ∧ stopW w ∧ szB b ≤ 1000 ∧ dpB b + br ≤ 8 ∧ 3 * dpB b + 2 ≤ n ∧ R (.d (.tuple (dB b))) [rdr C L (p + (wB b).length) br]
def FF_Reader_read_loop (C : Addr) (n : Nat) : FSp := fun as κ R _ => ∃ (L : List PyData) (p : Nat) (br : Int) (b : List Tr) (ps : List Str) (er : List (Str × Nat)), as = [.c 0] ∧ κ = [rdr C L p br] ∧ okN ps er ∧ okB ps er b ∧ Rd L p (("{" : Str) :: (wB b ++ [("}" : Str)])) ∧ szB b ≤ 1000 ∧ dpB b + 1 + br ≤ 8 ∧ 3 * dpB b + 3 ≤ n ∧ R (.d (.tuple (dB b))) [rdr C L (p + ((wB b).length + 2)) br]
def FF_Reader_read_branches (C : Addr) (n : Nat) : FSp := fun as κ R _ => ∃ (L : List PyData) (p : Nat) (br : Int) (bs : List (List Tr)) (ps : List Str) (er : List (Str × Nat)), as = [.c 0] ∧ κ = [rdr C L p br] ∧ okN ps er ∧ bs ≠ [] ∧ bs.length ≤ 3 ∧ okBs ps er bs ∧ Rd L p (("{" : Str) :: (sj "|" (pBs bs) ++ [("}" : Str)])) ∧ szBs bs ≤ 1000 ∧ dpBs bs + 1 + br ≤ 8 ∧ 3 * dpBs bs + 3 ≤ n ∧ R (.d (.tuple (dBs bs))) [rdr C L (p + ((sj "|" (pBs bs)).length + 2)) br]
abbrev N_Reader_read_step : List Str := ["self", "kind", "signs", "_"]
def a_Reader_read_step (K : PySem.W.Frag) (C_Reader : Addr) (F_self_Reader_read_loop : FSp) (F_self_Reader_read_branches : FSp) : AS :=
  (aSeq (aIfS (aNot (aTru (aMeth C_Reader "step_begins" (F_Reader_step_begins C_Reader) (aVar 0) aNil))) aNever aNext) (aSeq (aAsg (aOp aIx (aFld C_Reader "tokens" (aVar 0)) (aFld C_Reader "place" (aVar 0))) (aGTup 3 (aGCons (aName 1) (aGCons (aName 2) (aGCons (aName 3) aGNil))))) (aSeq (aIfS (aB (aOp aEq (aVar 1) (aC (.d (.str "name"))))) (aRet (aMeth C_Reader "read_letter" (F_Reader_read_letter C_Reader) (aVar 0) aNil)) aNext) (aSeq (aFldAug C_Reader "place" (fun i j => i + j) (aVar 0) (aC (.d (.int 1)))) (aSeq (aIfS (aB (aOp aEq (aVar 2) (aC (.d (.str "use"))))) (aRet (aTup (aCons (aC (.d (.str "use"))) (aCons (aMeth C_Reader "read_name" (F_Reader_read_name C_Reader) (aVar 0) aNil) (aCons (aMeth C_Reader "read_parties" (F_Reader_read_parties C_Reader) (aVar 0) aNil) aNil))))) aNext) (aSeq (aIfS (aB (aOp aEq (aVar 2) (aC (.d (.str "loop"))))) (aRet (aTup (aCons (aC (.d (.str "loop"))) (aCons (aMeth C_Reader "read_loop" (F_self_Reader_read_loop) (aVar 0) aNil) aNil)))) aNext) (aRet (aTup (aCons (aVar 2) (aCons (aMeth C_Reader "read_branches" (F_self_Reader_read_branches) (aVar 0) aNil) aNil))))))))))
abbrev N_Reader_read_body : List Str := ["self", "steps"]
def a_Reader_read_body (K : PySem.W.Frag) (C_Reader : Addr) (F_self_Reader_read_step : FSp) : AS :=
  (aSeq (aIfS (aNot (aTru (aMeth C_Reader "step_begins" (F_Reader_step_begins C_Reader) (aVar 0) aNil))) (aRet (aTup aNil)) aNext) (aSeq (aSet 1 (aLst (aCons (aMeth C_Reader "read_step" (F_self_Reader_read_step) (aVar 0) aNil) aNil))) (aCut (aWhile (aTru (aMeth C_Reader "passes" (F_Reader_passes C_Reader) (aVar 0) (aCons (aC (.d (.str ";"))) aNil))) (aDrop (aBM "list" aAppend (aVar 1) (aCons (aMeth C_Reader "read_step" (F_self_Reader_read_step) (aVar 0) aNil) aNil)))) (aRet (aCB aTupOf (aCons (aVar 1) aNil))))))
abbrev N_Reader_read_loop : List Str := ["self", "body"]
def a_Reader_read_loop (K : PySem.W.Frag) (C_Reader : Addr) (F_self_Reader_read_body : FSp) : AS :=
  (aSeq (aDrop (aMeth C_Reader "open_brace" (F_Reader_open_brace C_Reader) (aVar 0) aNil)) (aSeq (aSet 1 (aMeth C_Reader "read_body" (F_self_Reader_read_body) (aVar 0) aNil)) (aSeq (aDrop (aMeth C_Reader "close_brace" (F_Reader_close_brace C_Reader) (aVar 0) aNil)) (aRet (aVar 1)))))
abbrev N_Reader_read_branches : List Str := ["self", "bodies"]
def a_Reader_read_branches (K : PySem.W.Frag) (C_Reader : Addr) (F_self_Reader_read_body : FSp) : AS :=
  (aSeq (aDrop (aMeth C_Reader "open_brace" (F_Reader_open_brace C_Reader) (aVar 0) aNil)) (aSeq (aSet 1 (aLst (aCons (aMeth C_Reader "read_body" (F_self_Reader_read_body) (aVar 0) aNil) aNil))) (aCut (aWhile (aTru (aMeth C_Reader "passes" (F_Reader_passes C_Reader) (aVar 0) (aCons (aC (.d (.str "|"))) aNil))) (aDrop (aBM "list" aAppend (aVar 1) (aCons (aMeth C_Reader "read_body" (F_self_Reader_read_body) (aVar 0) aNil) aNil)))) (aSeq (aDrop (aMeth C_Reader "close_brace" (F_Reader_close_brace C_Reader) (aVar 0) aNil)) (aRet (aCB aTupOf (aCons (aVar 1) aNil)))))))
theorem len_Reader_read_step (C : Addr) (n : Nat) : ∀ as κ R E', FF_Reader_read_step C n as κ R E' → as.length = (["self"] : List Str).length := by
  rintro as κ R E' ⟨L, p, b, _, _, _, rfl, _⟩; rfl
theorem len_Reader_read_body (C : Addr) (n : Nat) : ∀ as κ R E', FF_Reader_read_body C n as κ R E' → as.length = (["self"] : List Str).length := by
  rintro as κ R E' ⟨L, p, b, _, _, _, _, rfl, _⟩; rfl
theorem len_Reader_read_loop (C : Addr) (n : Nat) : ∀ as κ R E', FF_Reader_read_loop C n as κ R E' → as.length = (["self"] : List Str).length := by
  rintro as κ R E' ⟨L, p, b, _, _, _, rfl, _⟩; rfl
theorem len_Reader_read_branches (C : Addr) (n : Nat) : ∀ as κ R E', FF_Reader_read_branches C n as κ R E' → as.length = (["self"] : List Str).length := by
  rintro as κ R E' ⟨L, p, b, _, _, _, rfl, _⟩; rfl
theorem rd0_Reader_read_step {C : Addr} {as κ R E'} (h : FF_Reader_read_step C 0 as κ R E') : False := by
  obtain ⟨L, p, br, t, ps, er, _, _, _, _, _, _, _, h, _⟩ := h; omega
theorem rd0_Reader_read_body {C : Addr} {as κ R E'} (h : FF_Reader_read_body C 0 as κ R E') : False := by
  obtain ⟨L, p, br, t, w, ps, er, _, _, _, _, _, _, _, _, h, _⟩ := h; omega
theorem rd0_Reader_read_loop {C : Addr} {as κ R E'} (h : FF_Reader_read_loop C 0 as κ R E') : False := by
  obtain ⟨L, p, br, t, ps, er, _, _, _, _, _, _, _, h, _⟩ := h; omega
theorem rd0_Reader_read_branches {C : Addr} {as κ R E'} (h : FF_Reader_read_branches C 0 as κ R E') : False := by
  obtain ⟨L, p, br, t, ps, er, _, _, _, _, _, _, _, _, _, h, _⟩ := h; omega
section
variable {C : Addr} {L : List PyData} {p : Nat} {br : Int} {ps : List Str} {er : List (Str × Nat)} {n : Nat} {κr : AK} {E : AX → AK → Prop} {R : AR}
theorem step_r {t : Tr} {ws : List Str} (ok : okN ps er) (ht : okS ps er t) (hr : Rd L p (pS t ++ ws)) (hz : szS t ≤ 1000) (hd : dpS t + br ≤ 8) (hn : 3 * dpS t + 1 ≤ n) (h : R (.d (dS t)) (rdr C L (p + (pS t).length) br :: κr)) : callW (FF_Reader_read_step C n) E [.c 0] (rdr C L p br :: κr) R :=
  callW_i ⟨[0], _, _, by decide, rfl, sel_r, L, p, br, t, ps, er, rfl, rfl, ok, ht, hr.left, hz, hd, hn, Nat.le_refl _, rfl, rfl, h⟩
theorem body_r {b : List Tr} {w : Str} {ws : List Str} (ok : okN ps er) (ht : okB ps er b) (hr : Rd L p (wB b ++ w :: ws)) (hw : stopW w) (hz : szB b ≤ 1000) (hd : dpB b + br ≤ 8) (hn : 3 * dpB b + 2 ≤ n) (h : R (.d (.tuple (dB b))) (rdr C L (p + (wB b).length) br :: κr)) : callW (FF_Reader_read_body C n) E [.c 0] (rdr C L p br :: κr) R :=
  callW_i ⟨[0], _, _, by decide, rfl, sel_r, L, p, br, b, w, ps, er, rfl, rfl, ok, ht, Rd.left (ys := ws) (by rw [List.append_assoc]; exact hr), hw, hz, hd, hn, Nat.le_refl _, rfl, rfl, h⟩
theorem loop_r {b : List Tr} (ok : okN ps er) (ht : okB ps er b) (hr : Rd L p (("{" : Str) :: (wB b ++ [("}" : Str)]))) (hz : szB b ≤ 1000) (hd : dpB b + 1 + br ≤ 8) (hn : 3 * dpB b + 3 ≤ n) (h : R (.d (.tuple (dB b))) (rdr C L (p + ((wB b).length + 2)) br :: κr)) : callW (FF_Reader_read_loop C n) E [.c 0] (rdr C L p br :: κr) R :=
  callW_i ⟨[0], _, _, by decide, rfl, sel_r, L, p, br, b, ps, er, rfl, rfl, ok, ht, hr, hz, hd, hn, Nat.le_refl _, rfl, rfl, h⟩
theorem branches_r {bs : List (List Tr)} (ok : okN ps er) (h0 : bs ≠ []) (h3 : bs.length ≤ 3) (ht : okBs ps er bs) (hr : Rd L p (("{" : Str) :: (sj "|" (pBs bs) ++ [("}" : Str)]))) (hz : szBs bs ≤ 1000) (hd : dpBs bs + 1 + br ≤ 8) (hn : 3 * dpBs bs + 3 ≤ n) (h : R (.d (.tuple (dBs bs))) (rdr C L (p + ((sj "|" (pBs bs)).length + 2)) br :: κr)) : callW (FF_Reader_read_branches C n) E [.c 0] (rdr C L p br :: κr) R :=
  callW_i ⟨[0], _, _, by decide, rfl, sel_r, L, p, br, bs, ps, er, rfl, rfl, ok, h0, h3, ht, hr, hz, hd, hn, Nat.le_refl _, rfl, rfl, h⟩
end
theorem brW_step (v : Bool) : brW v ∈ stepWs ∧ kindOf (brW v) ≠ "name" ∧ brW v ≠ "use" ∧ brW v ≠ "loop" := by
  cases v <;> refine ⟨?_, ?_, ?_, ?_⟩ <;> decide +kernel
theorem pS_head {ps : List Str} {er : List (Str × Nat)} (ok : okN ps er) {t : Tr} (h : okS ps er t) : ∃ x xs, pS t = x :: xs ∧ (isName x ∨ x ∈ stepWs) := by
  cases t with
  | letter a b c => exact ⟨a, _, rfl, .inl (ok.p a h.1)⟩
  | use n qs => exact ⟨"use", _, rfl, .inr (by decide +kernel)⟩
  | loop b => exact ⟨"loop", _, rfl, .inr (by decide +kernel)⟩
  | br v bs => exact ⟨brW v, _, rfl, .inr (brW_step v).1⟩
theorem okS_use {ps : List Str} {er : List (Str × Nat)} (ok : okN ps er) {n : Str} {qs : List Str} (h : okS ps er (.use n qs)) : isName n ∧ 0 < qs.length ∧ qs.length ≤ 6 ∧ ∀ q ∈ qs, isName q := by
  obtain ⟨h1, h2, h3⟩ := h
  have h4 : qs.length ≤ ps.length := List.Nodup.length_le_of_subset h2 fun x hx => h3 x hx
  exact ⟨(ok.e _ h1).1, (ok.e _ h1).2, Nat.le_trans h4 ok.pl, fun q hq => ok.p q (h3 q hq)⟩
theorem rd_Reader_read_step (C : Addr) (n : Nat) : ∀ as κ R E', FF_Reader_read_step C (n + 1) as κ R E' → a_Reader_read_step K C (FF_Reader_read_loop C n) (FF_Reader_read_branches C n) (endsA K κ.length R) (startA N_Reader_read_step as) κ := by
  rintro as κ R E' ⟨L, p, br, t, ps, er, rfl, rfl, ok, ht, hr, hz, hd, hn, h⟩
  cases t with
  | letter a b c =>
    have ha := ok.p a ht.1
    have hb := ok.p b ht.2.1
    have hc := ht.2.2.2
    refine ⟨_, rfl, lk_step_begins, begins_t hr (.inl ha) ?_⟩
    obtain ⟨n1, hL⟩ := hr.head
    have hk := kind_name ha
    generalize kindOf a = k at hL hk
    exact ⟨_, _, rfl, look_t, _, _, rfl, look_p, _, at_nat hL, rfl, bsel_t (decide_eq_true hk) ⟨_, rfl, lk_read_letter, letter_r hr ha hb hc ⟨_, _, GhR.refl (Nat.le_refl _), h⟩⟩⟩
  | use nn qs =>
    obtain ⟨o1, o2, o3, o4⟩ := okS_use ok ht
    have : ∃ w, w = ("use" : Str) ∧ Rd L p (w :: nn :: wL qs) := ⟨_, rfl, hr⟩
    obtain ⟨w, hw, hr1⟩ := this
    have hb : w ∈ stepWs := by rw [hw]; decide +kernel
    have hk : kindOf w ≠ "name" := by rw [hw]; decide +kernel
    refine ⟨_, rfl, lk_step_begins, begins_t hr1 (.inr hb) ?_⟩
    obtain ⟨n1, hL⟩ := hr1.head
    generalize kindOf w = k at hL hk
    refine ⟨_, _, rfl, look_t, _, _, rfl, look_p, _, at_nat hL, rfl, bsel_f (decide_eq_false hk) ⟨_, _, rfl, look_p, _, rfl, (show 3 < 1000 by decide), ?_⟩⟩
    rw [put_p]
    have e : p + (pS (.use nn qs)).length = p + 1 + 1 + (wL qs).length := by
      show p + ((wL qs).length + 1 + 1) = _; omega
    rw [e] at h
    refine bsel_t (decide_eq_true hw) ⟨_, rfl, lk_read_name, name_r hr1.tail o1 ⟨_, rfl, lk_read_parties, parties_w (ws := []) (by rw [List.append_nil]; exact hr1.tail.tail) o2 o3 o4 ⟨(show 3 ≤ sizeLine by decide), _, _, GhR.refl (Nat.le_refl _), h⟩⟩⟩
  | loop b =>
    have : ∃ w, w = ("loop" : Str) ∧ Rd L p (w :: ("{" : Str) :: (wB b ++ [("}" : Str)])) := ⟨_, rfl, hr⟩
    obtain ⟨w, hw, hr1⟩ := this
    have hb : w ∈ stepWs := by rw [hw]; decide +kernel
    have hk : kindOf w ≠ "name" := by rw [hw]; decide +kernel
    have hu : w ≠ "use" := by rw [hw]; decide +kernel
    have hz : szB b + 1 ≤ 1000 := hz
    have hd : ((dpB b + 1 : Nat) : Int) + br ≤ 8 := hd
    have hn : 3 * (dpB b + 1) + 1 ≤ n + 1 := hn
    refine ⟨_, rfl, lk_step_begins, begins_t hr1 (.inr hb) ?_⟩
    obtain ⟨n1, hL⟩ := hr1.head
    generalize kindOf w = k at hL hk
    refine ⟨_, _, rfl, look_t, _, _, rfl, look_p, _, at_nat hL, rfl, bsel_f (decide_eq_false hk) ⟨_, _, rfl, look_p, _, rfl, (show 3 < 1000 by decide), ?_⟩⟩
    rw [put_p]
    have e : p + (pS (.loop b)).length = p + 1 + ((wB b).length + 2) := by
      show p + ((wB b ++ [("}" : Str)]).length + 1 + 1) = _
      rw [List.length_append]; simp only [List.length_cons, List.length_nil]; omega
    rw [e] at h
    refine bsel_f (decide_eq_false hu) (bsel_t (decide_eq_true hw) ⟨_, rfl, lk_read_loop, loop_r ok ht hr1.tail (by omega) (by omega) (by omega) ⟨(show 2 ≤ sizeLine by decide), _, _, GhR.refl (Nat.le_refl _), h⟩⟩)
  | br v bs =>
    have : ∃ w, w = brW v ∧ Rd L p (w :: ("{" : Str) :: (sj "|" (pBs bs) ++ [("}" : Str)])) := ⟨_, rfl, hr⟩
    obtain ⟨w, hw, hr1⟩ := this
    obtain ⟨hb, hk, hu, hl⟩ := brW_step v
    have e : p + (pS (.br v bs)).length = p + 1 + ((sj "|" (pBs bs)).length + 2) := by
      show p + ((sj "|" (pBs bs) ++ [("}" : Str)]).length + 1 + 1) = _
      rw [List.length_append]; simp only [List.length_cons, List.length_nil]; omega
    rw [e] at h
    have h : R (.d (.tuple [.str (brW v), .tuple (dBs bs)])) [rdr C L (p + 1 + ((sj "|" (pBs bs)).length + 2)) br] := h
    rw [← hw] at hb hk hu hl h
    have hz : szBs bs + 1 ≤ 1000 := hz
    have hd : ((dpBs bs + 1 : Nat) : Int) + br ≤ 8 := hd
    have hn : 3 * (dpBs bs + 1) + 1 ≤ n + 1 := hn
    refine ⟨_, rfl, lk_step_begins, begins_t hr1 (.inr hb) ?_⟩
    obtain ⟨n1, hL⟩ := hr1.head
    generalize kindOf w = k at hL hk
    refine ⟨_, _, rfl, look_t, _, _, rfl, look_p, _, at_nat hL, rfl, bsel_f (decide_eq_false hk) ⟨_, _, rfl, look_p, _, rfl, (show 3 < 1000 by decide), ?_⟩⟩
    rw [put_p]
    refine bsel_f (decide_eq_false hu) (bsel_f (decide_eq_false hl) ⟨_, rfl, lk_read_branches, branches_r ok ht.1 ht.2.1 ht.2.2 hr1.tail (by omega) (by omega) (by omega) ⟨(show 2 ≤ sizeLine by decide), _, _, GhR.refl (Nat.le_refl _), h⟩⟩)
theorem szB_one {b : List Tr} {s : Tr} (h : s ∈ b) : szS s ≤ szB b := by
  induction b with
  | nil => cases h
  | cons t b ih =>
    show _ ≤ szS t + szB b
    rcases List.mem_cons.mp h with rfl | h
    · omega
    · have := ih h; omega
theorem szBs_one {bs : List (List Tr)} {s : List Tr} (h : s ∈ bs) : szB s ≤ szBs bs := by
  induction bs with
  | nil => cases h
  | cons t b ih =>
    show _ ≤ szB t + szBs b
    rcases List.mem_cons.mp h with rfl | h
    · omega
    · have := ih h; omega
theorem rd_Reader_read_body (C : Addr) (n : Nat) : ∀ as κ R E', FF_Reader_read_body C (n + 1) as κ R E' → a_Reader_read_body K C (FF_Reader_read_step C n) (endsA K κ.length R) (startA N_Reader_read_body as) κ := by
  rintro as κ R E' ⟨L, p, br, b, w, ps, er, rfl, rfl, ok, ht, hr, hw, hz, hd, hn, h⟩
  obtain ⟨hw1, hw2, hw3⟩ := stop_kind hw
  cases b with
  | nil =>
    exact ⟨_, rfl, lk_step_begins, begins_f hr ⟨hw1, hw2⟩ ⟨(show 0 ≤ sizeLine by decide), _, _, GhR.refl (Nat.le_refl _), h⟩⟩
  | cons s b =>
    have all : ∀ x ∈ s :: b, okS ps er x ∧ szS x ≤ 1000 ∧ dpS x + br ≤ 8 ∧ 3 * dpS x + 1 ≤ n := fun x hx => by
      have h1 := szB_one hx
      have h2 : dpS x ≤ dpB (s :: b) := dpB_le.mp (Nat.le_refl _) x hx
      exact ⟨okB_all.mp ht x hx, by omega, by omega, by omega⟩
    obtain ⟨s1, s2, s3, s4⟩ := all s (List.mem_cons_self ..)
    obtain ⟨x, xs, ex, hx⟩ := pS_head ok s1
    have hr0 : Rd L p (x :: (xs ++ sk ";" (pB b) ++ [w])) := by
      have e : wB (s :: b) ++ [w] = x :: (xs ++ sk ";" (pB b) ++ [w]) := by
        show (pS s ++ sk ";" (pB b)) ++ [w] = _
        rw [ex]; rfl
      rw [← e]; exact hr
    have hr1 : Rd L p (pS s ++ (sk ";" (pB b) ++ [w])) := by
      have e : wB (s :: b) ++ [w] = pS s ++ (sk ";" (pB b) ++ [w]) := by
        show (pS s ++ sk ";" (pB b)) ++ [w] = _
        rw [List.append_assoc]
      rw [← e]; exact hr
    refine ⟨_, rfl, lk_step_begins, begins_t hr0 hx ?_⟩
    refine ⟨_, rfl, lk_read_step, step_r ok s1 hr1 s2 s3 s4 ⟨(show 1 ≤ sizeLine by decide), ?_⟩⟩
    refine ⟨fun δ κ => δ = [some (.c 0), some (.c 1)] ∧ κ = [rdr C L (p + (wB (s :: b)).length) br, .ld (dB (s :: b))], ?_, ?_⟩
    · refine ⟨fun m δ κ => ∃ p' done todo, δ = [some (.c 0), some (.c 1)] ∧ κ = [rdr C L p' br, .ld (dB done)] ∧ s :: b = done ++ todo ∧ Rd L p' (sk ";" (pB todo) ++ [w]) ∧ p' + (sk ";" (pB todo)).length = p + (wB (s :: b)).length ∧ m = todo.length,
        ⟨_, p + (pS s).length, [s], b, rfl, rfl, rfl, hr1.right, ?_, rfl⟩, ?_⟩
      · show _ = p + (pS s ++ sk ";" (pB b)).length
        rw [List.length_append]; omega
      · rintro m δ κ ⟨p', done, todo, rfl, rfl, hq, hr2, hp', rfl⟩ _
        cases todo with
        | nil =>
          rw [List.append_nil] at hq
          have hp' : p' = p + (wB (s :: b)).length := hp'
          refine ⟨_, rfl, lk_passes, pass_f hr2 hw3 (by decide +kernel) ⟨rfl, by rw [hq, ← hq, hp']⟩⟩
        | cons y todo =>
          have hr3 : Rd L p' ((";" : Str) :: (pS y ++ (sk ";" (pB todo) ++ [w]))) := by
            have e : sk ";" (pB (y :: todo)) ++ [w] = (";" : Str) :: (pS y ++ (sk ";" (pB todo) ++ [w])) := by
              show (";" : Str) :: (pS y ++ sk ";" (pB todo)) ++ [w] = _
              rw [List.cons_append, List.append_assoc]
            rw [← e]; exact hr2
          obtain ⟨y1, y2, y3, y4⟩ := all y (by rw [hq]; simp)
          have hcnt := szB_cnt (s :: b)
          have hlen : (s :: b).length = done.length + (todo.length + 1) := by rw [hq, List.length_append, List.length_cons]
          refine ⟨_, rfl, lk_passes, pass_t hr3 m_semi ⟨_, fun _ _ q => q, rfl, _, rfl, lk_read_step, step_r ok y1 hr3.tail y2 y3 y4 ⟨?_, todo.length, Nat.lt_succ_self _, p' + 1 + (pS y).length, done ++ [y], todo, rfl, ?_, by rw [hq]; simp, hr3.tail.right, ?_, rfl⟩⟩⟩
          · rw [dB_len]; exact Nat.lt_of_lt_of_le (show done.length < 10000 by omega) (by decide)
          · rw [dB_map (done ++ [y]), List.map_append, ← dB_map]; rfl
          · rw [← hp']
            show _ = p' + ((";" : Str) :: (pS y ++ sk ";" (pB todo))).length
            rw [List.length_cons, List.length_append]; omega
    · rintro δ κ ⟨rfl, rfl⟩ _
      exact ⟨_, rfl, _, _, GhR.take 1 (Nat.le_refl _) (show 1 ≤ 2 by decide) rfl rfl, h⟩
theorem rd_Reader_read_loop (C : Addr) (n : Nat) : ∀ as κ R E', FF_Reader_read_loop C (n + 1) as κ R E' → a_Reader_read_loop K C (FF_Reader_read_body C n) (endsA K κ.length R) (startA N_Reader_read_loop as) κ := by
  rintro as κ R E' ⟨L, p, br, b, ps, er, rfl, rfl, ok, ht, hr, hz, hd, hn, h⟩
  refine ⟨_, rfl, lk_open_brace, open_w hr (by omega) ⟨_, rfl, lk_read_body, body_r ok ht hr.tail (.inl rfl) hz (by omega) (by omega) ⟨_, rfl, lk_close_brace, close_w hr.tail.right ⟨_, _, GhR.refl (Nat.le_refl _), ?_⟩⟩⟩⟩
  have e1 : br + 1 - 1 = br := by omega
  have e2 : p + 1 + (wB b).length + 1 = p + ((wB b).length + 2) := by omega
  rw [e1, e2]; exact h
theorem bars_stop (bs : List (List Tr)) : ∃ w ws, sk "|" (pBs bs) ++ [("}" : Str)] = w :: ws ∧ stopW w := by
  cases bs with
  | nil => exact ⟨_, _, rfl, .inl rfl⟩
  | cons b bs => exact ⟨_, _, rfl, .inr (.inl rfl)⟩
theorem rd_Reader_read_branches (C : Addr) (n : Nat) : ∀ as κ R E', FF_Reader_read_branches C (n + 1) as κ R E' → a_Reader_read_branches K C (FF_Reader_read_body C n) (endsA K κ.length R) (startA N_Reader_read_branches as) κ := by
  rintro as κ R E' ⟨L, p, br, bs, ps, er, rfl, rfl, ok, h0, h3, ht, hr, hz, hd, hn, h⟩
  cases bs with
  | nil => exact absurd rfl h0
  | cons s b =>
    have all : ∀ x ∈ s :: b, okB ps er x ∧ szB x ≤ 1000 ∧ dpB x + (br + 1) ≤ 8 ∧ 3 * dpB x + 2 ≤ n := fun x hx => by
      have h1 := szBs_one hx
      have h2 : dpB x ≤ dpBs (s :: b) := dpBs_le.mp (Nat.le_refl _) x hx
      exact ⟨okBs_all.mp ht x hx, by omega, by omega, by omega⟩
    obtain ⟨s1, s2, s3, s4⟩ := all s (List.mem_cons_self ..)
    obtain ⟨w0, ws0, e0, hw0⟩ := bars_stop b
    have hr1 : Rd L (p + 1) (wB s ++ (sk "|" (pBs b) ++ [("}" : Str)])) := by
      have e : sj "|" (pBs (s :: b)) ++ [("}" : Str)] = wB s ++ (sk "|" (pBs b) ++ [("}" : Str)]) := by
        show (wB s ++ sk "|" (pBs b)) ++ [("}" : Str)] = _
        rw [List.append_assoc]
      rw [← e]; exact hr.tail
    refine ⟨_, rfl, lk_open_brace, open_w hr (by omega) ⟨_, rfl, lk_read_body, body_r ok s1 (e0 ▸ hr1) hw0 s2 s3 s4 ⟨(show 1 ≤ sizeLine by decide), ?_⟩⟩⟩
    refine ⟨fun δ κ => ∃ p', δ = [some (.c 0), some (.c 1)] ∧ κ = [rdr C L p' (br + 1), .ld (dBs (s :: b))] ∧ Rd L p' [("}" : Str)] ∧ p' = p + 1 + (sj "|" (pBs (s :: b))).length, ?_, ?_⟩
    · refine ⟨fun m δ κ => ∃ p' done todo, δ = [some (.c 0), some (.c 1)] ∧ κ = [rdr C L p' (br + 1), .ld (dBs done)] ∧ s :: b = done ++ todo ∧ Rd L p' (sk "|" (pBs todo) ++ [("}" : Str)]) ∧ p' + (sk "|" (pBs todo)).length = p + 1 + (sj "|" (pBs (s :: b))).length ∧ m = todo.length,
        ⟨_, p + 1 + (wB s).length, [s], b, rfl, rfl, rfl, hr1.right, ?_, rfl⟩, ?_⟩
      · show _ = p + 1 + (wB s ++ sk "|" (pBs b)).length
        rw [List.length_append]; omega
      · rintro m δ κ ⟨p', done, todo, rfl, rfl, hq, hr2, hp', rfl⟩ _
        cases todo with
        | nil =>
          rw [List.append_nil] at hq
          have hp' : p' = p + 1 + (sj "|" (pBs (s :: b))).length := hp'
          refine ⟨_, rfl, lk_passes, pass_f (w := "}") hr2 (by decide +kernel) (by decide +kernel) ⟨p', rfl, by rw [hq], hr2, hp'⟩⟩
        | cons y todo =>
          obtain ⟨w1, ws1, e1, hw1⟩ := bars_stop todo
          have hr3 : Rd L p' (("|" : Str) :: (wB y ++ (sk "|" (pBs todo) ++ [("}" : Str)]))) := by
            have e : sk "|" (pBs (y :: todo)) ++ [("}" : Str)] = ("|" : Str) :: (wB y ++ (sk "|" (pBs todo) ++ [("}" : Str)])) := by
              show ("|" : Str) :: (wB y ++ sk "|" (pBs todo)) ++ [("}" : Str)] = _
              rw [List.cons_append, List.append_assoc]
            rw [← e]; exact hr2
          obtain ⟨y1, y2, y3, y4⟩ := all y (by rw [hq]; simp)
          have hlen : (s :: b).length = done.length + (todo.length + 1) := by rw [hq, List.length_append, List.length_cons]
          refine ⟨_, rfl, lk_passes, pass_t hr3 m_bar ⟨_, fun _ _ q => q, rfl, _, rfl, lk_read_body, body_r ok y1 (e1 ▸ hr3.tail) hw1 y2 y3 y4 ⟨?_, todo.length, Nat.lt_succ_self _, p' + 1 + (wB y).length, done ++ [y], todo, rfl, ?_, by rw [hq]; simp, hr3.tail.right, ?_, rfl⟩⟩⟩
          · rw [dBs_len]; exact Nat.lt_of_lt_of_le (show done.length < 10000 by omega) (by decide)
          · rw [dBs_map (done ++ [y]), List.map_append, ← dBs_map]; rfl
          · rw [← hp']
            show _ = p' + (("|" : Str) :: (wB y ++ sk "|" (pBs todo))).length
            rw [List.length_cons, List.length_append]; omega
    · rintro δ κ ⟨p', rfl, rfl, hr2, hp'⟩ _
      refine ⟨_, rfl, lk_close_brace, close_w hr2 ⟨_, rfl, _, _, GhR.take 1 (Nat.le_refl _) (show 1 ≤ 2 by decide) rfl rfl, ?_⟩⟩
      have e1 : br + 1 - 1 = br := by omega
      have e2 : p' + 1 = p + ((sj "|" (pBs (s :: b))).length + 2) := by omega
      rw [e1, e2]; exact h
/-! ### a pact -/
def erOk (er : List (Str × Nat)) : Prop := ∀ x ∈ er, isName x.1 ∧ 0 < x.2
def F_Reader_read_pact (C : Addr) : FSp := fun as κ R _ => ∃ (L : List PyData) (p : Nat) (P : Pct) (room : Int) (er : List (Str × Nat)), as = [.c 0] ∧ κ = [rdr C L p 0] ∧ okP room er P ∧ room ≤ 1000 ∧ erOk er ∧ Rd L p (wP P) ∧ R (.d (pctD P)) [rdr C L (p + (wP P).length) 0]
abbrev N_Reader_read_pact : List Str := ["self", "name", "parties", "body"]
def a_Reader_read_pact (K : PySem.W.Frag) (C_Reader : Addr) : AS :=
  (aSeq (aDrop (aMeth C_Reader "need" (F_Reader_need C_Reader) (aVar 0) (aCons (aC (.d (.str "word"))) (aCons (aC (.d (.str "pact"))) aNil)))) (aSeq (aSet 1 (aMeth C_Reader "read_name" (F_Reader_read_name C_Reader) (aVar 0) aNil)) (aSeq (aSet 2 (aMeth C_Reader "read_parties" (F_Reader_read_parties C_Reader) (aVar 0) aNil)) (aSeq (aSet 3 (aMeth C_Reader "read_body" (FF_Reader_read_body C_Reader 60) (aVar 0) aNil)) (aSeq (aDrop (aMeth C_Reader "need" (F_Reader_need C_Reader) (aVar 0) (aCons (aC (.d (.str "word"))) (aCons (aC (.d (.str "end"))) aNil)))) (aRet (aTup (aCons (aC (.d (.str "pact"))) (aCons (aVar 1) (aCons (aVar 2) (aCons (aVar 3) aNil)))))))))))
theorem len_Reader_read_pact (C : Addr) : ∀ as κ R E', F_Reader_read_pact C as κ R E' → as.length = (["self"] : List Str).length := by
  rintro as κ R E' ⟨L, p, b, _, _, rfl, _⟩; rfl
theorem w_pact : ("pact" : Str) ∈ wordsL := by decide +kernel
theorem w_end : ("end" : Str) ∈ wordsL := by decide +kernel
theorem rd_Reader_read_pact (C : Addr) : ∀ as κ R E', F_Reader_read_pact C as κ R E' → a_Reader_read_pact K C (endsA K κ.length R) (startA N_Reader_read_pact as) κ := by
  rintro as κ R E' ⟨L, p, P, room, er, rfl, rfl, hP, hroom, her, hr, h⟩
  have hr : Rd L p (("pact" : Str) :: P.name :: (wL P.ps ++ (wB P.body ++ [("end" : Str)]))) := hr
  have ok : okN P.ps er := ⟨hP.pa, hP.pl, her⟩
  have hz := hP.z
  have hd := hP.d
  refine ⟨_, rfl, lk_need, need_k hr w_pact ⟨_, rfl, lk_read_name, name_r hr.tail hP.n ⟨_, rfl, lk_read_parties, parties_w hr.tail.tail hP.pp hP.pl hP.pa ⟨_, rfl, lk_read_body, body_r ok hP.b hr.tail.tail.right (.inr (.inr rfl)) (by omega) (by omega) (by omega) ⟨_, rfl, lk_need, need_k hr.tail.tail.right.right w_end ⟨(show 4 ≤ sizeLine by decide), _, _, GhR.refl (Nat.le_refl _), ?_⟩⟩⟩⟩⟩⟩
  have e : p + (wP P).length = p + 1 + 1 + (wL P.ps).length + (wB P.body).length + 1 := by
    show p + (("pact" : Str) :: P.name :: (wL P.ps ++ (wB P.body ++ [("end" : Str)]))).length = _
    rw [List.length_cons, List.length_cons, List.length_append, List.length_append]; simp only [List.length_cons, List.length_nil]; omega
  rw [← e]; exact h
theorem pact_r {C : Addr} {L : List PyData} {p : Nat} {P : Pct} {room : Int} {er : List (Str × Nat)} {ws : List Str} {κr : AK} {E : AX → AK → Prop} {R : AR} (hP : okP room er P) (h1 : room ≤ 1000) (h2 : erOk er) (hr : Rd L p (wP P ++ ws)) (h : R (.d (pctD P)) (rdr C L (p + (wP P).length) 0 :: κr)) : callW (F_Reader_read_pact C) E [.c 0] (rdr C L p 0 :: κr) R :=
  callW_i ⟨[0], _, _, by decide, rfl, sel_r, L, p, P, room, er, rfl, rfl, hP, h1, h2, hr.left, Nat.le_refl _, rfl, rfl, h⟩
/-! ### is_behind_all -/
def F_Reader_is_behind_all (C : Addr) : FSp := fun as κ R _ => ∃ (L : List PyData) (p : Nat) (b : Int), as = [.c 0] ∧ κ = [rdr C L p b] ∧ R (.d (.bool (decide ((p : Int) = (L.length : Int) - 1)))) [rdr C L p b]
abbrev N_Reader_is_behind_all : List Str := ["self"]
def a_Reader_is_behind_all (K : PySem.W.Frag) (C_Reader : Addr) : AS :=
  (aRet (aOp aEq (aFld C_Reader "place" (aVar 0)) (aOp aSub (aCB aLen (aCons (aFld C_Reader "tokens" (aVar 0)) aNil)) (aC (.d (.int 1))))))
theorem len_Reader_is_behind_all (C : Addr) : ∀ as κ R E', F_Reader_is_behind_all C as κ R E' → as.length = (["self"] : List Str).length := by
  rintro as κ R E' ⟨L, p, b, rfl, _⟩; rfl
theorem rd_Reader_is_behind_all (C : Addr) : ∀ as κ R E', F_Reader_is_behind_all C as κ R E' → a_Reader_is_behind_all K C (endsA K κ.length R) (startA N_Reader_is_behind_all as) κ := by
  rintro as κ R E' ⟨L, p, b, rfl, rfl, h⟩
  exact ⟨_, _, rfl, look_p, _, _, rfl, look_t, _, _, GhR.refl (Nat.le_refl _), h⟩
theorem behind_w {C : Addr} {L : List PyData} {p : Nat} {b : Int} {κr : AK} {E : AX → AK → Prop} {R : AR} (h : R (.d (.bool (decide ((p : Int) = (L.length : Int) - 1)))) (rdr C L p b :: κr)) : callW (F_Reader_is_behind_all C) E [.c 0] (rdr C L p b :: κr) R :=
  callW_i ⟨[0], _, _, by decide, rfl, sel_r, L, p, b, rfl, rfl, Nat.le_refl _, rfl, rfl, h⟩
end Com
set_option Elab.async false
set_option linter.all false
set_option maxRecDepth 100000
set_option maxHeartbeats 4000000
/-! Rea4: a new reader; names; books -/
namespace Com
open PySem L2 Ab
variable {K : PySem.W.Frag}
/-! ### a new reader -/
def tkL (ts : List (Str × Nat)) (s : Str) : List PyData := (ts.map fun p => tokD p.1 (p.2 : Nat)) ++ [tokT "nothing" "" (s.length : Nat)]
def F_Reader___init__ (C : Addr) : FSp := fun as κ R _ => ∃ (s : Str) (ts : List (Str × Nat)), as = [.c 0, .d (.str s)] ∧ κ = [.ins C []] ∧ s.length ≤ 6000000 ∧ Toks (tl s) 0 ts ∧ R (.d .none) [rdr C (tkL ts s) 0 0]
abbrev N_Reader___init__ : List Str := ["self", "text"]
def a_Reader___init__ (K : PySem.W.Frag) (C_Reader : Addr) : AS :=
  (aSeq (aFldSet C_Reader "tokens" (aVar 0) (aOp (aCat false) (aCall F_tokenize (fun _ _ => False) (aCons (aVar 1) aNil)) (aLstD (aCons (aTup (aCons (aC (.d (.str "nothing"))) (aCons (aC (.d (.str ""))) (aCons (aCB aLen (aCons (aVar 1) aNil)) aNil)))) aNil)))) (aSeq (aFldSet C_Reader "place" (aVar 0) (aC (.d (.int 0)))) (aFldSet C_Reader "braces" (aVar 0) (aC (.d (.int 0))))))
theorem len_Reader___init__ (C : Addr) : ∀ as κ R E', F_Reader___init__ C as κ R E' → as.length = (["self", "text"] : List Str).length := by
  rintro as κ R E' ⟨s, ts, rfl, _⟩; rfl
theorem rd_Reader___init__ (C : Addr) : ∀ as κ R E', F_Reader___init__ C as κ R E' → a_Reader___init__ K C (endsA K κ.length R) (startA N_Reader___init__ as) κ := by
  rintro as κ R E' ⟨s, ts, rfl, rfl, hs, ht, h⟩
  have hl := toks_len ht
  rw [← tl_len] at hl
  refine tokenize_w hs ht ⟨lt6 hs, (show 3 ≤ sizeLine by decide), (show 1 ≤ sizeLine by decide), _, _, rfl, rfl, ?_, ?_⟩
  · rw [List.length_map]; exact Nat.le_trans (show ts.length + 1 ≤ 6000001 by omega) (by decide)
  · refine ⟨[], rfl, (show 0 < 1000 by decide), _, rfl, (show 1 < 1000 by decide), _, rfl, put_2l, _, _, GhR.take 1 (Nat.le_refl _) (show 1 ≤ 2 by decide) rfl rfl, ?_⟩
    have e : ([Cell.ins C (putA "braces" (.d (.int 0)) (putA "place" (.d (.int 0)) (putA "tokens" (.d (.list (tkL ts s))) [])))] : AK) = [rdr C (tkL ts s) 0 0] := by rw [put_3]; rfl
    rw [← e] at h; exact h
theorem init_w {C : Addr} {s : Str} {ts : List (Str × Nat)} {E : AX → AK → Prop} {R : AR} (hs : s.length ≤ 6000000) (ht : Toks (tl s) 0 ts) (h : R (.d .none) [rdr C (tkL ts s) 0 0]) : callW (F_Reader___init__ C) E [.c 0, .d (.str s)] [.ins C []] R :=
  callW_i ⟨[0], _, _, by decide, rfl, rfl, s, ts, rfl, rfl, hs, ht, Nat.le_refl _, rfl, rfl, h⟩
/-! ### no party twice -/
theorem for_e {xs : List PyData} {ag : AG} {f : AS} {A : AEnds} {n : Nat} {δ : AD} {κ1 : AK} (Pv : Nat → AD → AK → Prop) (h0 : Pv 0 δ κ1) (hd : ∀ δ' κ', Pv xs.length δ' κ' → n ≤ κ'.length → A.nx δ' κ')
    (hs : ∀ i x δ' κ', xs[i]? = some x → Pv i δ' κ' → n ≤ κ'.length → ag (.d (.tuple [.int (i : Nat), x])) δ' κ' fun δ2 κ2 => f { n := n, nx := Pv (i + 1), ct := Pv (i + 1), bk := A.nx, rt := A.rt } δ2 κ2) : ForW (itE xs) ag f A n δ κ1 := by
  refine ⟨fun i m δ' κ' => m = xs.length - i ∧ i ≤ xs.length ∧ Pv i δ' κ', ⟨_, rfl, Nat.zero_le _, h0⟩, ?_⟩
  rintro i m δ' κ' ⟨rfl, hi, p⟩ ln
  by_cases hlt : i < xs.length
  · refine .inr ⟨hlt, Pv (i + 1), fun _ _ q => ⟨xs.length - (i + 1), by omega, rfl, hlt, q⟩, ?_⟩
    rintro a ⟨x, hx, rfl⟩
    exact hs i x δ' κ' hx p ln
  · have e : i = xs.length := by omega
    subst e
    exact .inl ⟨Nat.le_refl _, hd _ _ p ln⟩
theorem cut_take {α : Type} (xs : List α) (i : Nat) (h : i ≤ xs.length) : cutD xs none (some (i : Int)) = xs.take i := by
  unfold cutD
  rw [HT.sIx_nat, show min i xs.length = i by omega]
  rfl
theorem nodup_take {qs : List Str} (h : qs.Nodup) {i : Nat} {z : Str} (hz : qs[i]? = some z) : z ∉ qs.take i := fun hm => by
  obtain ⟨j, hj⟩ := List.mem_iff_getElem?.mp hm
  have hji : j < i := by have := (List.getElem?_eq_some_iff.mp hj).1; rw [List.length_take] at this; omega
  rw [List.getElem?_take_of_lt hji] at hj
  have hl := (List.getElem?_eq_some_iff.mp hz).1
  have := (List.getElem?_inj (by omega) h).mp (hj.trans hz.symm)
  omega
def F__check_no_party_twice : FSp := fun as κ R _ => ∃ qs : List Str, as = [.d (.tuple (qs.map .str))] ∧ κ = [] ∧ qs.Nodup ∧ R (.d .none) []
abbrev N__check_no_party_twice : List Str := ["parties", "at", "party"]
def a__check_no_party_twice (K : PySem.W.Frag) : AS :=
  (aFor (aEnumT (aCons (aVar 0) aNil)) (aGTup 2 (aGCons (aName 1) (aGCons (aName 2) aGNil))) (aIfS (aB (aOp (aIn id) (aVar 2) (aSlT (aVar 0) aNoPart (aPart (aVar 1))))) aNever aNext))
theorem len__check_no_party_twice : ∀ as κ R E', F__check_no_party_twice as κ R E' → as.length = (["parties"] : List Str).length := by
  rintro as κ R E' ⟨qs, rfl, _⟩; rfl
theorem rd__check_no_party_twice : ∀ as κ R E', F__check_no_party_twice as κ R E' → a__check_no_party_twice K (endsA K κ.length R) (startA N__check_no_party_twice as) κ := by
  rintro as κ R E' ⟨qs, rfl, rfl, hq, h⟩
  refine for_e (fun i δ κ => ∃ x y, δ = [some (.d (.tuple (qs.map .str))), x, y] ∧ κ = []) ⟨none, none, rfl, rfl⟩ ?_ ?_
  · rintro δ κ ⟨x, y, rfl, rfl⟩ _
    exact ⟨_, _, GhR.refl (Nat.le_refl _), h⟩
  · rintro i d δ κ hd ⟨x, y, rfl, rfl⟩ _
    have hi := (List.getElem?_eq_some_iff.mp hd).1
    rw [List.getElem?_map] at hd
    obtain ⟨z, hz, rfl⟩ := Option.map_eq_some_iff.mp hd
    refine ⟨rfl, rfl, ?_, bsel_f ?_ ⟨_, _, rfl, rfl⟩⟩
    · rw [cut_take _ _ (Nat.le_of_lt hi), ← List.map_take]; exact flat_strs _
    · rw [cut_take _ _ (Nat.le_of_lt hi), ← List.map_take, inD_str]
      exact decide_eq_false (nodup_take hq hz)
theorem twice_w {qs : List Str} {κ : AK} {R : AR} {E : AX → AK → Prop} (hq : qs.Nodup) (h : R (.d .none) κ) : callW F__check_no_party_twice E [.d (.tuple (qs.map .str))] κ R :=
  callW_i ⟨[], _, _, .nil, rfl, rfl, qs, rfl, rfl, hq, Nat.zero_le _, rfl, rfl, h⟩
/-! ### letters, uses -/
def F__check_letter : FSp := fun as κ R _ => ∃ (w a b c : Str) (ps : List Str), as = [.d (.tuple [.str w, .str a, .str b, .str c]), .d (.tuple (ps.map .str))] ∧ κ = [] ∧ a ∈ ps ∧ b ∈ ps ∧ a ≠ b ∧ R (.d .none) []
abbrev N__check_letter : List Str := ["letter", "parties", "_", "sender", "taker"]
def a__check_letter (K : PySem.W.Frag) : AS :=
  (aSeq (aAsg (aVar 0) (aGTup 4 (aGCons (aName 2) (aGCons (aName 3) (aGCons (aName 4) (aGCons (aName 2) aGNil)))))) (aSeq (aIfS (aB (aOp (aIn not) (aVar 3) (aVar 1))) aNever aNext) (aSeq (aIfS (aB (aOp (aIn not) (aVar 4) (aVar 1))) aNever aNext) (aIfS (aB (aOp aEq (aVar 4) (aVar 3))) aNever aNext))))
theorem len__check_letter : ∀ as κ R E', F__check_letter as κ R E' → as.length = (["letter", "parties"] : List Str).length := by
  rintro as κ R E' ⟨w, a, b, c, ps, rfl, _⟩; rfl
theorem in_t {z : Str} {ps : List Str} (h : z ∈ ps) : (!inD (.str z) (ps.map .str)) = false := by rw [inD_str, decide_eq_true h]; rfl
theorem rd__check_letter : ∀ as κ R E', F__check_letter as κ R E' → a__check_letter K (endsA K κ.length R) (startA N__check_letter as) κ := by
  rintro as κ R E' ⟨w, a, b, c, ps, rfl, rfl, ha, hb, hn, h⟩
  exact ⟨rfl, rfl, flat_strs _, bsel_f (in_t ha) ⟨rfl, flat_strs _, bsel_f (in_t hb) (bsel_f (decide_eq_false fun e => hn (Eq.symm e)) ⟨_, _, GhR.refl (Nat.le_refl _), h⟩)⟩⟩
theorem cletter_w {w a b c : Str} {ps : List Str} {κ : AK} {R : AR} {E : AX → AK → Prop} (ha : a ∈ ps) (hb : b ∈ ps) (hn : a ≠ b) (h : R (.d .none) κ) : callW F__check_letter E [.d (.tuple [.str w, .str a, .str b, .str c]), .d (.tuple (ps.map .str))] κ R :=
  callW_i ⟨[], _, _, .nil, rfl, rfl, w, a, b, c, ps, rfl, rfl, ha, hb, hn, Nat.zero_le _, rfl, rfl, h⟩
def F__check_use : FSp := fun as κ R _ => ∃ (w n : Str) (qs ps : List Str) (kv : List (L2.Key × PyData)), as = [.d (.tuple [.str w, .str n, .tuple (qs.map .str)]), .d (.tuple (ps.map .str)), .c 0] ∧ κ = [.dK kv] ∧ valD kv (.inr n) = some (.int (qs.length : Nat)) ∧ qs.Nodup ∧ (∀ q ∈ qs, q ∈ ps) ∧ R (.d .none) [.dK kv]
abbrev N__check_use : List Str := ["use", "parties", "counts", "_", "name", "given", "at", "party"]
def a__check_use (K : PySem.W.Frag) : AS :=
  (aSeq (aAsg (aVar 0) (aGTup 3 (aGCons (aName 3) (aGCons (aName 4) (aGCons (aName 5) aGNil))))) (aSeq (aIfS (aB (aDIn not (aVar 4) (aVar 2))) aNever aNext) (aSeq (aFor (aEnumT (aCons (aVar 5) aNil)) (aGTup 2 (aGCons (aName 6) (aGCons (aName 7) aGNil))) (aSeq (aIfS (aB (aOp (aIn not) (aVar 7) (aVar 1))) aNever aNext) (aIfS (aB (aOp (aIn id) (aVar 7) (aSlT (aVar 5) aNoPart (aPart (aVar 6))))) aNever aNext))) (aIfS (aB (aOp aNe (aCB aLen (aCons (aVar 5) aNil)) (aDGet (aVar 2) (aVar 4)))) aNever aNext))))
theorem len__check_use : ∀ as κ R E', F__check_use as κ R E' → as.length = (["use", "parties", "counts"] : List Str).length := by
  rintro as κ R E' ⟨w, n, qs, ps, kv, rfl, _⟩; rfl
theorem rd__check_use : ∀ as κ R E', F__check_use as κ R E' → a__check_use K (endsA K κ.length R) (startA N__check_use as) κ := by
  rintro as κ R E' ⟨w, n, qs, ps, kv, rfl, rfl, hv, hq, hp, h⟩
  refine ⟨rfl, kv, .inr n, rfl, rfl, bsel_f (by rw [hv]; rfl) ?_⟩
  refine for_e (fun i δ κ => ∃ x y, δ = [some (.d (.tuple [.str w, .str n, .tuple (qs.map .str)])), some (.d (.tuple (ps.map .str))), some (.c 0), some (.d (.str w)), some (.d (.str n)), some (.d (.tuple (qs.map .str))), x, y] ∧ κ = [.dK kv]) ⟨none, none, rfl, rfl⟩ ?_ ?_
  · rintro δ κ ⟨x, y, rfl, rfl⟩ _
    refine ⟨kv, .inr n, _, rfl, rfl, hv, bsel_f ?_ ⟨_, _, GhR.refl (Nat.le_refl _), h⟩⟩
    rw [List.length_map]
    show (!decide ((qs.length : Int) = (qs.length : Int))) = false
    rw [decide_eq_true rfl]; rfl
  · rintro i d δ κ hd ⟨x, y, rfl, rfl⟩ _
    have hi := (List.getElem?_eq_some_iff.mp hd).1
    rw [List.getElem?_map] at hd
    obtain ⟨z, hz, rfl⟩ := Option.map_eq_some_iff.mp hd
    refine ⟨rfl, rfl, flat_strs _, bsel_f (in_t (hp z (List.mem_of_getElem? hz))) ⟨rfl, ?_, bsel_f ?_ ⟨_, _, rfl, rfl⟩⟩⟩
    · rw [cut_take _ _ (Nat.le_of_lt hi), ← List.map_take]; exact flat_strs _
    · rw [cut_take _ _ (Nat.le_of_lt hi), ← List.map_take, inD_str]
      exact decide_eq_false (nodup_take hq hz)
/-! ### bodies -/
def erD (er : List (Str × Nat)) (kv : List (L2.Key × PyData)) : Prop := ∀ e ∈ er, valD kv (.inr e.1) = some (.int (e.2 : Nat))
def FF__check_body (n : Nat) : FSp := fun as κ R _ => ∃ (b : List Tr) (ps : List Str) (er : List (Str × Nat)) (kv : List (L2.Key × PyData)), as = [.d (.tuple (dB b)), .d (.tuple (ps.map .str)), .c 0] ∧ κ = [.dK kv] ∧ erD er kv ∧ okB ps er b ∧ dpB b + 1 ≤ n ∧ R (.d .none) [.dK kv]
abbrev N__check_body : List Str := ["body", "parties", "counts", "step", "inner"]
def a__check_body (K : PySem.W.Frag) (F_self__check_body : FSp) : AS :=
  (aFor (aIter (aVar 0)) (aName 3) (aIfS (aB (aOp aEq (aOp aIx (aVar 3) (aC (.d (.int 0)))) (aC (.d (.str "letter"))))) (aDrop (aCall F__check_letter (fun _ _ => False) (aCons (aVar 3) (aCons (aVar 1) aNil)))) (aIfS (aB (aOp aEq (aOp aIx (aVar 3) (aC (.d (.int 0)))) (aC (.d (.str "use"))))) (aDrop (aCall F__check_use (fun _ _ => False) (aCons (aVar 3) (aCons (aVar 1) (aCons (aVar 2) aNil))))) (aIfS (aB (aOp aEq (aOp aIx (aVar 3) (aC (.d (.int 0)))) (aC (.d (.str "loop"))))) (aDrop (aCall F_self__check_body (fun _ _ => False) (aCons (aOp aIx (aVar 3) (aC (.d (.int 1)))) (aCons (aVar 1) (aCons (aVar 2) aNil))))) (aFor (aIter (aOp aIx (aVar 3) (aC (.d (.int 1))))) (aName 4) (aDrop (aCall F_self__check_body (fun _ _ => False) (aCons (aVar 4) (aCons (aVar 1) (aCons (aVar 2) aNil))))))))))
theorem len__check_body (n : Nat) : ∀ as κ R E', FF__check_body n as κ R E' → as.length = (["body", "parties", "counts"] : List Str).length := by
  rintro as κ R E' ⟨b, ps, er, kv, rfl, _⟩; rfl
theorem rd0__check_body {as κ R E'} (h : FF__check_body 0 as κ R E') : False := by
  obtain ⟨b, ps, er, kv, _, _, _, _, h, _⟩ := h; omega
section
variable {ps : List Str} {er : List (Str × Nat)} {kv : List (L2.Key × PyData)} {R : AR} {E : AX → AK → Prop}
theorem cuse_w {w n : Str} {qs : List Str} (hv : valD kv (.inr n) = some (.int (qs.length : Nat))) (hq : qs.Nodup) (hp : ∀ q ∈ qs, q ∈ ps) (h : R (.d .none) [.dK kv]) : callW F__check_use E [.d (.tuple [.str w, .str n, .tuple (qs.map .str)]), .d (.tuple (ps.map .str)), .c 0] [.dK kv] R :=
  callW_i ⟨[0], _, _, by decide, rfl, rfl, w, n, qs, ps, kv, rfl, rfl, hv, hq, hp, Nat.le_refl _, rfl, rfl, h⟩
theorem cbody_w {n : Nat} {b : List Tr} (he : erD er kv) (hb : okB ps er b) (hn : dpB b + 1 ≤ n) (h : R (.d .none) [.dK kv]) : callW (FF__check_body n) E [.d (.tuple (dB b)), .d (.tuple (ps.map .str)), .c 0] [.dK kv] R :=
  callW_i ⟨[0], _, _, by decide, rfl, rfl, b, ps, er, kv, rfl, rfl, he, hb, hn, Nat.le_refl _, rfl, rfl, h⟩
theorem cbody_w1 {c : Cell} {n : Nat} {b : List Tr} (he : erD er kv) (hb : okB ps er b) (hn : dpB b + 1 ≤ n) (h : R (.d .none) [c, .dK kv]) : callW (FF__check_body n) E [.d (.tuple (dB b)), .d (.tuple (ps.map .str)), .c 1] [c, .dK kv] R :=
  callW_i ⟨[1], _, _, by decide, rfl, rfl, b, ps, er, kv, rfl, rfl, he, hb, hn, Nat.le_refl _, rfl, rfl, h⟩
end
theorem rd__check_body (n : Nat) : ∀ as κ R E', FF__check_body (n + 1) as κ R E' → a__check_body K (FF__check_body n) (endsA K κ.length R) (startA N__check_body as) κ := by
  rintro as κ R E' ⟨b, ps, er, kv, rfl, rfl, he, hb, hn, h⟩
  refine for_d (fun i δ κ => ∃ x y, δ = [some (.d (.tuple (dB b))), some (.d (.tuple (ps.map .str))), some (.c 0), x, y] ∧ κ = [.dK kv]) ⟨none, none, rfl, rfl⟩ ?_ ?_
  · rintro δ κ ⟨x, y, rfl, rfl⟩ _
    exact ⟨_, _, GhR.refl (Nat.le_refl _), h⟩
  · rintro i d δ κ hd ⟨x, y, rfl, rfl⟩ _
    rw [dB_map, List.getElem?_map] at hd
    obtain ⟨t, ht, rfl⟩ := Option.map_eq_some_iff.mp hd
    have hm := List.mem_of_getElem? ht
    have hs := okB_all.mp hb t hm
    have hdp : dpS t ≤ dpB b := dpB_le.mp (Nat.le_refl _) t hm
    have hv := trV t
    generalize dS t = d at hv
    cases hv with
    | letter w a b' c hw =>
      exact ⟨.str w, at_nat (j := 0) rfl, bsel_t (decide_eq_true hw) (cletter_w hs.1 hs.2.1 hs.2.2.1 ⟨_, _, rfl, rfl⟩)⟩
    | use w nn qs hw =>
      have n1 : w ≠ "letter" := by rw [hw]; decide +kernel
      exact ⟨.str w, at_nat (j := 0) rfl, bsel_f (decide_eq_false n1) ⟨.str w, at_nat (j := 0) rfl, bsel_t (decide_eq_true hw) (cuse_w (he _ hs.1) hs.2.1 hs.2.2 ⟨_, _, rfl, rfl⟩)⟩⟩
    | loop w b' hw =>
      have n1 : w ≠ "letter" := by rw [hw]; decide +kernel
      have n2 : w ≠ "use" := by rw [hw]; decide +kernel
      have hdp : dpB b' + 1 ≤ dpB b := hdp
      exact ⟨.str w, at_nat (j := 0) rfl, bsel_f (decide_eq_false n1) ⟨.str w, at_nat (j := 0) rfl, bsel_f (decide_eq_false n2) ⟨.str w, at_nat (j := 0) rfl, bsel_t (decide_eq_true hw) ⟨.tuple (dB b'), at_nat (j := 1) rfl, cbody_w he hs (by omega) ⟨_, _, rfl, rfl⟩⟩⟩⟩⟩
    | br w v bs hv hw =>
      have n1 : w ≠ "letter" := by rcases hw with rfl | rfl <;> decide +kernel
      have n2 : w ≠ "use" := by rcases hw with rfl | rfl <;> decide +kernel
      have n3 : w ≠ "loop" := by rcases hw with rfl | rfl <;> decide +kernel
      have hdp : dpBs bs + 1 ≤ dpB b := hdp
      refine ⟨.str w, at_nat (j := 0) rfl, bsel_f (decide_eq_false n1) ⟨.str w, at_nat (j := 0) rfl, bsel_f (decide_eq_false n2) ⟨.str w, at_nat (j := 0) rfl, bsel_f (decide_eq_false n3) ⟨.tuple (dBs bs), at_nat (j := 1) rfl, ?_⟩⟩⟩⟩
      refine for_d (fun i δ κ => ∃ y, δ = [some (.d (.tuple (dB b))), some (.d (.tuple (ps.map .str))), some (.c 0), some (.d (.tuple [.str w, .tuple (dBs bs)])), y] ∧ κ = [.dK kv]) ⟨_, rfl, rfl⟩ ?_ ?_
      · rintro δ κ ⟨y, rfl, rfl⟩ _
        exact ⟨_, _, rfl, rfl⟩
      · rintro j d δ κ hj ⟨y, rfl, rfl⟩ _
        rw [dBs_map, List.getElem?_map] at hj
        obtain ⟨b', hb', rfl⟩ := Option.map_eq_some_iff.mp hj
        have hm' := List.mem_of_getElem? hb'
        have : dpB b' ≤ dpBs bs := dpBs_le.mp (Nat.le_refl _) b' hm'
        exact cbody_w he (okBs_all.mp hs.2.2 b' hm') (by omega) ⟨_, rfl, rfl⟩
/-! ### the names of a book -/
def erKv (er : List (Str × Nat)) : List (L2.Key × PyData) := er.map fun e => (.inr e.1, .int (e.2 : Nat))
theorem erKv_none {n : Str} : ∀ {er : List (Str × Nat)}, (∀ e ∈ er, e.1 ≠ n) → valD (erKv er) (.inr n) = none
  | [], _ => rfl
  | e :: er, h => (valD_neg (kne (h e (List.mem_cons_self ..)))).trans (erKv_none fun x hx => h x (List.mem_cons_of_mem _ hx))
theorem erKv_d : ∀ {er : List (Str × Nat)}, (er.map (·.1)).Nodup → erD er (erKv er)
  | [], _, e, h => by cases h
  | x :: er, hn, e, h => by
    rw [List.map_cons, List.nodup_cons] at hn
    rcases List.mem_cons.mp h with rfl | h
    · exact valD_pos rfl
    · refine (valD_neg (kne fun z => hn.1 ?_)).trans (erKv_d hn.2 e h)
      rw [z]; exact List.mem_map.mpr ⟨e, h, rfl⟩
theorem erKv_put {er : List (Str × Nat)} {n : Str} {k : Nat} (h : ∀ e ∈ er, e.1 ≠ n) : putD (erKv er) (.inr n) (.int (k : Nat)) = erKv (er ++ [(n, k)]) := by
  have ha : ((erKv er).any fun kv => decide (kv.1 = (Sum.inr n : L2.Key))) = false := by
    rw [List.any_eq_false]
    intro x hx
    obtain ⟨e, he, rfl⟩ := List.mem_map.mp hx
    simpa using fun z => h e he z
  unfold putD
  rw [ha, if_neg (by simp)]
  unfold erKv
  rw [List.map_append]; rfl
theorem okBk_names {room : Int} {bk : List Pct} (h : okBk room bk) : (bk.map (·.name)).Nodup := by
  rw [List.Nodup, List.pairwise_iff_getElem]
  intro i j hi hj hij e
  rw [List.length_map] at hi hj
  rw [List.getElem_map, List.getElem_map] at e
  have hP := h j _ (List.getElem?_eq_getElem hj)
  refine hP.fresh (bk[i].name, bk[i].ps.length) ?_ e
  unfold earl
  refine List.mem_map.mpr ⟨bk[i], ?_, rfl⟩
  rw [List.mem_take_iff_getElem]
  exact ⟨i, by omega, rfl⟩
theorem earl_nodup {room : Int} {bk : List Pct} (h : okBk room bk) (i : Nat) : ((earl (bk.take i)).map (·.1)).Nodup := by
  have e : (earl (bk.take i)).map (·.1) = (bk.map (·.name)).take i := by
    unfold earl; rw [List.map_map, List.map_take]; rfl
  rw [e]
  exact (okBk_names h).sublist (List.take_sublist ..)
def F_check_names : FSp := fun as κ R _ => ∃ (bk : List Pct) (room : Int), as = [.c 0] ∧ κ = [.ld (bk.map pctD)] ∧ okBk room bk ∧ bk.length ≤ 1000 ∧ R (.d .none) [.ld (bk.map pctD)]
abbrev N_check_names : List Str := ["book", "counts", "_", "name", "parties", "body"]
def a_check_names (K : PySem.W.Frag) : AS :=
  (aSeq (aSet 1 aDNew) (aFor (aIter (aVar 0)) (aGTup 4 (aGCons (aName 2) (aGCons (aName 3) (aGCons (aName 4) (aGCons (aName 5) aGNil))))) (aSeq (aIfS (aB (aDIn id (aVar 3) (aVar 1))) aNever aNext) (aSeq (aDrop (aCall F__check_no_party_twice (fun _ _ => False) (aCons (aVar 4) aNil))) (aSeq (aDrop (aCall (FF__check_body 10) (fun _ _ => False) (aCons (aVar 5) (aCons (aVar 4) (aCons (aVar 1) aNil))))) (aDPut (aVar 1) (aVar 3) (aCB aLen (aCons (aVar 4) aNil))))))))
theorem len_check_names : ∀ as κ R E', F_check_names as κ R E' → as.length = (["book"] : List Str).length := by
  rintro as κ R E' ⟨bk, room, rfl, _⟩; rfl
theorem rd_check_names : ∀ as κ R E', F_check_names as κ R E' → a_check_names K (endsA K κ.length R) (startA N_check_names as) κ := by
  rintro as κ R E' ⟨bk, room, rfl, rfl, hb, hl, h⟩
  refine for_c (k := 0) (xs := bk.map pctD) (fun i δ κ => ∃ x2 x3 x4 x5, δ = [some (.c 0), some (.c 1), x2, x3, x4, x5] ∧ κ = [.ld (bk.map pctD), .dK (erKv (earl (bk.take i)))]) ⟨none, none, none, none, rfl, rfl⟩ ?_ ?_ ?_
  · rintro i δ κ ⟨x2, x3, x4, x5, rfl, rfl⟩; rfl
  · rintro δ κ ⟨x2, x3, x4, x5, rfl, rfl⟩ _
    exact ⟨_, _, GhR.take 1 (Nat.le_refl _) (show 1 ≤ 2 by decide) rfl rfl, h⟩
  · rintro i d δ κ hd ⟨x2, x3, x4, x5, rfl, rfl⟩ _
    rw [List.getElem?_map] at hd
    obtain ⟨P, hP, rfl⟩ := Option.map_eq_some_iff.mp hd
    have ok := hb i P hP
    have hi := (List.getElem?_eq_some_iff.mp hP).1
    have hdp := ok.d
    refine ⟨rfl, _, .inr P.name, rfl, rfl, bsel_f (by rw [erKv_none ok.fresh]; rfl) (twice_w ok.pn (cbody_w1 (erKv_d (earl_nodup hb i)) ok.b (by omega) ⟨_, .inr P.name, _, rfl, rfl, rfl, ?_, ?_⟩))⟩
    · unfold erKv earl; rw [List.length_map, List.length_map, List.length_take]
      exact Nat.lt_of_le_of_lt (Nat.min_le_right ..) (Nat.lt_of_le_of_lt hl (by decide))
    · rw [List.length_map]
      have e : putD (erKv (earl (bk.take i))) (.inr P.name) (.int (P.ps.length : Nat)) = erKv (earl (bk.take (i + 1))) := by
        rw [erKv_put ok.fresh, List.take_add_one, hP]
        unfold earl; rw [List.map_append]; rfl
      refine ⟨_, _, _, _, rfl, ?_⟩
      show [Cell.ld (bk.map pctD), Cell.dK (putD (erKv (earl (bk.take i))) (.inr P.name) (.int (P.ps.length : Nat)))] = _
      rw [e]
theorem names_cw {c : Cell} {bk : List Pct} {room : Int} {R : AR} {E : AX → AK → Prop} (hb : okBk room bk) (hl : bk.length ≤ 1000) (h : R (.d .none) [c, .ld (bk.map pctD)]) : callW F_check_names E [.c 1] [c, .ld (bk.map pctD)] R :=
  callW_i ⟨[1], _, _, by decide, rfl, rfl, bk, room, rfl, rfl, hb, hl, Nat.le_refl _, rfl, rfl, h⟩
/-! ### a book is read -/
theorem tokW_ok {w : Str} (h : tokW w) : PyData.strOk w = true := by
  have all : ∀ c ∈ tl w, c < 1114112 := by
    rcases h with ⟨c, r, e, hc, hr, _⟩ | h | rfl
    · intro x hx
      rw [e] at hx
      have : run x := by
        rcases List.mem_cons.mp hx with rfl | hx
        · exact .inl hc
        · exact hr x hx
      unfold run low dig at this; omega
    · obtain ⟨c, rfl, h1, _, _, _, hm, _⟩ := marks_ok h
      have : ∀ c ∈ tl "(){},;:|", c < 1114112 := by decide +kernel
      intro x hx
      rw [tl_one, List.mem_singleton] at hx
      subst hx; exact this _ hm
    · decide +kernel
  unfold PyData.strOk
  rw [← Array.all_toList, List.all_eq_true]
  exact fun x hx => decide_eq_true (all x hx)
theorem rd_of {ts : List (Str × Nat)} {s : Str} (hw : ∀ p ∈ ts, tokW p.1) : Rd (tkL ts s) 0 (ts.map (·.1)) := fun i w h => by
  rw [List.getElem?_map] at h
  obtain ⟨p, hp, rfl⟩ := Option.map_eq_some_iff.mp h
  refine ⟨tokW_ok (hw p (List.mem_of_getElem? hp)), (p.2 : Nat), ?_⟩
  unfold tkL
  rw [Nat.zero_add]
  exact get_app (by rw [List.getElem?_map, hp]; rfl)
def F_read_book : FSp := fun as κ R _ => ∃ (s : Str) (ts : List (Str × Nat)) (bk : List Pct) (room : Int), as = [.d (.str s)] ∧ κ = [] ∧ s.length ≤ 6000000 ∧ Toks (tl s) 0 ts ∧ (∀ p ∈ ts, tokW p.1) ∧ ts.map (·.1) = wBk bk ∧ okBk room bk ∧ room ≤ 1000 ∧ 0 < bk.length ∧ bk.length ≤ 10 ∧
  ∀ c, clC c = true → liveC c = true → R (.c 1) [c, .ld (bk.map pctD)]
abbrev N_read_book : List Str := ["text", "reader", "book"]
def a_read_book (K : PySem.W.Frag) (C_Reader : Addr) : AS :=
  (aSeq (aSet 1 (aMake C_Reader (F_Reader___init__ C_Reader) (aCons (aVar 0) aNil))) (aSeq (aSet 2 (aLst (aCons (aMeth C_Reader "read_pact" (F_Reader_read_pact C_Reader) (aVar 1) aNil) aNil))) (aCut (aWhile (aNot (aTru (aMeth C_Reader "is_behind_all" (F_Reader_is_behind_all C_Reader) (aVar 1) aNil))) (aSeq (aIfS (aB (aOp aEq (aCB aLen (aCons (aVar 2) aNil)) (aC (.d w_MOST_PACTS)))) aNever aNext) (aDrop (aBM "list" aAppend (aVar 2) (aCons (aMeth C_Reader "read_pact" (F_Reader_read_pact C_Reader) (aVar 1) aNil) aNil))))) (aSeq (aDrop (aCall F_check_names (fun _ _ => False) (aCons (aVar 2) aNil))) (aRet (aVar 2))))))
theorem len_read_book : ∀ as κ R E', F_read_book as κ R E' → as.length = (["text"] : List Str).length := by
  rintro as κ R E' ⟨s, ts, bk, room, rfl, _⟩; rfl
theorem lkr : True := trivial
theorem erOk_of {room : Int} {bk : List Pct} (h : okBk room bk) (i : Nat) : erOk (earl (bk.take i)) := fun x hx => by
  unfold earl at hx
  obtain ⟨q, hq, rfl⟩ := List.mem_map.mp hx
  obtain ⟨j, hj⟩ := List.mem_iff_getElem?.mp (List.mem_of_mem_take hq)
  have := h j q hj
  exact ⟨this.n, this.pp⟩
theorem wP_pos (P : Pct) : 2 ≤ (wP P).length := by
  show 2 ≤ (wL P.ps ++ (wB P.body ++ [("end" : Str)])).length + 1 + 1; omega
theorem rd_read_book (C : Addr) : ∀ as κ R E', F_read_book as κ R E' → a_read_book K C (endsA K κ.length R) (startA N_read_book as) κ := by
  rintro as κ R E' ⟨s, ts, bk, room, rfl, rfl, hs, ht, hw, hbk, hb, hroom, h0, h10, h⟩
  have hr := rd_of (s := s) hw
  rw [hbk] at hr
  have hLlen : (tkL ts s).length = (wBk bk).length + 1 := by
    unfold tkL
    rw [List.length_append, List.length_map, ← hbk, List.length_map]; rfl
  refine init_w hs ht ⟨rfl, ?_⟩
  generalize tkL ts s = L at hr hLlen
  cases bk with
  | nil => exact absurd h0 (Nat.lt_irrefl _)
  | cons P bk =>
    have e0 : wBk (P :: bk) = wP P ++ wBk bk := by unfold wBk; rw [List.flatMap_cons]
    have hr0 : Rd L 0 (wP P ++ wBk bk) := by rw [← e0]; exact hr
    refine ⟨_, rfl, lk_read_pact, pact_r (hb 0 P rfl) hroom (erOk_of hb 0) hr0 ⟨(show 1 ≤ sizeLine by decide), ?_⟩⟩
    refine ⟨fun δ κ => ∃ p', δ = [some (.d (.str s)), some (.c 0), some (.c 1)] ∧ κ = [rdr C L p' 0, .ld ((P :: bk).map pctD)], ?_, ?_⟩
    · refine ⟨fun m δ κ => ∃ p' done todo, δ = [some (.d (.str s)), some (.c 0), some (.c 1)] ∧ κ = [rdr C L p' 0, .ld (done.map pctD)] ∧ P :: bk = done ++ todo ∧ Rd L p' (wBk todo) ∧ p' + (wBk todo).length = (wBk (P :: bk)).length ∧ m = todo.length,
        ⟨_, 0 + (wP P).length, [P], bk, rfl, rfl, rfl, hr0.right, ?_, rfl⟩, ?_⟩
      · rw [e0, List.length_append]; omega
      · rintro m δ κ ⟨p', done, todo, rfl, rfl, hq, hr2, hp', rfl⟩ _
        cases todo with
        | nil =>
          rw [List.append_nil] at hq
          have hp' : p' + 0 = (wBk (P :: bk)).length := hp'
          refine ⟨_, rfl, lk_is_behind_all, behind_w ?_⟩
          rw [decide_eq_true (show (p' : Int) = (L.length : Int) - 1 by omega)]
          exact ⟨p', rfl, by rw [hq]⟩
        | cons y todo =>
          have e1 : wBk (y :: todo) = wP y ++ wBk todo := by unfold wBk; rw [List.flatMap_cons]
          have hy := wP_pos y
          rw [e1, List.length_append] at hp'
          have hlen : (P :: bk).length = done.length + (todo.length + 1) := by rw [hq, List.length_append, List.length_cons]
          have hyk : (P :: bk)[done.length]? = some y := by rw [hq, List.getElem?_append_right (Nat.le_refl _), Nat.sub_self]; rfl
          refine ⟨_, rfl, lk_is_behind_all, behind_w ?_⟩
          rw [decide_eq_false (show ¬ (p' : Int) = (L.length : Int) - 1 by omega)]
          refine ⟨_, fun _ _ q => q, bsel_f (decide_eq_false ?_) ?_⟩
          · rw [List.length_map]; omega
          · refine ⟨rfl, _, rfl, lk_read_pact, pact_r (hb _ y hyk) hroom (erOk_of hb _) (e1 ▸ hr2) ⟨?_, todo.length, Nat.lt_succ_self _, p' + (wP y).length, done ++ [y], todo, rfl, ?_, by rw [hq]; simp, (show Rd L p' (wP y ++ wBk todo) from e1 ▸ hr2).right, by omega, rfl⟩⟩
            · rw [List.length_map]; exact Nat.lt_of_lt_of_le (show done.length < 100 by omega) (by decide)
            · rw [List.map_append]; rfl
    · rintro δ κ ⟨p', rfl, rfl⟩ _
      refine names_cw hb (by omega) ⟨_, _, GhR.refl (Nat.zero_le _), h _ rdr_cl rfl⟩
/-! ### the outcome -/
def F__law_outcome : FSp := fun as κ R _ => ∃ (s : Str) (ts : List (Str × Nat)) (bk : List Pct) (room : Int), as = [.d (.str s)] ∧ κ = [] ∧ s.length ≤ 6000000 ∧ Toks (tl s) 0 ts ∧ (∀ p ∈ ts, tokW p.1) ∧ ts.map (·.1) = wBk bk ∧ okBk room bk ∧ room ≤ 1000 ∧ 0 < bk.length ∧ bk.length ≤ 10 ∧
  ∀ c, clC c = true → liveC c = true → R (.c 2) [c, .ld (bk.map pctD), .tup [.d (.str "book"), .c 1]]
abbrev N__law_outcome : List Str := ["text", "book", "e", "kind"]
def a__law_outcome (K : PySem.W.Frag) : AS :=
  (aSeq (aSet 1 (aCall F_read_book (fun _ _ => False) (aCons (aVar 0) aNil))) (aRet (aTup (aCons (aC (.d (.str "book"))) (aCons (aVar 1) aNil)))))
theorem len__law_outcome : ∀ as κ R E', F__law_outcome as κ R E' → as.length = (["text"] : List Str).length := by
  rintro as κ R E' ⟨s, ts, bk, room, rfl, _⟩; rfl
theorem book_rw {s : Str} {ts : List (Str × Nat)} {bk : List Pct} {room : Int} {R : AR} {E : AX → AK → Prop} (hs : s.length ≤ 6000000) (ht : Toks (tl s) 0 ts) (hw : ∀ p ∈ ts, tokW p.1) (hbk : ts.map (·.1) = wBk bk) (hb : okBk room bk) (hr : room ≤ 1000) (h0 : 0 < bk.length) (h10 : bk.length ≤ 10)
    (h : ∀ c, clC c = true → liveC c = true → R (.c 1) [c, .ld (bk.map pctD)]) : callW F_read_book E [.d (.str s)] [] R :=
  callW_i ⟨[], _, _, .nil, rfl, rfl, s, ts, bk, room, rfl, rfl, hs, ht, hw, hbk, hb, hr, h0, h10, fun c h1 h2 => ⟨Nat.zero_le _, by rw [List.all_cons, h1]; rfl, by show ([c, _] : AK).all liveC = true; rw [List.all_cons, h2]; rfl, h c h1 h2⟩⟩
theorem rd__law_outcome : ∀ as κ R E', F__law_outcome as κ R E' → a__law_outcome K (endsA K κ.length R) (startA N__law_outcome as) κ := by
  rintro as κ R E' ⟨s, ts, bk, room, rfl, rfl, hs, ht, hw, hbk, hb, hr, h0, h10, h⟩
  exact book_rw hs ht hw hbk hb hr h0 h10 fun c h1 h2 => ⟨(show 2 ≤ sizeLine by decide), _, _, GhR.refl (Nat.zero_le _), h c h1 h2⟩
/-! ### the words of a book -/
def F__law_book_said : FSp := fun as κ R _ => ∃ (bk : List Pct) (room : Int), as = [.d (.list (bk.map pctD))] ∧ κ = [] ∧ okBk room bk ∧ room ≤ 100 ∧ bk.length ≤ 10 ∧ R (.d (.list ((wBk bk).map .str))) []
abbrev N__law_book_said : List Str := ["book", "words", "kind", "name", "parties", "body"]
def a__law_book_said (K : PySem.W.Frag) : AS :=
  (aSeq (aSet 1 (aLstD aNil)) (aSeq (aFor (aIter (aVar 0)) (aGTup 4 (aGCons (aName 2) (aGCons (aName 3) (aGCons (aName 4) (aGCons (aName 5) aGNil))))) (aSet 1 (aOp (aCat false) (aOp (aCat false) (aOp (aCat false) (aOp (aCat false) (aVar 1) (aLstD (aCons (aC (.d (.str "pact"))) (aCons (aVar 3) aNil)))) (aCall F__law_listed (fun _ _ => False) (aCons (aVar 4) aNil))) (aCall (FF__law_body_said 20) (fun _ _ => False) (aCons (aVar 5) aNil))) (aLstD (aCons (aC (.d (.str "end"))) aNil))))) (aRet (aVar 1))))
theorem len__law_book_said : ∀ as κ R E', F__law_book_said as κ R E' → as.length = (["book"] : List Str).length := by
  rintro as κ R E' ⟨bk, room, rfl, _⟩; rfl
theorem wP_len {room : Int} {er : List (Str × Nat)} {P : Pct} (h : okP room er P) (hr : room ≤ 100) : (wP P).length ≤ 2500 ∧ (wB P.body).length ≤ 2400 ∧ (wL P.ps).length ≤ 14 := by
  have h1 := (pB_len h.pl P.body h.b).1
  have h2 := h.z
  have h3 := wL_len P.ps
  have h4 := h.pl
  have h5 : (wL P.ps).length ≤ 14 := by split at h3 <;> omega
  have h6 : (wB P.body).length ≤ 2400 := by
    show (sj ";" (pB P.body)).length ≤ 2400
    omega
  refine ⟨?_, h6, h5⟩
  show (wL P.ps ++ (wB P.body ++ [("end" : Str)])).length + 1 + 1 ≤ 2500
  rw [List.length_append, List.length_append]; simp only [List.length_cons, List.length_nil]; omega
theorem wBk_len {room : Int} {bk : List Pct} (h : okBk room bk) (hr : room ≤ 100) : ∀ i, (wBk (bk.take i)).length ≤ 2500 * (bk.take i).length := fun i => by
  have : ∀ l : List Pct, (∀ P ∈ l, (wP P).length ≤ 2500) → (wBk l).length ≤ 2500 * l.length := by
    intro l
    induction l with
    | nil => intro _; exact Nat.le_refl _
    | cons P l ih =>
      intro hl
      have h1 := hl P (List.mem_cons_self ..)
      have h2 := ih fun Q hQ => hl Q (List.mem_cons_of_mem _ hQ)
      unfold wBk at h2 ⊢
      rw [List.flatMap_cons, List.length_append, List.length_cons]; omega
  refine this _ fun P hP => ?_
  obtain ⟨j, hj⟩ := List.mem_iff_getElem?.mp (List.mem_of_mem_take hP)
  exact (wP_len (h j P hj) hr).1
theorem rd__law_book_said : ∀ as κ R E', F__law_book_said as κ R E' → a__law_book_said K (endsA K κ.length R) (startA N__law_book_said as) κ := by
  rintro as κ R E' ⟨bk, room, rfl, rfl, hb, hr, hl, h⟩
  refine ⟨Nat.zero_le _, ?_⟩
  refine for_d (fun i δ κ => ∃ (ws : List Str) (x2 x3 x4 x5 : Option AV), δ = [some (.d (.list (bk.map pctD))), some (.d (.list (ws.map .str))), x2, x3, x4, x5] ∧ κ = [] ∧ ws = wBk (bk.take i)) ⟨[], none, none, none, none, rfl, rfl, rfl⟩ ?_ ?_
  · rintro δ κ ⟨ws, x2, x3, x4, x5, rfl, rfl, hw⟩ _
    rw [List.length_map, List.take_of_length_le (Nat.le_refl _)] at hw
    subst hw
    exact ⟨_, _, GhR.refl (Nat.zero_le _), h⟩
  · rintro i d δ κ hd ⟨ws, x2, x3, x4, x5, rfl, rfl, hw⟩ _
    rw [List.getElem?_map] at hd
    obtain ⟨P, hP, rfl⟩ := Option.map_eq_some_iff.mp hd
    have ok := hb i P hP
    have hi := (List.getElem?_eq_some_iff.mp hP).1
    obtain ⟨_, l2, l3⟩ := wP_len ok hr
    have l4 := wBk_len hb hr i
    rw [List.length_take] at l4
    have l5 : ws.length ≤ 25000 := by rw [hw]; omega
    have hdp := ok.d
    have hql := ok.pl
    refine ⟨rfl, (show 2 ≤ sizeLine by decide), _, _, rfl, rfl, ?_, listed_w (by omega) ⟨_, _, rfl, rfl, ?_, bsaid_w (by omega) (by omega) ⟨_, _, rfl, rfl, ?_, (show 1 ≤ sizeLine by decide), _, _, rfl, rfl, ?_, ?_⟩⟩⟩
    · rw [List.length_map]; exact sl100 (by show ws.length + 2 ≤ _; omega)
    · rw [List.length_append, List.length_map, List.length_map]; exact sl100 (by show ws.length + 2 + (wL P.ps).length ≤ _; omega)
    · rw [List.length_append, List.length_append, List.length_map, List.length_map, List.length_map]; exact sl100 (by show ws.length + 2 + (wL P.ps).length + (wB P.body).length ≤ _; omega)
    · rw [List.length_append, List.length_append, List.length_append, List.length_map, List.length_map, List.length_map]; exact sl100 (by show ws.length + 2 + (wL P.ps).length + (wB P.body).length + 1 ≤ _; omega)
    · refine ⟨ws ++ wP P, some (.d (.str "pact")), some (.d (.str P.name)), some (.d (.tuple (P.ps.map .str))), some (.d (.tuple (dB P.body))), ?_, rfl, ?_⟩
      · have e : ((ws.map PyData.str ++ [.str "pact", .str P.name]) ++ (wL P.ps).map PyData.str ++ (wB P.body).map PyData.str) ++ [.str "end"] = (ws ++ wP P).map PyData.str := by
          unfold wP; simp
        show [_, some (AV.d (.list (((ws.map PyData.str ++ [.str "pact", .str P.name]) ++ (wL P.ps).map PyData.str ++ (wB P.body).map PyData.str) ++ [.str "end"]))), _, _, _, _] = _
        rw [e]
      · rw [hw, List.take_add_one, hP]
        unfold wBk
        rw [List.flatMap_append]; simp
theorem bksaid_w {bk : List Pct} {room : Int} {κ : AK} {R : AR} {E : AX → AK → Prop} (hb : okBk room bk) (hr : room ≤ 100) (hl : bk.length ≤ 10) (h : R (.d (.list ((wBk bk).map .str))) κ) : callW F__law_book_said E [.d (.list (bk.map pctD))] κ R :=
  callW_i ⟨[], _, _, .nil, rfl, rfl, bk, room, rfl, rfl, hb, hr, hl, Nat.zero_le _, rfl, rfl, h⟩
/-! ### the words are tokens -/
theorem mem_sk {s w : Str} : ∀ {xs : List (List Str)}, w ∈ sk s xs → w = s ∨ ∃ x ∈ xs, w ∈ x
  | x :: xs, h => by
    have h : w ∈ s :: (x ++ sk s xs) := h
    rcases List.mem_cons.mp h with h | h
    · exact .inl h
    · rcases List.mem_append.mp h with h | h
      · exact .inr ⟨x, List.mem_cons_self .., h⟩
      · rcases mem_sk h with h | ⟨y, hy, h⟩
        · exact .inl h
        · exact .inr ⟨y, List.mem_cons_of_mem _ hy, h⟩
theorem mem_sj {s w : Str} {xs : List (List Str)} (h : w ∈ sj s xs) : w = s ∨ ∃ x ∈ xs, w ∈ x := by
  cases xs with
  | nil => cases h
  | cons x xs =>
    have h : w ∈ x ++ sk s xs := h
    rcases List.mem_append.mp h with h | h
    · exact .inr ⟨x, List.mem_cons_self .., h⟩
    · rcases mem_sk h with h | ⟨y, hy, h⟩
      · exact .inl h
      · exact .inr ⟨y, List.mem_cons_of_mem _ hy, h⟩
theorem tok_m {w : Str} (h : w ∈ marksS) : tokW w := .inr (.inl h)
theorem tok_w {w : Str} (h : w ∈ wordsL) : tokW w := .inl (words_low w h)
theorem wL_tok {qs : List Str} (h : ∀ q ∈ qs, isName q) : ∀ w ∈ wL qs, tokW w := fun w hw => by
  rcases List.mem_cons.mp hw with rfl | hw
  · exact tok_m m_par
  rcases List.mem_append.mp hw with hw | hw
  · rcases mem_sj hw with rfl | ⟨x, hx, hw⟩
    · exact tok_m m_comma
    · obtain ⟨q, hq, rfl⟩ := List.mem_map.mp hx
      rw [List.mem_singleton.mp hw]; exact name_tok (h q hq)
  · rw [List.mem_singleton.mp hw]; exact tok_m m_rap
mutual
theorem pS_tok {ps : List Str} {er : List (Str × Nat)} (ok : okN ps er) : ∀ t : Tr, okS ps er t → ∀ w ∈ pS t, tokW w
  | .letter a b c, h, w, hw => by
    have hw : w ∈ [a, "->", b, ":", c] := hw
    simp only [List.mem_cons, List.mem_nil_iff, or_false] at hw
    rcases hw with rfl | rfl | rfl | rfl | rfl
    · exact name_tok (ok.p _ h.1)
    · exact .inr (.inr rfl)
    · exact name_tok (ok.p _ h.2.1)
    · exact tok_m m_colon
    · exact name_tok h.2.2.2
  | .use n qs, h, w, hw => by
    obtain ⟨o1, _, _, o4⟩ := okS_use ok h
    have hw : w ∈ ("use" : Str) :: n :: wL qs := hw
    rcases List.mem_cons.mp hw with rfl | hw
    · exact tok_w (by decide +kernel)
    rcases List.mem_cons.mp hw with rfl | hw
    · exact name_tok o1
    · exact wL_tok o4 w hw
  | .loop b, h, w, hw => by
    have hw : w ∈ ("loop" : Str) :: ("{" : Str) :: (wB b ++ [("}" : Str)]) := hw
    rcases List.mem_cons.mp hw with rfl | hw
    · exact tok_w (by decide +kernel)
    rcases List.mem_cons.mp hw with rfl | hw
    · exact tok_m m_open
    rcases List.mem_append.mp hw with hw | hw
    · rcases mem_sj hw with rfl | ⟨x, hx, hw⟩
      · exact tok_m m_semi
      · exact pB_tok ok b h x hx w hw
    · rw [List.mem_singleton.mp hw]; exact tok_m m_close
  | .br v bs, h, w, hw => by
    have hw : w ∈ brW v :: ("{" : Str) :: (sj "|" (pBs bs) ++ [("}" : Str)]) := hw
    rcases List.mem_cons.mp hw with rfl | hw
    · exact tok_w (by cases v <;> decide +kernel)
    rcases List.mem_cons.mp hw with rfl | hw
    · exact tok_m m_open
    rcases List.mem_append.mp hw with hw | hw
    · rcases mem_sj hw with rfl | ⟨x, hx, hw⟩
      · exact tok_m m_bar
      · exact pBs_tok ok bs h.2.2 x hx w hw
    · rw [List.mem_singleton.mp hw]; exact tok_m m_close
theorem pB_tok {ps : List Str} {er : List (Str × Nat)} (ok : okN ps er) : ∀ b : List Tr, okB ps er b → ∀ x ∈ pB b, ∀ w ∈ x, tokW w
  | [], _, x, hx, _, _ => by cases hx
  | s :: b, h, x, hx, w, hw => by
    rcases List.mem_cons.mp (show x ∈ pS s :: pB b from hx) with rfl | hx
    · exact pS_tok ok s h.1 w hw
    · exact pB_tok ok b h.2 x hx w hw
theorem pBs_tok {ps : List Str} {er : List (Str × Nat)} (ok : okN ps er) : ∀ bs : List (List Tr), okBs ps er bs → ∀ x ∈ pBs bs, ∀ w ∈ x, tokW w
  | [], _, x, hx, _, _ => by cases hx
  | b :: bs, h, x, hx, w, hw => by
    rcases List.mem_cons.mp (show x ∈ wB b :: pBs bs from hx) with rfl | hx
    · rcases mem_sj hw with rfl | ⟨y, hy, hw⟩
      · exact tok_m m_semi
      · exact pB_tok ok b h.1 y hy w hw
    · exact pBs_tok ok bs h.2 x hx w hw
end
theorem wP_tok {room : Int} {er : List (Str × Nat)} {P : Pct} (h : okP room er P) (he : erOk er) : ∀ w ∈ wP P, tokW w := fun w hw => by
  have ok : okN P.ps er := ⟨h.pa, h.pl, he⟩
  rcases List.mem_cons.mp hw with rfl | hw
  · exact tok_w w_pact
  rcases List.mem_cons.mp hw with rfl | hw
  · exact name_tok h.n
  rcases List.mem_append.mp hw with hw | hw
  · exact wL_tok h.pa w hw
  rcases List.mem_append.mp hw with hw | hw
  · rcases mem_sj hw with rfl | ⟨y, hy, hw⟩
    · exact tok_m m_semi
    · exact pB_tok ok P.body h.b y hy w hw
  · rw [List.mem_singleton.mp hw]; exact tok_w w_end
theorem wBk_tok {room : Int} {bk : List Pct} (h : okBk room bk) : ∀ w ∈ wBk bk, tokW w := fun w hw => by
  obtain ⟨P, hP, hw⟩ := List.mem_flatMap.mp hw
  obtain ⟨j, hj⟩ := List.mem_iff_getElem?.mp hP
  exact wP_tok (h j P hj) (erOk_of h j) w hw
theorem plcN_fst : ∀ (n : Nat) (ps : List Piece), (plcN n ps).map (·.1) = ps.map (·.2)
  | _, [] => rfl
  | n, p :: ps => congrArg (p.2 :: ·) (plcN_fst _ ps)
theorem toks_of2 {ws : List Str} {text : Str} {places : List Int} (h : Spread ws text places) (hw : ∀ w ∈ ws, tokW w) : ∃ ts, Toks (tl text) 0 ts ∧ ts.map (·.1) = ws := by
  obtain ⟨b0, bl, ps, rfl, hb0, hbl, hb, hsep, ht, rfl⟩ := h.ex
  refine ⟨plcN b0.length ps, ?_, plcN_fst _ _⟩
  rw [ht, List.append_assoc]
  refine toks_blanks hb0.1 ?_
  rw [Nat.zero_add, ← tl_len]
  exact spread_toks bl hbl ps _ (fun p hp => ⟨hb p hp, hw _ (List.mem_map.mpr ⟨p, hp, rfl⟩)⟩) hsep
/-! ### the depth of a book as data -/
mutual
theorem sdS {ps : List Str} {er : List (Str × Nat)} (hp : ps.length ≤ 6) : ∀ (t : Tr) (n : Nat), okS ps er t → szS t ≤ 1000 → 3 * dpS t + 3 ≤ n → sdep n (dS t)
  | .letter a b c, n, _, _, h => by
    obtain ⟨m, rfl⟩ : ∃ m, n = m + 3 := ⟨n - 3, by omega⟩
    refine ⟨(show 4 < 2 ^ 62 by decide), fun d hd => ?_⟩
    simp only [List.mem_cons, List.mem_nil_iff, or_false] at hd
    rcases hd with rfl | rfl | rfl | rfl <;> trivial
  | .use nn qs, n, h, _, hn => by
    obtain ⟨m, rfl⟩ : ∃ m, n = m + 3 := ⟨n - 3, by omega⟩
    have hq : qs.length ≤ ps.length := List.Nodup.length_le_of_subset h.2.1 fun x hx => h.2.2 x hx
    refine ⟨(show 3 < 2 ^ 62 by decide), fun d hd => ?_⟩
    simp only [List.mem_cons, List.mem_nil_iff, or_false] at hd
    rcases hd with rfl | rfl | rfl
    · trivial
    · trivial
    · refine ⟨by rw [List.length_map]; omega, fun d hd => ?_⟩
      obtain ⟨q, _, rfl⟩ := List.mem_map.mp hd; trivial
  | .loop b, n, h, hz, hn => by
    have hn : 3 * (dpB b + 1) + 3 ≤ n := hn
    have hz : szB b + 1 ≤ 1000 := hz
    obtain ⟨m, rfl⟩ : ∃ m, n = m + 2 := ⟨n - 2, by omega⟩
    have hc := szB_cnt b
    refine ⟨(show 2 < 2 ^ 62 by decide), fun d hd => ?_⟩
    simp only [List.mem_cons, List.mem_nil_iff, or_false] at hd
    rcases hd with rfl | rfl
    · trivial
    · exact ⟨by rw [dB_len]; omega, sdB hp b m h (by omega) (by omega)⟩
  | .br v bs, n, h, hz, hn => by
    have hn : 3 * (dpBs bs + 1) + 3 ≤ n := hn
    have hz : szBs bs + 1 ≤ 1000 := hz
    obtain ⟨m, rfl⟩ : ∃ m, n = m + 3 := ⟨n - 3, by omega⟩
    have h3 := h.2.1
    refine ⟨(show 2 < 2 ^ 62 by decide), fun d hd => ?_⟩
    simp only [List.mem_cons, List.mem_nil_iff, or_false] at hd
    rcases hd with rfl | rfl
    · trivial
    · exact ⟨by rw [dBs_len]; omega, sdBs hp bs m h.2.2 (by omega) (by omega)⟩
theorem sdB {ps : List Str} {er : List (Str × Nat)} (hp : ps.length ≤ 6) : ∀ (b : List Tr) (n : Nat), okB ps er b → szB b ≤ 1000 → 3 * dpB b + 3 ≤ n → ∀ d ∈ dB b, sdep n d
  | [], _, _, _, _, d, hd => by cases hd
  | s :: b, n, h, hz, hn, d, hd => by
    have hz : szS s + szB b ≤ 1000 := hz
    have hn : 3 * max (dpS s) (dpB b) + 3 ≤ n := hn
    rcases List.mem_cons.mp (show d ∈ dS s :: dB b from hd) with rfl | hd
    · exact sdS hp s n h.1 (by omega) (by omega)
    · exact sdB hp b n h.2 (by omega) (by omega) d hd
theorem sdBs {ps : List Str} {er : List (Str × Nat)} (hp : ps.length ≤ 6) : ∀ (bs : List (List Tr)) (n : Nat), okBs ps er bs → szBs bs ≤ 1000 → 3 * dpBs bs + 3 ≤ n → ∀ d ∈ dBs bs, sdep (n + 1) d
  | [], _, _, _, _, d, hd => by cases hd
  | s :: b, n, h, hz, hn, d, hd => by
    have hz : szB s + szBs b ≤ 1000 := hz
    have hn : 3 * max (dpB s) (dpBs b) + 3 ≤ n := hn
    have hc := szB_cnt s
    rcases List.mem_cons.mp (show d ∈ .tuple (dB s) :: dBs b from hd) with rfl | hd
    · exact ⟨by rw [dB_len]; omega, sdB hp s n h.1 (by omega) (by omega)⟩
    · exact sdBs hp b n h.2 (by omega) (by omega) d hd
end
theorem sd_book {room : Int} {bk : List Pct} (h : okBk room bk) (hr : room ≤ 1000) (hl : bk.length ≤ 1000) : sdep 39 (.list (bk.map pctD)) := by
  refine ⟨by rw [List.length_map]; omega, fun d hd => ?_⟩
  obtain ⟨P, hP, rfl⟩ := List.mem_map.mp hd
  obtain ⟨j, hj⟩ := List.mem_iff_getElem?.mp hP
  have ok := h j P hj
  have hz := ok.z
  have hdp := ok.d
  have hpl := ok.pl
  have hc := szB_cnt P.body
  refine ⟨(show 4 < 2 ^ 62 by decide), fun d hd => ?_⟩
  simp only [List.mem_cons, List.mem_nil_iff, or_false] at hd
  rcases hd with rfl | rfl | rfl | rfl
  · trivial
  · trivial
  · refine ⟨by rw [List.length_map]; omega, fun d hd => ?_⟩
    obtain ⟨q, _, rfl⟩ := List.mem_map.mp hd; trivial
  · exact ⟨by rw [dB_len]; omega, sdB hpl P.body 36 ok.b (by omega) (by omega)⟩
/-! ### calls whose cells refer to one another -/
theorem backA_cl {js : List Nat} {n : Nat} {a : AV} (h : okA 0 a = true) : backA js n a = a := by
  cases a with
  | d x => rfl
  | r x => rfl
  | c j => exact absurd (of_decide_eq_true (p := j < 0) h) (Nat.not_lt_zero _)
theorem backL_cl {js : List Nat} {n : Nat} : ∀ {xs : List AV}, xs.all (okA 0) = true → xs.map (backA js n) = xs
  | [], _ => rfl
  | a :: xs, h => by
    rw [List.all_cons, Bool.and_eq_true] at h
    rw [List.map_cons, backA_cl h.1, backL_cl h.2]
theorem backF_cl {js : List Nat} {n : Nat} : ∀ {xs : List (Str × AV)}, (xs.all fun p => okA 0 p.2) = true → (xs.map fun p => (p.1, backA js n p.2)) = xs
  | [], _ => rfl
  | a :: xs, h => by
    rw [List.all_cons, Bool.and_eq_true] at h
    rw [List.map_cons, backA_cl h.1, backF_cl h.2]
theorem backC_cl {js : List Nat} {n : Nat} {c : Cell} (h : clC c = true) : backC js n c = c := by
  cases c with
  | dead => rfl
  | ld x => rfl
  | dK x => rfl
  | dT x => rfl
  | lst xs => show Cell.lst _ = _; rw [backL_cl h]
  | tup xs => show Cell.tup _ = _; rw [backL_cl h]
  | ins C fs => show Cell.ins C _ = _; rw [backF_cl h]
section
variable {s : Str} {ts : List (Str × Nat)} {bk : List Pct} {room : Int} {R : AR} {E : AX → AK → Prop}
theorem outcome_x1 {k : Cell} (hs : s.length ≤ 6000000) (ht : Toks (tl s) 0 ts) (hw : ∀ p ∈ ts, tokW p.1) (hbk : ts.map (·.1) = wBk bk) (hb : okBk room bk) (hr : room ≤ 1000) (h0 : 0 < bk.length) (h10 : bk.length ≤ 10)
    (h : ∀ c, clC c = true → R (.c 3) [k, c, .ld (bk.map pctD), .tup [.d (.str "book"), .c 2]]) : callX F__law_outcome E [.d (.str s)] [k] R :=
  callX_i ⟨[], _, _, .nil, rfl, rfl, s, ts, bk, room, rfl, rfl, hs, ht, hw, hbk, hb, hr, h0, h10, fun c h1 h2 => ⟨Nat.zero_le _, by show ([c, _, _] : AK).all liveC = true; rw [List.all_cons, h2]; rfl, by
    have := h c h1
    rw [← backC_cl (js := []) (n := 1) h1] at this
    exact this⟩⟩
theorem outcome_x2 {k k1 k2 k3 : Cell} (hs : s.length ≤ 6000000) (ht : Toks (tl s) 0 ts) (hw : ∀ p ∈ ts, tokW p.1) (hbk : ts.map (·.1) = wBk bk) (hb : okBk room bk) (hr : room ≤ 1000) (h0 : 0 < bk.length) (h10 : bk.length ≤ 10)
    (h : ∀ c, clC c = true → R (.c 6) [k, k1, k2, k3, c, .ld (bk.map pctD), .tup [.d (.str "book"), .c 5]]) : callX F__law_outcome E [.d (.str s)] [k, k1, k2, k3] R :=
  callX_i ⟨[], _, _, .nil, rfl, rfl, s, ts, bk, room, rfl, rfl, hs, ht, hw, hbk, hb, hr, h0, h10, fun c h1 h2 => ⟨Nat.zero_le _, by show ([c, _, _] : AK).all liveC = true; rw [List.all_cons, h2]; rfl, by
    have := h c h1
    rw [← backC_cl (js := []) (n := 4) h1] at this
    exact this⟩⟩
theorem same_x1 {n : Nat} {k c : Cell} {x : PyData} {ds : List PyData} (hd : sdep n (.tuple [x, .list ds])) (h : R (.d (.bool true)) [k, c, .ld ds, .tup [.d x, .c 2]]) : callX (F_same n) E [.c 3, .d (.tuple [x, .list ds])] [k, c, .ld ds, .tup [.d x, .c 2]] R :=
  callX_i ⟨[3, 2], _, _, by decide, rfl, rfl, _, hd, ⟨Nat.le_refl _, rfl, h⟩, .inr (.inr ⟨x, ds, rfl, rfl, rfl⟩)⟩
theorem same_x2 {n : Nat} {k c k2 k3 d : Cell} {x : PyData} {ds : List PyData} (hd : sdep n (.tuple [x, .list ds])) (h : R (.d (.bool true)) [k, c, k2, k3, d, .ld ds, .tup [.d x, .c 5]]) : callX (F_same n) E [.c 6, .d (.tuple [x, .list ds])] [k, c, k2, k3, d, .ld ds, .tup [.d x, .c 5]] R :=
  callX_i ⟨[6, 5], _, _, by decide, rfl, rfl, _, hd, ⟨Nat.le_refl _, rfl, h⟩, .inr (.inr ⟨x, ds, rfl, rfl, rfl⟩)⟩
end
end Com
set_option Elab.async false
set_option linter.all false
set_option maxRecDepth 100000
set_option maxHeartbeats 4000000
/-! Rea5: the printed forms of trees -/
namespace Com
open PySem L2 Ab
variable {K : PySem.W.Frag}
def xC (n : Str) (qs : List Str) : Str := n ++ "(" ++ Txt.join ", " qs ++ ")"
mutual
def xS : Tr → Str
  | .letter a b c => a ++ " -> " ++ b ++ ": " ++ c
  | .use n qs => "use " ++ xC n qs
  | .loop b => "loop" ++ " {" ++ Txt.join "; " (xL b) ++ "}"
  | .br v bs => brW v ++ " {" ++ Txt.join " | " (xBs bs) ++ "}"
def xL : List Tr → List Str
  | [] => []
  | s :: b => xS s :: xL b
def xBs : List (List Tr) → List Str
  | [] => []
  | b :: bs => Txt.join "; " (xL b) :: xBs bs
end
abbrev xB (b : List Tr) : Str := Txt.join "; " (xL b)
def xPw (P : Pct) : List Str := match P.body with
  | [] => ["pact", xC P.name P.ps, "end"]
  | _ :: _ => ["pact", xC P.name P.ps, xB P.body, "end"]
def xP (P : Pct) : Str := Txt.join " " (xPw P)
def xBk (bk : List Pct) : Str := Txt.join "\n" (bk.map xP)
theorem xL_map (b : List Tr) : xL b = b.map xS := by
  induction b with
  | nil => rfl
  | cons s b ih => show xS s :: xL b = _; rw [ih]; rfl
theorem xBs_map (bs : List (List Tr)) : xBs bs = bs.map xB := by
  induction bs with
  | nil => rfl
  | cons s b ih => show xB s :: xBs b = _; rw [ih]; rfl
theorem name_len {z : Str} (h : isName z) : z.length ≤ 12 := nm_of h
theorem parts_len {qs : List Str} (h : ∀ p ∈ qs, p.length ≤ 12) (h6 : qs.length ≤ 6) : (Txt.join ", " qs).length ≤ 84 := by
  have h1 := tjoin_len ", " qs
  have h2 : (qs.map fun y => y.length + (", " : Str).length).sum ≤ (qs.map fun _ => 14).sum := sum_le fun p hp => by have := h p hp; rw [l3]; omega
  rw [sum_const] at h2
  omega
theorem parts_sum {qs : List Str} (h : ∀ p ∈ qs, p.length ≤ 12) (h6 : qs.length ≤ 6) : (qs.map (·.length)).sum ≤ 72 := by
  have h2 : (qs.map (·.length)).sum ≤ (qs.map fun _ => 12).sum := sum_le fun p hp => h p hp
  rw [sum_const] at h2
  omega
theorem xC_len {n : Str} {qs : List Str} (hn : n.length ≤ 12) (h : ∀ p ∈ qs, p.length ≤ 12) (h6 : qs.length ≤ 6) : (xC n qs).length ≤ 98 := by
  have := parts_len h h6
  unfold xC
  (first | omega | (simp only [slen_app, l0, l1, l2, l3, l4, l5, l6, l7, l8, l9, l10, l11, l12, l13, l14, l15, l16, l17, l18, l19, l20, l21] at * <;> omega))
mutual
theorem xS_len {ps : List Str} {er : List (Str × Nat)} (ok : okN ps er) : ∀ t : Tr, okS ps er t → (xS t).length + 2 ≤ 200 * szS t
  | .letter a b c, h => by
    have h1 := name_len (ok.p a h.1)
    have h2 := name_len (ok.p b h.2.1)
    have h3 := name_len h.2.2.2
    show (a ++ " -> " ++ b ++ ": " ++ c).length + 2 ≤ 200 * 1
    (first | omega | (simp only [slen_app, l0, l1, l2, l3, l4, l5, l6, l7, l8, l9, l10, l11, l12, l13, l14, l15, l16, l17, l18, l19, l20, l21] at * <;> omega))
  | .use n qs, h => by
    obtain ⟨o1, _, o3, o4⟩ := okS_use ok h
    have h1 := name_len o1
    have h2 := xC_len h1 (fun q hq => name_len (o4 q hq)) o3
    show ("use " ++ xC n qs).length + 2 ≤ 200 * 1
    (first | omega | (simp only [slen_app, l0, l1, l2, l3, l4, l5, l6, l7, l8, l9, l10, l11, l12, l13, l14, l15, l16, l17, l18, l19, l20, l21] at * <;> omega))
  | .loop b, h => by
    have h1 := xL_len ok b h
    have h2 := tjoin_len "; " (xL b)
    rw [l10] at h2
    show ("loop" ++ " {" ++ Txt.join "; " (xL b) ++ "}").length + 2 ≤ 200 * (szB b + 1)
    (first | omega | (simp only [slen_app, l0, l1, l2, l3, l4, l5, l6, l7, l8, l9, l10, l11, l12, l13, l14, l15, l16, l17, l18, l19, l20, l21] at * <;> omega))
  | .br v bs, h => by
    have h1 := xBs_len ok bs h.2.2
    have h2 := tjoin_len " | " (xBs bs)
    rw [l6, sum_addc 3 (fun y : Str => y.length)] at h2
    have h3 := h.2.1
    have h4 : (xBs bs).length = bs.length := by rw [xBs_map, List.length_map]
    have h5 : (brW v).length ≤ 6 := by cases v <;> decide +kernel
    show (brW v ++ " {" ++ Txt.join " | " (xBs bs) ++ "}").length + 2 ≤ 200 * (szBs bs + 1)
    (first | omega | (simp only [slen_app, l0, l1, l2, l3, l4, l5, l6, l7, l8, l9, l10, l11, l12, l13, l14, l15, l16, l17, l18, l19, l20, l21] at * <;> omega))
theorem xL_len {ps : List Str} {er : List (Str × Nat)} (ok : okN ps er) : ∀ b : List Tr, okB ps er b → ((xL b).map fun y => y.length + 2).sum ≤ 200 * szB b
  | [], _ => Nat.zero_le _
  | s :: b, h => by
    have h1 := xS_len ok s h.1
    have h2 := xL_len ok b h.2
    show (xS s).length + 2 + ((xL b).map fun y => y.length + 2).sum ≤ 200 * (szS s + szB b); omega
theorem xBs_len {ps : List Str} {er : List (Str × Nat)} (ok : okN ps er) : ∀ bs : List (List Tr), okBs ps er bs → ((xBs bs).map (·.length)).sum ≤ 200 * szBs bs
  | [], _ => Nat.zero_le _
  | b :: bs, h => by
    have h1 := xL_len ok b h.1
    have h2 := xBs_len ok bs h.2
    have h3 := tjoin_len "; " (xL b)
    rw [l10] at h3
    show (Txt.join "; " (xL b)).length + ((xBs bs).map (·.length)).sum ≤ 200 * (szB b + szBs bs); omega
end
theorem xB_len {ps : List Str} {er : List (Str × Nat)} (ok : okN ps er) {b : List Tr} (h : okB ps er b) : (xB b).length ≤ 200 * szB b := by
  have h1 := xL_len ok b h
  have h3 := tjoin_len "; " (xL b)
  rw [l10] at h3
  exact Nat.le_trans h3 h1
/-! ### calls, braces -/
def F__print_call : FSp := fun as κ R _ => ∃ (n : Str) (qs : List Str), as = [.d (.str n), .d (.tuple (qs.map .str))] ∧ κ = [] ∧ n.length ≤ 12 ∧ (∀ q ∈ qs, q.length ≤ 12) ∧ qs.length ≤ 6 ∧ R (.d (.str (xC n qs))) []
def F_print_braces : FSp := fun as κ R _ => ∃ (w : Str) (ts : List Str), as = [.d (.str w), .d (.list (ts.map .str))] ∧ κ = [] ∧ w.length ≤ 10 ∧ ts.length ≤ 3 ∧ (ts.map (·.length)).sum ≤ 50000 ∧ R (.d (.str (w ++ " {" ++ Txt.join " | " ts ++ "}"))) []
abbrev N__print_call : List Str := ["name", "parties"]
def a__print_call (K : PySem.W.Frag) : AS :=
  (aRet (aOp aAdd (aOp aAdd (aOp aAdd (aVar 0) (aC (.d (.str "(")))) (aBM "str" aJoin (aC (.d (.str ", "))) (aCons (aVar 1) aNil))) (aC (.d (.str ")")))))
abbrev N_print_braces : List Str := ["word", "texts"]
def a_print_braces (K : PySem.W.Frag) : AS :=
  (aRet (aOp aAdd (aOp aAdd (aOp aAdd (aVar 0) (aC (.d (.str " {")))) (aBM "str" aJoin (aC (.d (.str " | "))) (aCons (aVar 1) aNil))) (aC (.d (.str "}")))))
theorem len__print_call : ∀ as κ R E', F__print_call as κ R E' → as.length = (["name", "parties"] : List Str).length := by
  rintro as κ R E' ⟨n, qs, rfl, _⟩; rfl
theorem len_print_braces : ∀ as κ R E', F_print_braces as κ R E' → as.length = (["word", "texts"] : List Str).length := by
  rintro as κ R E' ⟨n, qs, rfl, _⟩; rfl
theorem rd__print_call : ∀ as κ R E', F__print_call as κ R E' → a__print_call K (endsA K κ.length R) (startA N__print_call as) κ := by
  rintro as κ R E' ⟨n, qs, rfl, rfl, hn, hq, h6, h⟩
  have h1 := parts_len hq h6
  have h2 := parts_sum hq h6
  refine ⟨by (refine sl100 ?_; first | omega | (simp only [slen_app, l0, l1, l2, l3, l4, l5, l6, l7, l8, l9, l10, l11, l12, l13, l14, l15, l16, l17, l18, l19, l20, l21] at * <;> omega)), rfl, qs, rfl, by rw [l3]; omega, by (refine sl100 ?_; first | omega | (simp only [slen_app, l0, l1, l2, l3, l4, l5, l6, l7, l8, l9, l10, l11, l12, l13, l14, l15, l16, l17, l18, l19, l20, l21] at * <;> omega)), by (refine sl100 ?_; first | omega | (simp only [slen_app, l0, l1, l2, l3, l4, l5, l6, l7, l8, l9, l10, l11, l12, l13, l14, l15, l16, l17, l18, l19, l20, l21] at * <;> omega)), _, _, GhR.refl (Nat.le_refl _), h⟩
theorem rd_print_braces : ∀ as κ R E', F_print_braces as κ R E' → a_print_braces K (endsA K κ.length R) (startA N_print_braces as) κ := by
  rintro as κ R E' ⟨w, ts, rfl, rfl, hw, h3, hs, h⟩
  have h1 := tjoin_len " | " ts
  rw [l6, sum_addc 3 (fun y : Str => y.length)] at h1
  refine ⟨by (refine sl100 ?_; first | omega | (simp only [slen_app, l0, l1, l2, l3, l4, l5, l6, l7, l8, l9, l10, l11, l12, l13, l14, l15, l16, l17, l18, l19, l20, l21] at * <;> omega)), rfl, ts, rfl, by rw [l6]; omega, by (refine sl100 ?_; first | omega | (simp only [slen_app, l0, l1, l2, l3, l4, l5, l6, l7, l8, l9, l10, l11, l12, l13, l14, l15, l16, l17, l18, l19, l20, l21] at * <;> omega)), by (refine sl100 ?_; first | omega | (simp only [slen_app, l0, l1, l2, l3, l4, l5, l6, l7, l8, l9, l10, l11, l12, l13, l14, l15, l16, l17, l18, l19, l20, l21] at * <;> omega)), _, _, GhR.refl (Nat.le_refl _), h⟩
theorem pcall_w {n : Str} {qs : List Str} {κ : AK} {R : AR} {E : AX → AK → Prop} (hn : n.length ≤ 12) (hq : ∀ q ∈ qs, q.length ≤ 12) (h6 : qs.length ≤ 6) (h : R (.d (.str (xC n qs))) κ) : callW F__print_call E [.d (.str n), .d (.tuple (qs.map .str))] κ R :=
  callW_i ⟨[], _, _, .nil, rfl, rfl, n, qs, rfl, rfl, hn, hq, h6, Nat.zero_le _, rfl, rfl, h⟩
theorem pbr_w {w : Str} {ts : List Str} {κ : AK} {R : AR} {E : AX → AK → Prop} (hw : w.length ≤ 10) (h3 : ts.length ≤ 3) (hs : (ts.map (·.length)).sum ≤ 50000) (h : R (.d (.str (w ++ " {" ++ Txt.join " | " ts ++ "}"))) κ) : callW F_print_braces E [.d (.str w), .d (.list (ts.map .str))] κ R :=
  callW_i ⟨[], _, _, .nil, rfl, rfl, w, ts, rfl, rfl, hw, h3, hs, Nat.zero_le _, rfl, rfl, h⟩
/-! ### steps, bodies -/
def FF_print_step (n : Nat) : FSp := fun as κ R _ => ∃ (t : Tr) (ps : List Str) (er : List (Str × Nat)), as = [.d (dS t)] ∧ κ = [] ∧ okN ps er ∧ okS ps er t ∧ szS t ≤ 100 ∧ 2 * dpS t + 1 ≤ n ∧ R (.d (.str (xS t))) []
def FF_print_body (n : Nat) : FSp := fun as κ R _ => ∃ (b : List Tr) (ps : List Str) (er : List (Str × Nat)), as = [.d (.tuple (dB b))] ∧ κ = [] ∧ okN ps er ∧ okB ps er b ∧ szB b ≤ 100 ∧ 2 * dpB b + 2 ≤ n ∧ R (.d (.str (xB b))) []
abbrev N_print_step : List Str := ["step", "_", "sender", "taker", "label", "body"]
def a_print_step (K : PySem.W.Frag) (F_self_print_body : FSp) : AS :=
  (aSeq (aIfS (aB (aOp aEq (aOp aIx (aVar 0) (aC (.d (.int 0)))) (aC (.d (.str "letter"))))) (aSeq (aAsg (aVar 0) (aGTup 4 (aGCons (aName 1) (aGCons (aName 2) (aGCons (aName 3) (aGCons (aName 4) aGNil)))))) (aRet (aJoined (aJCons (aFmt (aVar 2)) (aJCons (aC (.d (.str " -> "))) (aJCons (aFmt (aVar 3)) (aJCons (aC (.d (.str ": "))) (aJCons (aFmt (aVar 4)) aJNil)))))))) aNext) (aSeq (aIfS (aB (aOp aEq (aOp aIx (aVar 0) (aC (.d (.int 0)))) (aC (.d (.str "use"))))) (aRet (aOp aAdd (aC (.d (.str "use "))) (aCall F__print_call (fun _ _ => False) (aCons (aOp aIx (aVar 0) (aC (.d (.int 1)))) (aCons (aOp aIx (aVar 0) (aC (.d (.int 2)))) aNil))))) aNext) (aSeq (aIfS (aB (aOp aEq (aOp aIx (aVar 0) (aC (.d (.int 0)))) (aC (.d (.str "loop"))))) (aRet (aCall F_print_braces (fun _ _ => False) (aCons (aC (.d (.str "loop"))) (aCons (aLstD (aCons (aCall F_self_print_body (fun _ _ => False) (aCons (aOp aIx (aVar 0) (aC (.d (.int 1)))) aNil)) aNil)) aNil)))) aNext) (aRet (aCall F_print_braces (fun _ _ => False) (aCons (aOp aIx (aVar 0) (aC (.d (.int 0)))) (aCons (aLc (aIter (aOp aIx (aVar 0) (aC (.d (.int 1))))) (aName 5) aYes (aCall F_self_print_body (fun _ _ => False) (aCons (aVar 5) aNil)) [5]) aNil)))))))
abbrev N_print_body : List Str := ["body", "step"]
def a_print_body (K : PySem.W.Frag) (F_self_print_step : FSp) : AS :=
  (aRet (aBM "str" aJoin (aC (.d (.str "; "))) (aCons (aLc (aIter (aVar 0)) (aName 1) aYes (aCall F_self_print_step (fun _ _ => False) (aCons (aVar 1) aNil)) [1]) aNil)))
theorem len_print_step (n : Nat) : ∀ as κ R E', FF_print_step n as κ R E' → as.length = (["step"] : List Str).length := by
  rintro as κ R E' ⟨s, m, _, rfl, _⟩; rfl
theorem len_print_body (n : Nat) : ∀ as κ R E', FF_print_body n as κ R E' → as.length = (["body"] : List Str).length := by
  rintro as κ R E' ⟨s, m, _, rfl, _⟩; rfl
theorem rd0_print_step {as κ R E'} (h : FF_print_step 0 as κ R E') : False := by
  obtain ⟨t, _, _, _, _, _, _, _, h, _⟩ := h; omega
theorem rd0_print_body {as κ R E'} (h : FF_print_body 0 as κ R E') : False := by
  obtain ⟨t, _, _, _, _, _, _, _, h, _⟩ := h; omega
section
variable {n : Nat} {ps : List Str} {er : List (Str × Nat)} {κ : AK} {R : AR} {E : AX → AK → Prop}
theorem pstep_w {t : Tr} (ok : okN ps er) (ht : okS ps er t) (hz : szS t ≤ 100) (hn : 2 * dpS t + 1 ≤ n) (h : R (.d (.str (xS t))) κ) : callW (FF_print_step n) E [.d (dS t)] κ R :=
  callW_i ⟨[], _, _, .nil, rfl, rfl, t, ps, er, rfl, rfl, ok, ht, hz, hn, Nat.zero_le _, rfl, rfl, h⟩
theorem pbody_w {b : List Tr} (ok : okN ps er) (ht : okB ps er b) (hz : szB b ≤ 100) (hn : 2 * dpB b + 2 ≤ n) (h : R (.d (.str (xB b))) κ) : callW (FF_print_body n) E [.d (.tuple (dB b))] κ R :=
  callW_i ⟨[], _, _, .nil, rfl, rfl, b, ps, er, rfl, rfl, ok, ht, hz, hn, Nat.zero_le _, rfl, rfl, h⟩
end
theorem rd_print_body (n : Nat) : ∀ as κ R E', FF_print_body (n + 1) as κ R E' → a_print_body K (FF_print_step n) (endsA K κ.length R) (startA N_print_body as) κ := by
  rintro as κ R E' ⟨b, ps, er, rfl, rfl, ok, hb, hz, hn, h⟩
  have hl := xL_len ok b hb
  have hcnt := szB_cnt b
  refine ⟨rfl, ?_⟩
  refine lc_d (fun i acc κ' => κ' = [] ∧ acc = ((xL b).take i).map .str) ⟨rfl, rfl⟩ ?_ ?_
  · rintro acc κ' ⟨rfl, rfl⟩
    have e : (xL b).length = (dB b).length := by rw [xL_map, List.length_map, dB_len]
    rw [← e, List.take_length]
    refine ⟨xL b, rfl, ?_, _, _, GhR.refl (Nat.le_refl _), h⟩
    have h2 : ((xL b).map (·.length)).sum ≤ ((xL b).map fun y => y.length + 2).sum := sum_le fun y _ => by omega
    rw [l10, e, dB_len]; omega
  · rintro i x acc κ' hx ⟨rfl, rfl⟩
    rw [dB_map, List.getElem?_map] at hx
    obtain ⟨t, ht, rfl⟩ := Option.map_eq_some_iff.mp hx
    have hm := List.mem_of_getElem? ht
    have h1 := szB_one hm
    have h2 : dpS t ≤ dpB b := dpB_le.mp (Nat.le_refl _) t hm
    have hi := (List.getElem?_eq_some_iff.mp ht).1
    refine pstep_w ok (okB_all.mp hb t hm) (by omega) (by omega) ⟨_, rfl, ?_, rfl, ?_⟩
    · rw [List.length_map, List.length_take]
      exact Nat.lt_of_lt_of_le (show min i (xL b).length < 1000 by omega) (by decide)
    · have hx' : (xL b)[i]? = some (xS t) := by rw [xL_map, List.getElem?_map, ht]; rfl
      rw [List.take_add_one, hx']; simp
theorem rd_print_step (n : Nat) : ∀ as κ R E', FF_print_step (n + 1) as κ R E' → a_print_step K (FF_print_body n) (endsA K κ.length R) (startA N_print_step as) κ := by
  rintro as κ R E' ⟨t, ps, er, rfl, rfl, ok, ht, hz, hn, h⟩
  have hv := trV t
  generalize dS t = d at hv
  cases hv with
  | letter w a b c hw =>
    have h1 := name_len (ok.p a ht.1)
    have h2 := name_len (ok.p b ht.2.1)
    have h3 := name_len ht.2.2.2
    refine ⟨.str w, at_nat (j := 0) rfl, bsel_t (decide_eq_true hw) ⟨rfl, ?_⟩⟩
    refine ⟨by (refine sl100 ?_; first | omega | (simp only [slen_app, l0, l1, l2, l3, l4, l5, l6, l7, l8, l9, l10, l11, l12, l13, l14, l15, l16, l17, l18, l19, l20, l21] at * <;> omega)), by (refine sl100 ?_; first | omega | (simp only [slen_app, l0, l1, l2, l3, l4, l5, l6, l7, l8, l9, l10, l11, l12, l13, l14, l15, l16, l17, l18, l19, l20, l21] at * <;> omega)), by (refine sl100 ?_; first | omega | (simp only [slen_app, l0, l1, l2, l3, l4, l5, l6, l7, l8, l9, l10, l11, l12, l13, l14, l15, l16, l17, l18, l19, l20, l21] at * <;> omega)), by (refine sl100 ?_; first | omega | (simp only [slen_app, l0, l1, l2, l3, l4, l5, l6, l7, l8, l9, l10, l11, l12, l13, l14, l15, l16, l17, l18, l19, l20, l21] at * <;> omega)), by (refine sl100 ?_; first | omega | (simp only [slen_app, l0, l1, l2, l3, l4, l5, l6, l7, l8, l9, l10, l11, l12, l13, l14, l15, l16, l17, l18, l19, l20, l21] at * <;> omega)), by (refine sl100 ?_; first | omega | (simp only [slen_app, l0, l1, l2, l3, l4, l5, l6, l7, l8, l9, l10, l11, l12, l13, l14, l15, l16, l17, l18, l19, l20, l21] at * <;> omega)), by (refine sl100 ?_; first | omega | (simp only [slen_app, l0, l1, l2, l3, l4, l5, l6, l7, l8, l9, l10, l11, l12, l13, l14, l15, l16, l17, l18, l19, l20, l21] at * <;> omega)), by (refine sl100 ?_; first | omega | (simp only [slen_app, l0, l1, l2, l3, l4, l5, l6, l7, l8, l9, l10, l11, l12, l13, l14, l15, l16, l17, l18, l19, l20, l21] at * <;> omega)), ?_⟩
    rw [emp_app]
    exact ⟨_, _, GhR.refl (Nat.le_refl _), h⟩
  | use w nn qs hw =>
    obtain ⟨o1, _, o3, o4⟩ := okS_use ok ht
    have h1 := name_len o1
    have h4 : ∀ q ∈ qs, q.length ≤ 12 := fun q hq => name_len (o4 q hq)
    have h2 := xC_len h1 h4 o3
    have n1 : w ≠ "letter" := by rw [hw]; decide +kernel
    refine ⟨.str w, at_nat (j := 0) rfl, bsel_f (decide_eq_false n1) ⟨.str w, at_nat (j := 0) rfl, bsel_t (decide_eq_true hw) ⟨_, at_nat (j := 1) rfl, _, at_nat (j := 2) rfl, pcall_w h1 h4 o3 ⟨by (refine sl100 ?_; first | omega | (simp only [slen_app, l0, l1, l2, l3, l4, l5, l6, l7, l8, l9, l10, l11, l12, l13, l14, l15, l16, l17, l18, l19, l20, l21] at * <;> omega)), _, _, GhR.refl (Nat.le_refl _), h⟩⟩⟩⟩
  | loop w b hw =>
    have hz : szB b + 1 ≤ 100 := hz
    have hn : 2 * (dpB b + 1) + 1 ≤ n + 1 := hn
    have hl := xB_len ok (b := b) ht
    have n1 : w ≠ "letter" := by rw [hw]; decide +kernel
    have n2 : w ≠ "use" := by rw [hw]; decide +kernel
    refine ⟨.str w, at_nat (j := 0) rfl, bsel_f (decide_eq_false n1) ⟨.str w, at_nat (j := 0) rfl, bsel_f (decide_eq_false n2) ⟨.str w, at_nat (j := 0) rfl, bsel_t (decide_eq_true hw) ⟨_, at_nat (j := 1) rfl, pbody_w ok ht (by omega) (by omega) ⟨(show 1 ≤ sizeLine by decide), ?_⟩⟩⟩⟩⟩
    refine pbr_w (ts := [xB b]) (by decide +kernel) (show 1 ≤ 3 by decide) (by show (xB b).length + 0 ≤ _; omega) ?_
    rw [tjoin_one]
    exact ⟨_, _, GhR.refl (Nat.le_refl _), h⟩
  | br w v bs hv hw =>
    have hz : szBs bs + 1 ≤ 100 := hz
    have hn : 2 * (dpBs bs + 1) + 1 ≤ n + 1 := hn
    have hl := xBs_len ok bs ht.2.2
    have h3 := ht.2.1
    have hxl : (xBs bs).length = bs.length := by rw [xBs_map, List.length_map]
    have n1 : w ≠ "letter" := by rcases hw with rfl | rfl <;> decide +kernel
    have n2 : w ≠ "use" := by rcases hw with rfl | rfl <;> decide +kernel
    have n3 : w ≠ "loop" := by rcases hw with rfl | rfl <;> decide +kernel
    have lw : w.length ≤ 10 := by rcases hw with rfl | rfl <;> decide +kernel
    have h : R (.d (.str (brW v ++ " {" ++ Txt.join " | " (xBs bs) ++ "}"))) [] := h
    rw [← hv] at h
    refine ⟨.str w, at_nat (j := 0) rfl, bsel_f (decide_eq_false n1) ⟨.str w, at_nat (j := 0) rfl, bsel_f (decide_eq_false n2) ⟨.str w, at_nat (j := 0) rfl, bsel_f (decide_eq_false n3) ⟨_, at_nat (j := 0) rfl, .tuple (dBs bs), at_nat (j := 1) rfl, ?_⟩⟩⟩⟩
    refine lc_d (fun i acc κ' => κ' = [] ∧ acc = ((xBs bs).take i).map .str) ⟨rfl, rfl⟩ ?_ ?_
    · rintro acc κ' ⟨rfl, rfl⟩
      rw [dBs_len, ← hxl, List.take_length]
      exact pbr_w lw (by omega) (by omega) ⟨_, _, GhR.refl (Nat.le_refl _), h⟩
    · rintro i x acc κ' hx ⟨rfl, rfl⟩
      rw [dBs_map, List.getElem?_map] at hx
      obtain ⟨y, hy, rfl⟩ := Option.map_eq_some_iff.mp hx
      have hm := List.mem_of_getElem? hy
      have h1 := szBs_one hm
      have h2 : dpB y ≤ dpBs bs := dpBs_le.mp (Nat.le_refl _) y hm
      refine pbody_w ok (okBs_all.mp ht.2.2 y hm) (by omega) (by omega) ⟨_, rfl, ?_, rfl, ?_⟩
      · rw [List.length_map, List.length_take]
        exact Nat.lt_of_lt_of_le (show min i (xBs bs).length < 1000 by omega) (by decide)
      · have hx' : (xBs bs)[i]? = some (xB y) := by rw [xBs_map, List.getElem?_map, hy]; rfl
        rw [List.take_add_one, hx']; simp
/-! ### pacts, books -/
def F_print_pact : FSp := fun as κ R _ => ∃ (P : Pct) (room : Int) (er : List (Str × Nat)), as = [.d (pctD P)] ∧ κ = [] ∧ okP room er P ∧ room ≤ 100 ∧ erOk er ∧ R (.d (.str (xP P))) []
abbrev N_print_pact : List Str := ["pact", "_", "name", "parties", "body", "words"]
def a_print_pact (K : PySem.W.Frag) : AS :=
  (aSeq (aAsg (aVar 0) (aGTup 4 (aGCons (aName 1) (aGCons (aName 2) (aGCons (aName 3) (aGCons (aName 4) aGNil)))))) (aSeq (aSet 5 (aLst (aCons (aC (.d (.str "pact"))) (aCons (aCall F__print_call (fun _ _ => False) (aCons (aVar 2) (aCons (aVar 3) aNil))) (aCons (aC (.d (.str "end"))) aNil))))) (aCut (aIfS (aTru (aVar 4)) (aDrop (aBM "list" aInsert (aVar 5) (aCons (aC (.d (.int 2))) (aCons (aCall (FF_print_body 20) (fun _ _ => False) (aCons (aVar 4) aNil)) aNil)))) aNext) (aRet (aBM "str" aJoin (aC (.d (.str " "))) (aCons (aVar 5) aNil))))))
theorem len_print_pact : ∀ as κ R E', F_print_pact as κ R E' → as.length = (["pact"] : List Str).length := by
  rintro as κ R E' ⟨p, t, _, rfl, _⟩; rfl
theorem xPw_sum {room : Int} {er : List (Str × Nat)} {P : Pct} (h : okP room er P) (hr : room ≤ 100) (he : erOk er) : ((xPw P).map (·.length)).sum ≤ 20200 ∧ (xPw P).length ≤ 4 := by
  have ok : okN P.ps er := ⟨h.pa, h.pl, he⟩
  have h1 := xC_len (name_len h.n) (fun q hq => name_len (h.pa q hq)) h.pl
  have h2 := xB_len ok h.b
  have h3 := h.z
  unfold xPw
  split
  · refine ⟨?_, by show 3 ≤ 4; decide⟩
    show ("pact" : Str).length + ((xC P.name P.ps).length + (("end" : Str).length + 0)) ≤ 20200
    rw [l18, l19]; omega
  · refine ⟨?_, Nat.le_refl _⟩
    show ("pact" : Str).length + ((xC P.name P.ps).length + ((xB P.body).length + (("end" : Str).length + 0))) ≤ 20200
    rw [l18, l19]; omega
theorem xP_len {room : Int} {er : List (Str × Nat)} {P : Pct} (h : okP room er P) (hr : room ≤ 100) (he : erOk er) : (xP P).length ≤ 20204 := by
  obtain ⟨h1, h2⟩ := xPw_sum h hr he
  have h3 := tjoin_len " " (xPw P)
  rw [l17, sum_addc 1 (fun y : Str => y.length)] at h3
  unfold xP
  omega
theorem rd_print_pact : ∀ as κ R E', F_print_pact as κ R E' → a_print_pact K (endsA K κ.length R) (startA N_print_pact as) κ := by
  rintro as κ R E' ⟨P, room, er, rfl, rfl, hP, hr, he, h⟩
  have ok : okN P.ps er := ⟨hP.pa, hP.pl, he⟩
  have h4 : ∀ q ∈ P.ps, q.length ≤ 12 := fun q hq => name_len (hP.pa q hq)
  obtain ⟨hs1, hs2⟩ := xPw_sum hP hr he
  have hz := hP.z
  have hd := hP.d
  refine ⟨rfl, pcall_w (name_len hP.n) h4 hP.pl ⟨(show 3 ≤ sizeLine by decide), ?_⟩⟩
  refine ⟨fun δ κ => (∃ x0 x1 x2 x3 x4, δ = [x0, x1, x2, x3, x4, some (.c 0)]) ∧ κ = [.ld ((xPw P).map .str)], ?_, ?_⟩
  · have hb := hP.b
    obtain ⟨name, ps, body⟩ := P
    cases body with
    | nil => exact ⟨⟨_, _, _, _, _, rfl⟩, rfl⟩
    | cons b0 body =>
      refine ⟨rfl, pbody_w ok hb (by omega) (by omega) ⟨_, rfl, (show 3 < sizeLine by decide), by decide, by decide, ⟨_, _, _, _, _, rfl⟩, rfl⟩⟩
  · rintro δ κ ⟨⟨x0, x1, x2, x3, x4, rfl⟩, rfl⟩ _
    refine ⟨rfl, xPw P, rfl, by rw [l17]; omega, _, _, GhR.take 0 (Nat.le_refl _) (show 0 ≤ 1 by decide) rfl rfl, h⟩
theorem ppact_w {P : Pct} {room : Int} {er : List (Str × Nat)} {κ : AK} {R : AR} {E : AX → AK → Prop} (hP : okP room er P) (hr : room ≤ 100) (he : erOk er) (h : R (.d (.str (xP P))) κ) : callW F_print_pact E [.d (pctD P)] κ R :=
  callW_i ⟨[], _, _, .nil, rfl, rfl, P, room, er, rfl, rfl, hP, hr, he, Nat.zero_le _, rfl, rfl, h⟩
def F_print_book : FSp := fun as κ R _ => ∃ (bk : List Pct) (room : Int), ((as = [.d (.list (bk.map pctD))] ∧ κ = []) ∨ (as = [.c 0] ∧ κ = [.ld (bk.map pctD)])) ∧ okBk room bk ∧ room ≤ 100 ∧ bk.length ≤ 10 ∧ R (.d (.str (xBk bk))) κ
abbrev N_print_book : List Str := ["book", "pact"]
def a_print_book (K : PySem.W.Frag) : AS :=
  (aRet (aBM "str" aJoin (aC (.d (.str "\n"))) (aCons (aLc (aIter (aVar 0)) (aName 1) aYes (aCall F_print_pact (fun _ _ => False) (aCons (aVar 1) aNil)) [1]) aNil)))
theorem len_print_book : ∀ as κ R E', F_print_book as κ R E' → as.length = (["book"] : List Str).length := by
  rintro as κ R E' ⟨p, t, ⟨rfl, _⟩ | ⟨rfl, _⟩, _⟩ <;> rfl
theorem xBk_sum {room : Int} {bk : List Pct} (h : okBk room bk) (hr : room ≤ 100) (hl : bk.length ≤ 10) : ((bk.map xP).map (·.length)).sum ≤ 202040 := by
  rw [List.map_map]
  have h2 : (bk.map ((·.length) ∘ xP)).sum ≤ (bk.map fun _ => 20204).sum := sum_le fun P hP => by
    obtain ⟨j, hj⟩ := List.mem_iff_getElem?.mp hP
    exact xP_len (h j P hj) hr (erOk_of h j)
  rw [sum_const] at h2
  omega
theorem xBk_len {room : Int} {bk : List Pct} (h : okBk room bk) (hr : room ≤ 100) (hl : bk.length ≤ 10) : (xBk bk).length ≤ 202100 := by
  have h1 := xBk_sum h hr hl
  have h3 := tjoin_len "\n" (bk.map xP)
  rw [l20, sum_addc 1 (fun y : Str => y.length), List.length_map] at h3
  unfold xBk
  omega
theorem rd_print_book : ∀ as κ R E', F_print_book as κ R E' → a_print_book K (endsA K κ.length R) (startA N_print_book as) κ := by
  rintro as κ R E' ⟨bk, room, hv, hb, hr, hl, h⟩
  have hs := xBk_sum hb hr hl
  have turn : ∀ (i : Nat) (x : PyData) (acc : List PyData) (κ' : AK), (bk.map pctD)[i]? = some x → acc = ((bk.map xP).take i).map .str → ∀ R' : AR, (∀ d, ∃ d', AV.d d = .d d') → (acc.length < sizeLine → R' (.d (.str (xP ((bk[i]?).getD ⟨"", [], []⟩)))) κ') → callW F_print_pact (fun _ _ => False) [.d x] κ' R' := by
    intro i x acc κ' hx hacc R' _ hR
    rw [List.getElem?_map] at hx
    obtain ⟨P, hP, rfl⟩ := Option.map_eq_some_iff.mp hx
    rw [hP] at hR
    refine ppact_w (hb i P hP) hr (erOk_of hb i) (hR ?_)
    rw [hacc, List.length_map, List.length_take, List.length_map]
    exact Nat.lt_of_lt_of_le (show min i bk.length < 1000 by omega) (by decide)
  have next : ∀ (i : Nat) (x : PyData), (bk.map pctD)[i]? = some x → ((bk.map xP).take i).map PyData.str ++ [.str (xP ((bk[i]?).getD ⟨"", [], []⟩))] = ((bk.map xP).take (i + 1)).map .str := fun i x hx => by
    rw [List.getElem?_map] at hx
    obtain ⟨P, hP, rfl⟩ := Option.map_eq_some_iff.mp hx
    rw [List.take_add_one, List.getElem?_map, hP]; simp
  rcases hv with ⟨rfl, rfl⟩ | ⟨rfl, rfl⟩
  · refine ⟨rfl, ?_⟩
    refine lc_d (fun i acc κ' => κ' = [] ∧ acc = ((bk.map xP).take i).map .str) ⟨rfl, rfl⟩ ?_ ?_
    · rintro acc κ' ⟨rfl, rfl⟩
      rw [List.take_of_length_le (by rw [List.length_map, List.length_map]; exact Nat.le_refl _)]
      refine ⟨bk.map xP, rfl, by rw [l20, List.length_map]; omega, _, _, GhR.refl (Nat.le_refl _), h⟩
    · rintro i x acc κ' hx ⟨rfl, ha⟩
      exact turn i x acc [] hx ha _ (fun d => ⟨d, rfl⟩) fun hl => ⟨_, rfl, hl, rfl, by rw [ha]; exact next i x hx⟩
  · refine ⟨rfl, ?_⟩
    refine lc_c (k := 0) (xs := bk.map pctD) (fun i acc κ' => κ' = [.ld (bk.map pctD)] ∧ acc = ((bk.map xP).take i).map .str) ⟨rfl, rfl⟩ ?_ ?_ ?_
    · rintro i acc κ' ⟨rfl, _⟩; rfl
    · rintro acc κ' ⟨rfl, rfl⟩
      rw [List.take_of_length_le (by rw [List.length_map, List.length_map]; exact Nat.le_refl _)]
      refine ⟨bk.map xP, rfl, by rw [l20, List.length_map]; omega, _, _, GhR.refl (Nat.le_refl _), h⟩
    · rintro i x acc κ' hx ⟨rfl, ha⟩
      exact turn i x acc _ hx ha _ (fun d => ⟨d, rfl⟩) fun hl => ⟨_, rfl, hl, rfl, by rw [ha]; exact next i x hx⟩
theorem pbook_w {bk : List Pct} {room : Int} {κ : AK} {R : AR} {E : AX → AK → Prop} (hb : okBk room bk) (hr : room ≤ 100) (hl : bk.length ≤ 10) (h : R (.d (.str (xBk bk))) κ) : callW F_print_book E [.d (.list (bk.map pctD))] κ R :=
  callW_i ⟨[], _, _, .nil, rfl, rfl, bk, room, .inl ⟨rfl, rfl⟩, hb, hr, hl, Nat.zero_le _, rfl, rfl, h⟩
end Com
set_option Elab.async false
set_option linter.all false
set_option maxRecDepth 100000
set_option maxHeartbeats 4000000
/-! Rea6: the tokens of printed forms; one tree for one row of words; equal data -/
namespace Com
open PySem L2 Ab
variable {K : PySem.W.Frag}
/-! ### parts of a text and their words -/
def sR (l : List Nat) : Bool := match l with
  | c :: _ => decide (run c)
  | [] => false
def eR (l : List Nat) : Bool := match l.getLast? with
  | some c => decide (run c)
  | none => false
inductive Seg : List Nat → List Str → Prop
  | nil : Seg [] []
  | blank {c : Nat} : blankC c → Seg [c] []
  | word {w : Str} : tokW w → Seg (tl w) [w]
  | app {a b : List Nat} {u v : List Str} : Seg a u → Seg b v → (eR a && sR b) = false → Seg (a ++ b) (u ++ v)
theorem sR_app {a b : List Nat} (h : a ≠ []) : sR (a ++ b) = sR a := by
  cases a with
  | nil => exact absurd rfl h
  | cons c a => rfl
theorem eR_app {a b : List Nat} (h : b ≠ []) : eR (a ++ b) = eR b := by
  unfold eR
  rw [List.getLast?_append]
  cases e : b.getLast? with
  | none => exact absurd (List.getLast?_eq_none_iff.mp e) h
  | some c => rfl
theorem seg_toks {l : List Nat} {ws : List Str} (h : Seg l ws) : ∀ k n ts, (eR l && sR k) = false → Toks k (n + l.length) ts → ∃ us, Toks (l ++ k) n (us ++ ts) ∧ us.map (·.1) = ws := by
  induction h with
  | nil => intro k n ts _ h; exact ⟨[], h, rfl⟩
  | blank hb => intro k n ts _ h; exact ⟨[], .blank hb h, rfl⟩
  | @word w hw =>
    intro k n ts hc h
    refine ⟨[(w, n)], .tok hw (fun hr c r e => ?_) (by rw [tl_len]; exact h), rfl⟩
    obtain ⟨r', c', e', hc'⟩ := runTok_last hr
    have h1 : eR (tl w) = true := by
      unfold eR
      rw [e', List.getLast?_append]
      exact decide_eq_true hc'
    rw [h1, Bool.true_and] at hc
    subst e
    exact of_decide_eq_false hc
  | @app a b u v _ _ hab iha ihb =>
    intro k n ts hc h
    have hb : (eR b && sR k) = false := by
      cases b with
      | nil => rfl
      | cons x b => rw [eR_app (by simp)] at hc; exact hc
    obtain ⟨us, h1, e1⟩ := ihb k (n + a.length) ts hb (by rw [Nat.add_assoc, ← List.length_append]; exact h)
    have ha : (eR a && sR (b ++ k)) = false := by
      cases b with
      | nil => rw [List.append_nil] at hc; exact hc
      | cons x b => rw [sR_app (by simp)]; exact hab
    obtain ⟨vs, h2, e2⟩ := iha (b ++ k) n (us ++ ts) ha h1
    exact ⟨vs ++ us, by rw [List.append_assoc, List.append_assoc]; exact h2, by rw [List.map_append, e1, e2]⟩
def SegS (t : Str) (ws : List Str) : Prop := Seg (tl t) ws
theorem seg_bl : ∀ {a : List Nat}, (∀ c ∈ a, blankC c) → Seg a [] ∧ eR a = false ∧ sR a = false
  | [], _ => ⟨.nil, rfl, rfl⟩
  | c :: a, h => by
    have hc := h c (List.mem_cons_self ..)
    obtain ⟨h1, h2, h3⟩ := seg_bl (a := a) fun x hx => h x (List.mem_cons_of_mem _ hx)
    have e : eR [c] = false := decide_eq_false (blank_not hc)
    refine ⟨.app (a := [c]) (u := []) (.blank hc) h1 (by rw [e]; rfl), ?_, decide_eq_false (blank_not hc)⟩
    cases a with
    | nil => exact e
    | cons x a => exact (eR_app (a := [c]) (by simp)).trans h2
theorem seg3 {t w : Str} (a b : List Nat) (hw : tokW w) (e : tl t = a ++ (tl w ++ b)) (ha : ∀ c ∈ a, blankC c) (hb : ∀ c ∈ b, blankC c) : SegS t [w] := by
  obtain ⟨h1, h2, _⟩ := seg_bl ha
  obtain ⟨h3, _, h4⟩ := seg_bl hb
  unfold SegS
  rw [e]
  exact .app (u := []) h1 (.app (v := []) (.word hw) h3 (by rw [h4, Bool.and_false])) (by rw [h2]; rfl)
theorem seg_app {a b : Str} {u v : List Str} (ha : SegS a u) (hb : SegS b v) (h : sR (tl b) = false ∨ eR (tl a) = false) : SegS (a ++ b) (u ++ v) := by
  unfold SegS
  rw [tl_app]
  refine .app ha hb ?_
  rcases h with h | h
  · rw [h, Bool.and_false]
  · rw [h]; rfl
theorem eR_c {a c : Str} (h0 : tl c ≠ []) (h : eR (tl c) = false) : eR (tl (a ++ c)) = false := by rw [tl_app, eR_app h0]; exact h
theorem bl32 : blankC 32 := .inl rfl
theorem bl10 : blankC 10 := .inr rfl
theorem bl_l : ∀ c ∈ [32], blankC c := fun c hc => by rw [List.mem_singleton.mp hc]; exact bl32
theorem bl_n : ∀ c ∈ ([] : List Nat), blankC c := fun c hc => by cases hc
theorem c_arrow : SegS " -> " ["->"] := seg3 [32] [32] (.inr (.inr rfl)) (by decide +kernel) bl_l bl_l
theorem c_colon : SegS ": " [":"] := seg3 [] [32] (tok_m m_colon) (by decide +kernel) bl_n bl_l
theorem c_par : SegS "(" ["("] := seg3 [] [] (tok_m m_par) (by decide +kernel) bl_n bl_n
theorem c_rap : SegS ")" [")"] := seg3 [] [] (tok_m m_rap) (by decide +kernel) bl_n bl_n
theorem c_comma : SegS ", " [","] := seg3 [] [32] (tok_m m_comma) (by decide +kernel) bl_n bl_l
theorem c_use : SegS "use " ["use"] := seg3 [] [32] (tok_w (by decide +kernel)) (by decide +kernel) bl_n bl_l
theorem c_loop : SegS "loop" ["loop"] := seg3 [] [] (tok_w (by decide +kernel)) (by decide +kernel) bl_n bl_n
theorem c_open : SegS " {" ["{"] := seg3 [32] [] (tok_m m_open) (by decide +kernel) bl_l bl_n
theorem c_close : SegS "}" ["}"] := seg3 [] [] (tok_m m_close) (by decide +kernel) bl_n bl_n
theorem c_semi : SegS "; " [";"] := seg3 [] [32] (tok_m m_semi) (by decide +kernel) bl_n bl_l
theorem c_bar : SegS " | " ["|"] := seg3 [32] [32] (tok_m m_bar) (by decide +kernel) bl_l bl_l
theorem c_pact : SegS "pact" ["pact"] := seg3 [] [] (tok_w w_pact) (by decide +kernel) bl_n bl_n
theorem c_end : SegS "end" ["end"] := seg3 [] [] (tok_w w_end) (by decide +kernel) bl_n bl_n
theorem c_br (v : Bool) : SegS (brW v) [brW v] := .word (tok_w (by cases v <;> decide +kernel))
theorem c_space : SegS " " [] := by
  have e : tl " " = [32] := by decide +kernel
  unfold SegS; rw [e]; exact .blank bl32
theorem c_nl : SegS "\n" [] := by
  have e : tl "\n" = [10] := by decide +kernel
  unfold SegS; rw [e]; exact .blank bl10
theorem c_name {z : Str} (h : isName z) : SegS z [z] := .word (name_tok h)
def joinW (sw : List Str) : List (List Str) → List Str
  | [] => []
  | [x] => x
  | x :: y :: r => x ++ (sw ++ joinW sw (y :: r))
theorem joinW_sj (s : Str) : ∀ xs, joinW [s] xs = sj s xs
  | [] => rfl
  | [x] => by show x = x ++ []; rw [List.append_nil]
  | x :: y :: r => by
    have ih := joinW_sj s (y :: r)
    show x ++ ([s] ++ joinW [s] (y :: r)) = x ++ s :: (y ++ sk s r)
    rw [ih]; rfl
theorem joinW_nil : ∀ xs, joinW [] xs = xs.flatten
  | [] => rfl
  | [x] => by simp [joinW]
  | x :: y :: r => by
    have ih := joinW_nil (y :: r)
    show x ++ ([] ++ joinW [] (y :: r)) = _
    rw [ih]; simp
theorem seg_join {α : Type} {f : α → Str} {g : α → List Str} {S : Str} {sw : List Str} (hS : SegS S sw) (s0 : tl S ≠ []) (s1 : sR (tl S) = false) (s2 : eR (tl S) = false) : ∀ xs : List α, (∀ x ∈ xs, SegS (f x) (g x)) → SegS (Txt.join S (xs.map f)) (joinW sw (xs.map g))
  | [], _ => by
    unfold SegS; rw [tl_tjoin]; exact .nil
  | [x], h => by
    unfold SegS; rw [tl_tjoin]; exact h x (List.mem_cons_self ..)
  | x :: y :: r, h => by
    have ih := seg_join (f := f) (g := g) hS s0 s1 s2 (y :: r) fun z hz => h z (List.mem_cons_of_mem _ hz)
    unfold SegS at ih ⊢
    rw [tl_tjoin] at ih ⊢
    show Seg (tl (f x) ++ (tl S ++ TL.joinL (tl S) (((y :: r).map f).map tl))) (g x ++ (sw ++ joinW sw ((y :: r).map g)))
    refine .app (h x (List.mem_cons_self ..)) (.app hS ih (by rw [s2]; rfl)) ?_
    rw [sR_app s0, s1, Bool.and_false]
theorem seg_xC {n : Str} {qs : List Str} (hn : isName n) (hq : ∀ q ∈ qs, isName q) : SegS (xC n qs) (n :: wL qs) := by
  have hj := seg_join (f := fun q : Str => q) (g := fun q => [q]) c_comma (by decide +kernel) (by decide +kernel) (by decide +kernel) qs fun q h => c_name (hq q h)
  rw [List.map_id', joinW_sj] at hj
  exact seg_app (seg_app (seg_app (c_name hn) c_par (.inl (by decide +kernel))) hj (.inr (eR_c (by decide +kernel) (by decide +kernel)))) c_rap (.inl (by decide +kernel))
mutual
theorem segT {ps : List Str} {er : List (Str × Nat)} (ok : okN ps er) : ∀ t : Tr, okS ps er t → SegS (xS t) (pS t)
  | .letter a b c, h => seg_app (seg_app (seg_app (seg_app (c_name (ok.p a h.1)) c_arrow (.inl (by decide +kernel))) (c_name (ok.p b h.2.1)) (.inr (eR_c (by decide +kernel) (by decide +kernel)))) c_colon (.inl (by decide +kernel))) (c_name h.2.2.2) (.inr (eR_c (by decide +kernel) (by decide +kernel)))
  | .use n qs, h => by
    obtain ⟨o1, _, _, o4⟩ := okS_use ok h
    exact seg_app c_use (seg_xC o1 o4) (.inr (by decide +kernel))
  | .loop b, h => by
    have hj := seg_join (f := fun x : Str × List Str => x.1) (g := fun x => x.2) c_semi (by decide +kernel) (by decide +kernel) (by decide +kernel) ((xL b).zip (pB b)) (segL ok b h)
    have l1 : (xL b).length = (pB b).length := by rw [xL_map, pB_map, List.length_map, List.length_map]
    rw [List.map_fst_zip (Nat.le_of_eq l1), List.map_snd_zip (Nat.le_of_eq l1.symm), joinW_sj] at hj
    exact seg_app (seg_app (seg_app c_loop c_open (.inl (by decide +kernel))) hj (.inr (eR_c (by decide +kernel) (by decide +kernel)))) c_close (.inl (by decide +kernel))
  | .br v bs, h => by
    have hj := seg_join (f := fun x : Str × List Str => x.1) (g := fun x => x.2) c_bar (by decide +kernel) (by decide +kernel) (by decide +kernel) ((xBs bs).zip (pBs bs)) (segBs ok bs h.2.2)
    have l1 : (xBs bs).length = (pBs bs).length := by rw [xBs_map, pBs_map, List.length_map, List.length_map]
    rw [List.map_fst_zip (Nat.le_of_eq l1), List.map_snd_zip (Nat.le_of_eq l1.symm), joinW_sj] at hj
    exact seg_app (seg_app (seg_app (c_br v) c_open (.inl (by decide +kernel))) hj (.inr (eR_c (by decide +kernel) (by decide +kernel)))) c_close (.inl (by decide +kernel))
theorem segL {ps : List Str} {er : List (Str × Nat)} (ok : okN ps er) : ∀ b : List Tr, okB ps er b → ∀ x ∈ (xL b).zip (pB b), SegS x.1 x.2
  | [], _, x, hx => by cases hx
  | s :: b, h, x, hx => by
    rcases List.mem_cons.mp (show x ∈ (xS s, pS s) :: (xL b).zip (pB b) from hx) with rfl | hx
    · exact segT ok s h.1
    · exact segL ok b h.2 x hx
theorem segBs {ps : List Str} {er : List (Str × Nat)} (ok : okN ps er) : ∀ bs : List (List Tr), okBs ps er bs → ∀ x ∈ (xBs bs).zip (pBs bs), SegS x.1 x.2
  | [], _, x, hx => by cases hx
  | b :: bs, h, x, hx => by
    rcases List.mem_cons.mp (show x ∈ (xB b, wB b) :: (xBs bs).zip (pBs bs) from hx) with rfl | hx
    · have hj := seg_join (f := fun x : Str × List Str => x.1) (g := fun x => x.2) c_semi (by decide +kernel) (by decide +kernel) (by decide +kernel) ((xL b).zip (pB b)) (segL ok b h.1)
      have l1 : (xL b).length = (pB b).length := by rw [xL_map, pB_map, List.length_map, List.length_map]
      rw [List.map_fst_zip (Nat.le_of_eq l1), List.map_snd_zip (Nat.le_of_eq l1.symm), joinW_sj] at hj
      exact hj
    · exact segBs ok bs h.2 x hx
end
theorem segB {ps : List Str} {er : List (Str × Nat)} (ok : okN ps er) {b : List Tr} (h : okB ps er b) : SegS (xB b) (wB b) := by
  have hj := seg_join (f := fun x : Str × List Str => x.1) (g := fun x => x.2) c_semi (by decide +kernel) (by decide +kernel) (by decide +kernel) ((xL b).zip (pB b)) (segL ok b h)
  have l1 : (xL b).length = (pB b).length := by rw [xL_map, pB_map, List.length_map, List.length_map]
  rw [List.map_fst_zip (Nat.le_of_eq l1), List.map_snd_zip (Nat.le_of_eq l1.symm), joinW_sj] at hj
  exact hj
theorem segP {room : Int} {er : List (Str × Nat)} {P : Pct} (h : okP room er P) (he : erOk er) : SegS (xP P) (wP P) := by
  have ok : okN P.ps er := ⟨h.pa, h.pl, he⟩
  have hb := segB ok h.b
  have hc := seg_xC h.n h.pa
  unfold xP xPw
  split
  · rename_i e0
    have hj := seg_join (f := fun x : Str × List Str => x.1) (g := fun x => x.2) c_space (by decide +kernel) (by decide +kernel) (by decide +kernel) [(("pact" : Str), [("pact" : Str)]), (xC P.name P.ps, P.name :: wL P.ps), ("end", ["end"])] (fun x hx => by
      simp only [List.mem_cons, List.mem_nil_iff, or_false] at hx
      rcases hx with rfl | rfl | rfl
      · exact c_pact
      · exact hc
      · exact c_end)
    rw [joinW_nil] at hj
    have ew : wP P = (([(("pact" : Str), [("pact" : Str)]), (xC P.name P.ps, P.name :: wL P.ps), (("end" : Str), [("end" : Str)])] : List (Str × List Str)).map fun x => x.2).flatten := by
      unfold wP; rw [e0]; simp [sj, pB]; rfl
    rw [ew]; exact hj
  · rename_i s b e0
    have hj := seg_join (f := fun x : Str × List Str => x.1) (g := fun x => x.2) c_space (by decide +kernel) (by decide +kernel) (by decide +kernel) [(("pact" : Str), [("pact" : Str)]), (xC P.name P.ps, P.name :: wL P.ps), (xB P.body, wB P.body), ("end", ["end"])] (fun x hx => by
      simp only [List.mem_cons, List.mem_nil_iff, or_false] at hx
      rcases hx with rfl | rfl | rfl | rfl
      · exact c_pact
      · exact hc
      · exact hb
      · exact c_end)
    rw [joinW_nil] at hj
    have ew : wP P = (([(("pact" : Str), [("pact" : Str)]), (xC P.name P.ps, P.name :: wL P.ps), (xB P.body, wB P.body), (("end" : Str), [("end" : Str)])] : List (Str × List Str)).map fun x => x.2).flatten := by
      unfold wP; simp
    rw [ew]; exact hj
theorem toks_printed {room : Int} {bk : List Pct} (h : okBk room bk) : ∃ ts, Toks (tl (xBk bk)) 0 ts ∧ ts.map (·.1) = wBk bk := by
  have hj := seg_join (f := xP) (g := wP) c_nl (by decide +kernel) (by decide +kernel) (by decide +kernel) bk (fun P hP => by
    obtain ⟨j, hj⟩ := List.mem_iff_getElem?.mp hP
    exact segP (h j P hj) (erOk_of h j))
  rw [joinW_nil] at hj
  obtain ⟨us, h1, h2⟩ := seg_toks hj [] 0 [] (by rw [show sR [] = false from rfl, Bool.and_false]) (.nil _)
  rw [List.append_nil, List.append_nil] at h1
  exact ⟨us, h1, by rw [h2]; rfl⟩
/-! ### newlines -/
theorem nl_app {a b : Str} (ha : 10 ∉ tl a) (hb : 10 ∉ tl b) : 10 ∉ tl (a ++ b) := fun h => by
  rw [tl_app] at h
  rcases List.mem_append.mp h with h | h
  · exact ha h
  · exact hb h
theorem mem_joinL {S : List Nat} {c : Nat} : ∀ {ps : List (List Nat)}, c ∈ TL.joinL S ps → c ∈ S ∨ ∃ p ∈ ps, c ∈ p
  | [], h => by cases h
  | [p], h => .inr ⟨p, List.mem_cons_self .., h⟩
  | p :: q :: r, h => by
    have h : c ∈ p ++ (S ++ TL.joinL S (q :: r)) := h
    rcases List.mem_append.mp h with h | h
    · exact .inr ⟨p, List.mem_cons_self .., h⟩
    · rcases List.mem_append.mp h with h | h
      · exact .inl h
      · rcases mem_joinL h with h | ⟨x, hx, h⟩
        · exact .inl h
        · exact .inr ⟨x, List.mem_cons_of_mem _ hx, h⟩
theorem nl_join {S : Str} {ys : List Str} (hS : 10 ∉ tl S) (hy : ∀ y ∈ ys, 10 ∉ tl y) : 10 ∉ tl (Txt.join S ys) := fun h => by
  rw [tl_tjoin] at h
  rcases mem_joinL h with h | ⟨p, hp, h⟩
  · exact hS h
  · obtain ⟨y, hy', rfl⟩ := List.mem_map.mp hp
    exact hy y hy' h
theorem nl_name {z : Str} (h : isName z) : 10 ∉ tl z := fun hm => by
  obtain ⟨⟨c, r, e, h1, h2, _⟩, _⟩ := h
  rw [e] at hm
  have : run 10 := by
    rcases List.mem_cons.mp hm with rfl | hm
    · exact .inl h1
    · exact h2 _ hm
  exact absurd this (by decide)
theorem nl_xC {n : Str} {qs : List Str} (hn : isName n) (hq : ∀ q ∈ qs, isName q) : 10 ∉ tl (xC n qs) := nl_app (nl_app (nl_app (nl_name hn) (by decide +kernel)) (nl_join (by decide +kernel) fun q h => nl_name (hq q h))) (by decide +kernel)
mutual
theorem nlS {ps : List Str} {er : List (Str × Nat)} (ok : okN ps er) : ∀ t : Tr, okS ps er t → 10 ∉ tl (xS t)
  | .letter a b c, h => nl_app (nl_app (nl_app (nl_app (nl_name (ok.p a h.1)) (by decide +kernel)) (nl_name (ok.p b h.2.1))) (by decide +kernel)) (nl_name h.2.2.2)
  | .use n qs, h => by
    obtain ⟨o1, _, _, o4⟩ := okS_use ok h
    exact nl_app (by decide +kernel) (nl_xC o1 o4)
  | .loop b, h => nl_app (nl_app (by decide +kernel) (nl_join (by decide +kernel) (nlL ok b h))) (by decide +kernel)
  | .br v bs, h => nl_app (nl_app (nl_app (by cases v <;> decide +kernel) (by decide +kernel)) (nl_join (by decide +kernel) (nlBs ok bs h.2.2))) (by decide +kernel)
theorem nlL {ps : List Str} {er : List (Str × Nat)} (ok : okN ps er) : ∀ b : List Tr, okB ps er b → ∀ y ∈ xL b, 10 ∉ tl y
  | [], _, y, hy => by cases hy
  | s :: b, h, y, hy => by
    rcases List.mem_cons.mp (show y ∈ xS s :: xL b from hy) with rfl | hy
    · exact nlS ok s h.1
    · exact nlL ok b h.2 y hy
theorem nlBs {ps : List Str} {er : List (Str × Nat)} (ok : okN ps er) : ∀ bs : List (List Tr), okBs ps er bs → ∀ y ∈ xBs bs, 10 ∉ tl y
  | [], _, y, hy => by cases hy
  | b :: bs, h, y, hy => by
    rcases List.mem_cons.mp (show y ∈ xB b :: xBs bs from hy) with rfl | hy
    · exact nl_join (by decide +kernel) (nlL ok b h.1)
    · exact nlBs ok bs h.2 y hy
end
theorem nlP {room : Int} {er : List (Str × Nat)} {P : Pct} (h : okP room er P) (he : erOk er) : 10 ∉ tl (xP P) := by
  have ok : okN P.ps er := ⟨h.pa, h.pl, he⟩
  unfold xP
  refine nl_join (by decide +kernel) fun y hy => ?_
  unfold xPw at hy
  split at hy
  · simp only [List.mem_cons, List.mem_nil_iff, or_false] at hy
    rcases hy with rfl | rfl | rfl
    · decide +kernel
    · exact nl_xC h.n h.pa
    · decide +kernel
  · simp only [List.mem_cons, List.mem_nil_iff, or_false] at hy
    rcases hy with rfl | rfl | rfl | rfl
    · decide +kernel
    · exact nl_xC h.n h.pa
    · exact nl_join (by decide +kernel) (nlL ok P.body h.b)
    · decide +kernel
theorem cnt_joinL : ∀ {ps : List (List Nat)}, (∀ p ∈ ps, 10 ∉ p) → (TL.joinL [10] ps).count 10 = ps.length - 1
  | [], _ => rfl
  | [p], h => List.count_eq_zero.mpr (h p (List.mem_cons_self ..))
  | p :: q :: r, h => by
    have ih := cnt_joinL (ps := q :: r) fun x hx => h x (List.mem_cons_of_mem _ hx)
    show (p ++ ([10] ++ TL.joinL [10] (q :: r))).count 10 = _
    rw [List.count_append, List.count_append, ih, List.count_eq_zero.mpr (h p (List.mem_cons_self ..))]
    simp only [List.length_cons, List.count_singleton_self]; omega
theorem nl_count {room : Int} {bk : List Pct} (h : okBk room bk) : (tl (xBk bk)).count 10 = bk.length - 1 := by
  unfold xBk
  rw [tl_tjoin]
  have e : tl "\n" = [10] := by decide +kernel
  rw [e, cnt_joinL, List.length_map, List.length_map]
  intro p hp
  obtain ⟨y, hy, rfl⟩ := List.mem_map.mp hp
  obtain ⟨P, hP, rfl⟩ := List.mem_map.mp hy
  obtain ⟨j, hj⟩ := List.mem_iff_getElem?.mp hP
  exact nlP (h j P hj) (erOk_of h j)
/-! ### one row of tokens for one text -/
def nextW (L : List Nat) : List Nat := match L with
  | [] => []
  | c :: r => if low c then (c :: r).takeWhile fun x => decide (run x) else if c = 45 then [45, 62] else [c]
theorem tw_run {a b : List Nat} (ha : ∀ x ∈ a, run x) (hb : ∀ c r, b = c :: r → ¬ run c) : (a ++ b).takeWhile (fun x => decide (run x)) = a := by
  induction a with
  | nil =>
    cases b with
    | nil => rfl
    | cons c r => rw [List.nil_append, List.takeWhile_cons, decide_eq_false (hb c r rfl)]; rfl
  | cons x a ih =>
    rw [List.cons_append, List.takeWhile_cons, decide_eq_true (ha x (List.mem_cons_self ..))]
    show x :: _ = _
    rw [ih fun y hy => ha y (List.mem_cons_of_mem _ hy)]
theorem next_of {w : Str} {l : List Nat} (hw : tokW w) (hl : isRunTok w → ∀ c r, l = c :: r → ¬ run c) : nextW (tl w ++ l) = tl w := by
  rcases hw with hr | hm | rfl
  · have hl := hl hr
    obtain ⟨c, r, e, hc, hrr, _⟩ := hr
    rw [e]
    show (if low c then (c :: (r ++ l)).takeWhile (fun x => decide (run x)) else _) = _
    rw [if_pos hc]
    exact tw_run (a := c :: r) (fun x hx => by
      rcases List.mem_cons.mp hx with rfl | hx
      · exact .inl hc
      · exact hrr x hx) hl
  · obtain ⟨c, rfl, _, hc, _, _, hm, _⟩ := marks_ok hm
    show (if low c then _ else if c = 45 then [45, 62] else [c]) = [c]
    rw [if_neg hc, if_neg]
    rintro rfl
    exact absurd hm (by decide +kernel)
  · rw [arrow_tl]; rfl
theorem toks_det {l : List Nat} {n : Nat} {ts : List (Str × Nat)} (h : Toks l n ts) : ∀ {ts'}, Toks l n ts' → ts = ts' := by
  induction h with
  | nil n =>
    intro ts' h2
    generalize e : ([] : List Nat) = L at h2
    cases h2 with
    | nil => rfl
    | blank _ _ => cases e
    | tok hw _ _ =>
      obtain ⟨c, r, e2, _⟩ := tok_first hw
      rw [e2] at e; cases e
  | @blank c l n ts hb _ ih =>
    intro ts' h2
    generalize e : c :: l = L at h2
    cases h2 with
    | nil => cases e
    | blank _ h3 => cases e; exact ih h3
    | tok hw _ _ =>
      obtain ⟨d, r, e2, hd⟩ := tok_first hw
      rw [e2] at e; cases e
      exact absurd hb hd
  | @tok w l n ts hw hl _ ih =>
    intro ts' h2
    generalize e : tl w ++ l = L at h2
    cases h2 with
    | nil =>
      obtain ⟨c, r, e2, _⟩ := tok_first hw
      rw [e2] at e; cases e
    | blank hb _ =>
      obtain ⟨d, r, e2, hd⟩ := tok_first hw
      rw [e2] at e; cases e
      exact absurd hb hd
    | @tok w' l' _ ts'' hw' hl' h3 =>
      have e1 := next_of hw hl
      have e2 := next_of hw' hl'
      rw [e, e2] at e1
      have ew : w' = w := tl_inj e1
      subst ew
      have el := List.append_cancel_left e
      subst el
      rw [ih h3]
/-! ### one tree for one row of words -/
theorem name_not_word {z : Str} (h : isName z) {w : Str} (hw : w ∈ wordsL) : z ≠ w := fun e => h.2 (e ▸ hw)
theorem name_not_mark {z : Str} (h : isName z) {w : Str} (hw : w ∈ marksS) : z ≠ w := fun e => name_notMark h (.inl (e ▸ hw))
theorem skn_inj : ∀ {qs qs' : List Str} {u u' : List Str}, (∀ q ∈ qs, isName q) → (∀ q ∈ qs', isName q) → sk "," (qs.map fun q => [q]) ++ (")" : Str) :: u = sk "," (qs'.map fun q => [q]) ++ (")" : Str) :: u' → qs = qs' ∧ u = u'
  | [], [], u, u', _, _, h => ⟨rfl, (List.cons.inj h).2⟩
  | [], q :: qs', u, u', _, _, h => by
    have h : (")" : Str) :: u = ("," : Str) :: (([q] ++ sk "," (qs'.map fun q => [q])) ++ (")" : Str) :: u') := h
    exact absurd (List.cons.inj h).1 (by decide +kernel)
  | q :: qs, [], u, u', _, _, h => by
    have h : ("," : Str) :: (([q] ++ sk "," (qs.map fun q => [q])) ++ (")" : Str) :: u) = (")" : Str) :: u' := h
    exact absurd (List.cons.inj h).1 (by decide +kernel)
  | q :: qs, q' :: qs', u, u', h1, h2, h => by
    have h : ("," : Str) :: q :: (sk "," (qs.map fun q => [q]) ++ (")" : Str) :: u) = ("," : Str) :: q' :: (sk "," (qs'.map fun q => [q]) ++ (")" : Str) :: u') := h
    obtain ⟨e1, h⟩ := List.cons.inj (List.cons.inj h).2
    obtain ⟨e2, e3⟩ := skn_inj (fun x hx => h1 x (List.mem_cons_of_mem _ hx)) (fun x hx => h2 x (List.mem_cons_of_mem _ hx)) h
    exact ⟨by rw [e1, e2], e3⟩
theorem wL_inj {qs qs' u u' : List Str} (h1 : ∀ q ∈ qs, isName q) (h2 : ∀ q ∈ qs', isName q) (h : wL qs ++ u = wL qs' ++ u') : qs = qs' ∧ u = u' := by
  unfold wL at h
  rw [List.cons_append, List.cons_append, List.append_assoc, List.append_assoc] at h
  have h := (List.cons.inj h).2
  cases qs with
  | nil =>
    cases qs' with
    | nil => exact ⟨rfl, (List.cons.inj (show (")" : Str) :: u = (")" : Str) :: u' from h)).2⟩
    | cons q' qs' =>
      have h : (")" : Str) :: u = q' :: _ := h
      exact absurd (List.cons.inj h).1.symm (name_not_mark (h2 q' (List.mem_cons_self ..)) m_rap)
  | cons q qs =>
    cases qs' with
    | nil =>
      have h : q :: _ = (")" : Str) :: u' := h
      exact absurd (List.cons.inj h).1 (name_not_mark (h1 q (List.mem_cons_self ..)) m_rap)
    | cons q' qs' =>
      have h : q :: (sk "," (qs.map fun q => [q]) ++ (")" : Str) :: u) = q' :: (sk "," (qs'.map fun q => [q]) ++ (")" : Str) :: u') := h
      obtain ⟨e1, h⟩ := List.cons.inj h
      obtain ⟨e2, e3⟩ := skn_inj (fun x hx => h1 x (List.mem_cons_of_mem _ hx)) (fun x hx => h2 x (List.mem_cons_of_mem _ hx)) h
      exact ⟨by rw [e1, e2], e3⟩
theorem brW_inj {v v' : Bool} (h : brW v = brW v') : v = v' := by
  cases v <;> cases v' <;> first | rfl | exact absurd h (by decide +kernel)
theorem brW_loop (v : Bool) : brW v ≠ "loop" ∧ brW v ≠ "use" ∧ brW v ∈ wordsL := by cases v <;> refine ⟨?_, ?_, ?_⟩ <;> decide +kernel
theorem stop_semi {w : Str} (h : stopW w) : w ≠ ";" := (stop_kind h).2.2
section
variable {ps ps' : List Str} {er er' : List (Str × Nat)}
theorem head_not_stop (ok : okN ps er) {t : Tr} (h : okS ps er t) {w : Str} (hw : stopW w) {x : Str} {xs : List Str} (e : pS t = x :: xs) : x ≠ w := fun z => by
  obtain ⟨y, ys, e', hy⟩ := pS_head ok h
  rw [e] at e'; cases e'
  subst z
  obtain ⟨h1, h2, _⟩ := stop_kind hw
  rcases hy with hy | hy
  · exact h1 (kind_name hy)
  · exact h2 hy
mutual
theorem pS_inj (ok : okN ps er) (ok' : okN ps' er') : ∀ (t t' : Tr) (u u' : List Str), okS ps er t → okS ps' er' t' → pS t ++ u = pS t' ++ u' → t = t' ∧ u = u'
  | .letter a b c, t', u, u', h, h', e => by
    cases t' with
    | letter a' b' c' =>
      have e : a :: ("->" : Str) :: b :: (":" : Str) :: c :: u = a' :: ("->" : Str) :: b' :: (":" : Str) :: c' :: u' := e
      simp only [List.cons.injEq, true_and] at e
      obtain ⟨rfl, rfl, rfl, rfl⟩ := e
      exact ⟨rfl, rfl⟩
    | use n qs =>
      have e : a :: _ = ("use" : Str) :: _ := e
      exact absurd (List.cons.inj e).1 (name_not_word (ok.p a h.1) (by decide +kernel))
    | loop b' =>
      have e : a :: _ = ("loop" : Str) :: _ := e
      exact absurd (List.cons.inj e).1 (name_not_word (ok.p a h.1) (by decide +kernel))
    | br v bs =>
      have e : a :: _ = brW v :: _ := e
      exact absurd (List.cons.inj e).1 (name_not_word (ok.p a h.1) (brW_loop v).2.2)
  | .use n qs, t', u, u', h, h', e => by
    cases t' with
    | letter a b c =>
      have e : ("use" : Str) :: _ = a :: _ := e
      exact absurd (List.cons.inj e).1.symm (name_not_word (ok'.p a h'.1) (by decide +kernel))
    | use n' qs' =>
      have e : ("use" : Str) :: n :: (wL qs ++ u) = ("use" : Str) :: n' :: (wL qs' ++ u') := e
      obtain ⟨e1, e⟩ := List.cons.inj (List.cons.inj e).2
      obtain ⟨e2, e3⟩ := wL_inj (okS_use ok h).2.2.2 (okS_use ok' h').2.2.2 e
      exact ⟨by rw [e1, e2], e3⟩
    | loop b' =>
      have e : ("use" : Str) :: _ = ("loop" : Str) :: _ := e
      exact absurd (List.cons.inj e).1 (by decide +kernel)
    | br v bs =>
      have e : ("use" : Str) :: _ = brW v :: _ := e
      exact absurd (List.cons.inj e).1.symm (brW_loop v).2.1
  | .loop b, t', u, u', h, h', e => by
    cases t' with
    | letter a b c =>
      have e : ("loop" : Str) :: _ = a :: _ := e
      exact absurd (List.cons.inj e).1.symm (name_not_word (ok'.p a h'.1) (by decide +kernel))
    | use n' qs' =>
      have e : ("loop" : Str) :: _ = ("use" : Str) :: _ := e
      exact absurd (List.cons.inj e).1 (by decide +kernel)
    | loop b' =>
      have e : ("loop" : Str) :: ("{" : Str) :: ((wB b ++ [("}" : Str)]) ++ u) = ("loop" : Str) :: ("{" : Str) :: ((wB b' ++ [("}" : Str)]) ++ u') := e
      have e := (List.cons.inj (List.cons.inj e).2).2
      rw [List.append_assoc, List.append_assoc] at e
      obtain ⟨e1, e2⟩ := (pB_inj ok ok' b).2 b' _ _ u u' h h' (.inl rfl) (.inl rfl) e
      exact ⟨by rw [e1], (List.cons.inj e2).2⟩
    | br v bs =>
      have e : ("loop" : Str) :: _ = brW v :: _ := e
      exact absurd (List.cons.inj e).1.symm (brW_loop v).1
  | .br v bs, t', u, u', h, h', e => by
    cases t' with
    | letter a b c =>
      have e : brW v :: _ = a :: _ := e
      exact absurd (List.cons.inj e).1.symm (name_not_word (ok'.p a h'.1) (brW_loop v).2.2)
    | use n' qs' =>
      have e : brW v :: _ = ("use" : Str) :: _ := e
      exact absurd (List.cons.inj e).1 (brW_loop v).2.1
    | loop b' =>
      have e : brW v :: _ = ("loop" : Str) :: _ := e
      exact absurd (List.cons.inj e).1 (brW_loop v).1
    | br v' bs' =>
      have e : brW v :: ("{" : Str) :: ((sj "|" (pBs bs) ++ [("}" : Str)]) ++ u) = brW v' :: ("{" : Str) :: ((sj "|" (pBs bs') ++ [("}" : Str)]) ++ u') := e
      have e0 := brW_inj (List.cons.inj e).1
      have e := (List.cons.inj (List.cons.inj e).2).2
      rw [List.append_assoc, List.append_assoc] at e
      obtain ⟨e1, e2⟩ := (pBs_inj ok ok' bs).2 bs' u u' h.1 h'.1 h.2.2 h'.2.2 e
      exact ⟨by rw [e0, e1], e2⟩
theorem pB_inj (ok : okN ps er) (ok' : okN ps' er') : ∀ b : List Tr,
    (∀ b' w w' u u', okB ps er b → okB ps' er' b' → stopW w → stopW w' → sk ";" (pB b) ++ w :: u = sk ";" (pB b') ++ w' :: u' → b = b' ∧ w :: u = w' :: u') ∧
    (∀ b' w w' u u', okB ps er b → okB ps' er' b' → stopW w → stopW w' → wB b ++ w :: u = wB b' ++ w' :: u' → b = b' ∧ w :: u = w' :: u')
  | [] => by
    refine ⟨fun b' w w' u u' h h' hw hw' e => ?_, fun b' w w' u u' h h' hw hw' e => ?_⟩
    · cases b' with
      | nil => exact ⟨rfl, e⟩
      | cons s b' =>
        have e : w :: u = (";" : Str) :: _ := e
        exact absurd (List.cons.inj e).1 (stop_semi hw)
    · cases b' with
      | nil => exact ⟨rfl, e⟩
      | cons s b' =>
        obtain ⟨x, xs, ex, _⟩ := pS_head ok' h'.1
        have e : w :: u = (pS s ++ sk ";" (pB b')) ++ w' :: u' := e
        rw [ex] at e
        exact absurd (List.cons.inj e).1.symm (head_not_stop ok' h'.1 hw ex)
  | s :: b => by
    have key : ∀ s' b' w w' u u', okB ps er (s :: b) → okB ps' er' (s' :: b') → stopW w → stopW w' → pS s ++ (sk ";" (pB b) ++ w :: u) = pS s' ++ (sk ";" (pB b') ++ w' :: u') → s :: b = s' :: b' ∧ w :: u = w' :: u' := by
      intro s' b' w w' u u' h h' hw hw' e
      obtain ⟨e1, e2⟩ := pS_inj ok ok' s s' _ _ h.1 h'.1 e
      obtain ⟨e3, e4⟩ := (pB_inj ok ok' b).1 b' w w' u u' h.2 h'.2 hw hw' e2
      exact ⟨by rw [e1, e3], e4⟩
    refine ⟨fun b' w w' u u' h h' hw hw' e => ?_, fun b' w w' u u' h h' hw hw' e => ?_⟩
    · cases b' with
      | nil =>
        have e : (";" : Str) :: _ = w' :: u' := e
        exact absurd (List.cons.inj e).1.symm (stop_semi hw')
      | cons s' b' =>
        have e : (";" : Str) :: ((pS s ++ sk ";" (pB b)) ++ w :: u) = (";" : Str) :: ((pS s' ++ sk ";" (pB b')) ++ w' :: u') := e
        have e := (List.cons.inj e).2
        rw [List.append_assoc, List.append_assoc] at e
        exact key s' b' w w' u u' h h' hw hw' e
    · cases b' with
      | nil =>
        obtain ⟨x, xs, ex, _⟩ := pS_head ok h.1
        have e : (pS s ++ sk ";" (pB b)) ++ w :: u = w' :: u' := e
        rw [ex] at e
        exact absurd (List.cons.inj e).1 (head_not_stop ok h.1 hw' ex)
      | cons s' b' =>
        have e : (pS s ++ sk ";" (pB b)) ++ w :: u = (pS s' ++ sk ";" (pB b')) ++ w' :: u' := e
        rw [List.append_assoc, List.append_assoc] at e
        exact key s' b' w w' u u' h h' hw hw' e
theorem pBs_inj (ok : okN ps er) (ok' : okN ps' er') : ∀ bs : List (List Tr),
    (∀ bs' u u', okBs ps er bs → okBs ps' er' bs' → sk "|" (pBs bs) ++ (("}" : Str) :: u) = sk "|" (pBs bs') ++ (("}" : Str) :: u') → bs = bs' ∧ u = u') ∧
    (∀ bs' u u', bs ≠ [] → bs' ≠ [] → okBs ps er bs → okBs ps' er' bs' → sj "|" (pBs bs) ++ (("}" : Str) :: u) = sj "|" (pBs bs') ++ (("}" : Str) :: u') → bs = bs' ∧ u = u')
  | [] => by
    refine ⟨fun bs' u u' h h' e => ?_, fun bs' u u' h0 => absurd rfl h0⟩
    cases bs' with
    | nil => exact ⟨rfl, (List.cons.inj e).2⟩
    | cons b' bs' =>
      have e : ("}" : Str) :: u = ("|" : Str) :: _ := e
      exact absurd (List.cons.inj e).1 (by decide +kernel)
  | b :: bs => by
    have key : ∀ b' bs' u u', okBs ps er (b :: bs) → okBs ps' er' (b' :: bs') → wB b ++ (sk "|" (pBs bs) ++ (("}" : Str) :: u)) = wB b' ++ (sk "|" (pBs bs') ++ (("}" : Str) :: u')) → b :: bs = b' :: bs' ∧ u = u' := by
      intro b' bs' u u' h h' e
      obtain ⟨w, ws, ew, hw⟩ := bars_stop bs
      obtain ⟨w', ws', ew', hw'⟩ := bars_stop bs'
      have e5 : sk "|" (pBs bs) ++ (("}" : Str) :: u) = w :: (ws ++ u) := by
        show sk "|" (pBs bs) ++ ([("}" : Str)] ++ u) = _
        rw [← List.append_assoc, ew]; rfl
      have e6 : sk "|" (pBs bs') ++ (("}" : Str) :: u') = w' :: (ws' ++ u') := by
        show sk "|" (pBs bs') ++ ([("}" : Str)] ++ u') = _
        rw [← List.append_assoc, ew']; rfl
      rw [e5, e6] at e
      obtain ⟨e1, e2⟩ := (pB_inj ok ok' b).2 b' w w' _ _ h.1 h'.1 hw hw' e
      rw [← e5, ← e6] at e2
      obtain ⟨e3, e4⟩ := (pBs_inj ok ok' bs).1 bs' u u' h.2 h'.2 e2
      exact ⟨by rw [e1, e3], e4⟩
    refine ⟨fun bs' u u' h h' e => ?_, fun bs' u u' h0 h0' h h' e => ?_⟩
    · cases bs' with
      | nil =>
        have e : ("|" : Str) :: _ = ("}" : Str) :: u' := e
        exact absurd (List.cons.inj e).1 (by decide +kernel)
      | cons b' bs' =>
        have e : ("|" : Str) :: ((wB b ++ sk "|" (pBs bs)) ++ (("}" : Str) :: u)) = ("|" : Str) :: ((wB b' ++ sk "|" (pBs bs')) ++ (("}" : Str) :: u')) := e
        have e := (List.cons.inj e).2
        rw [List.append_assoc, List.append_assoc] at e
        exact key b' bs' u u' h h' e
    · cases bs' with
      | nil => exact absurd rfl h0'
      | cons b' bs' =>
        have e : (wB b ++ sk "|" (pBs bs)) ++ (("}" : Str) :: u) = (wB b' ++ sk "|" (pBs bs')) ++ (("}" : Str) :: u') := e
        rw [List.append_assoc, List.append_assoc] at e
        exact key b' bs' u u' h h' e
end
end
theorem wP_inj {room room' : Int} {er er' : List (Str × Nat)} {P P' : Pct} {u u' : List Str} (h : okP room er P) (h' : okP room' er' P') (he : erOk er) (he' : erOk er') (e : wP P ++ u = wP P' ++ u') : P = P' ∧ u = u' := by
  have ok : okN P.ps er := ⟨h.pa, h.pl, he⟩
  have ok' : okN P'.ps er' := ⟨h'.pa, h'.pl, he'⟩
  have e : ("pact" : Str) :: P.name :: ((wL P.ps ++ (wB P.body ++ [("end" : Str)])) ++ u) = ("pact" : Str) :: P'.name :: ((wL P'.ps ++ (wB P'.body ++ [("end" : Str)])) ++ u') := e
  obtain ⟨e1, e⟩ := List.cons.inj (List.cons.inj e).2
  rw [List.append_assoc, List.append_assoc, List.append_assoc, List.append_assoc] at e
  obtain ⟨e2, e⟩ := wL_inj h.pa h'.pa e
  obtain ⟨e3, e4⟩ := (pB_inj ok ok' P.body).2 P'.body _ _ u u' h.b h'.b (.inr (.inr rfl)) (.inr (.inr rfl)) e
  obtain ⟨n, q, b⟩ := P
  obtain ⟨n', q', b'⟩ := P'
  cases e1; cases e2; cases e3
  exact ⟨rfl, (List.cons.inj e4).2⟩
def okPs (room : Int) (bk : List Pct) : Prop := ∀ P ∈ bk, ∃ er, okP room er P ∧ erOk er
theorem okBk.ps {room : Int} {bk : List Pct} (h : okBk room bk) : okPs room bk := fun P hP => by
  obtain ⟨j, hj⟩ := List.mem_iff_getElem?.mp hP
  exact ⟨_, h j P hj, erOk_of h j⟩
theorem wBk_inj {room room' : Int} : ∀ {bk bk' : List Pct}, okPs room bk → okPs room' bk' → wBk bk = wBk bk' → bk = bk'
  | [], [], _, _, _ => rfl
  | [], P' :: bk', _, _, e => by
    have e : ([] : List Str) = wP P' ++ wBk bk' := e
    cases e
  | P :: bk, [], _, _, e => by
    have e : wP P ++ wBk bk = [] := e
    cases e
  | P :: bk, P' :: bk', h, h', e => by
    have e : wP P ++ wBk bk = wP P' ++ wBk bk' := e
    obtain ⟨er, h1, h2⟩ := h P (List.mem_cons_self ..)
    obtain ⟨er', h3, h4⟩ := h' P' (List.mem_cons_self ..)
    obtain ⟨e1, e2⟩ := wP_inj h1 h3 h2 h4 e
    rw [e1, wBk_inj (fun Q hQ => h Q (List.mem_cons_of_mem _ hQ)) (fun Q hQ => h' Q (List.mem_cons_of_mem _ hQ)) e2]
theorem xBk_inj {room room' : Int} {bk bk' : List Pct} (h : okBk room bk) (h' : okBk room' bk') (e : xBk bk = xBk bk') : bk = bk' := by
  obtain ⟨ts, t1, t2⟩ := toks_printed h
  obtain ⟨ts', t3, t4⟩ := toks_printed h'
  rw [e] at t1
  have := toks_det t1 t3
  subst this
  exact wBk_inj h.ps h'.ps (t2.symm.trans t4)
/-! ### equal data -/
mutual
def plD : PyData → Bool
  | .str _ => true
  | .tuple ds => plL ds
  | .list ds => plL ds
  | _ => false
def plL : List PyData → Bool
  | [] => true
  | d :: ds => plD d && plL ds
end
mutual
theorem eqv_pl : ∀ x y : PyData, plD x = true → plD y = true → (PyData.eqv x y = true ↔ x = y)
  | .str a, y, _, hy => by
    cases y with
    | str b =>
      show (a == b) = true ↔ _
      rw [beq_iff_eq]
      exact ⟨fun e => by rw [e], fun e => by cases e; rfl⟩
    | tuple b => exact ⟨fun e => (by cases (show false = true from e)), fun e => by cases e⟩
    | list b => exact ⟨fun e => (by cases (show false = true from e)), fun e => by cases e⟩
    | none => cases hy
    | bool b => cases hy
    | int b => cases hy
    | dict b => cases hy
  | .tuple xs, y, hx, hy => by
    cases y with
    | tuple ys =>
      have := eqvAll_pl xs ys hx hy
      exact ⟨fun e => by rw [this.mp e], fun e => this.mpr (by cases e; rfl)⟩
    | str b => exact ⟨fun e => (by cases (show false = true from e)), fun e => by cases e⟩
    | list b => exact ⟨fun e => (by cases (show false = true from e)), fun e => by cases e⟩
    | none => cases hy
    | bool b => cases hy
    | int b => cases hy
    | dict b => cases hy
  | .list xs, y, hx, hy => by
    cases y with
    | list ys =>
      have := eqvAll_pl xs ys hx hy
      exact ⟨fun e => by rw [this.mp e], fun e => this.mpr (by cases e; rfl)⟩
    | str b => exact ⟨fun e => (by cases (show false = true from e)), fun e => by cases e⟩
    | tuple b => exact ⟨fun e => (by cases (show false = true from e)), fun e => by cases e⟩
    | none => cases hy
    | bool b => cases hy
    | int b => cases hy
    | dict b => cases hy
  | .none, _, hx, _ => by cases hx
  | .bool _, _, hx, _ => by cases hx
  | .int _, _, hx, _ => by cases hx
  | .dict _, _, hx, _ => by cases hx
theorem eqvAll_pl : ∀ xs ys : List PyData, plL xs = true → plL ys = true → (PyData.eqvAll xs ys = true ↔ xs = ys)
  | [], [], _, _ => ⟨fun _ => rfl, fun _ => rfl⟩
  | [], y :: ys, _, _ => ⟨fun e => (by cases (show false = true from e)), fun e => by cases e⟩
  | x :: xs, [], _, _ => ⟨fun e => (by cases (show false = true from e)), fun e => by cases e⟩
  | x :: xs, y :: ys, hx, hy => by
    have hx : (plD x && plL xs) = true := hx
    have hy : (plD y && plL ys) = true := hy
    rw [Bool.and_eq_true] at hx hy
    show (PyData.eqv x y && PyData.eqvAll xs ys) = true ↔ _
    rw [Bool.and_eq_true, eqv_pl x y hx.1 hy.1, eqvAll_pl xs ys hx.2 hy.2]
    exact ⟨fun e => by rw [e.1, e.2], fun e => by cases e; exact ⟨rfl, rfl⟩⟩
end
theorem plL_all {ds : List PyData} (h : ∀ d ∈ ds, plD d = true) : plL ds = true := by
  induction ds with
  | nil => rfl
  | cons d ds ih =>
    show (plD d && plL ds) = true
    rw [h d (List.mem_cons_self ..), ih fun x hx => h x (List.mem_cons_of_mem _ hx)]; rfl
theorem plL_strs (qs : List Str) : plL (qs.map .str) = true := plL_all fun d hd => by obtain ⟨q, _, rfl⟩ := List.mem_map.mp hd; rfl
mutual
theorem pl_dS : ∀ t : Tr, plD (dS t) = true
  | .letter a b c => rfl
  | .use n qs => by
    show (true && (true && (plL (qs.map .str) && true))) = true
    rw [plL_strs]; rfl
  | .loop b => by
    show (true && (plL (dB b) && true)) = true
    rw [pl_dB b]; rfl
  | .br v bs => by
    show (true && (plL (dBs bs) && true)) = true
    rw [pl_dBs bs]; rfl
theorem pl_dB : ∀ b : List Tr, plL (dB b) = true
  | [] => rfl
  | s :: b => by
    show (plD (dS s) && plL (dB b)) = true
    rw [pl_dS s, pl_dB b]; rfl
theorem pl_dBs : ∀ bs : List (List Tr), plL (dBs bs) = true
  | [] => rfl
  | b :: bs => by
    show (plL (dB b) && plL (dBs bs)) = true
    rw [pl_dB b, pl_dBs bs]; rfl
end
theorem pl_book (bk : List Pct) : plD (.list (bk.map pctD)) = true := plL_all fun d hd => by
  obtain ⟨P, _, rfl⟩ := List.mem_map.mp hd
  show (true && (true && (plL (P.ps.map .str) && (plL (dB P.body) && true)))) = true
  rw [plL_strs, pl_dB]; rfl
theorem strs_inj : ∀ {qs qs' : List Str}, qs.map PyData.str = qs'.map PyData.str → qs = qs'
  | [], [], _ => rfl
  | [], _ :: _, e => by cases e
  | _ :: _, [], e => by cases e
  | q :: qs, q' :: qs', e => by
    obtain ⟨e1, e2⟩ := List.cons.inj (show PyData.str q :: qs.map .str = .str q' :: qs'.map .str from e)
    cases e1
    rw [strs_inj e2]
theorem tup_len {xs ys : List PyData} (e : PyData.tuple xs = .tuple ys) : xs.length = ys.length := by cases e; rfl
mutual
theorem dS_inj : ∀ t t' : Tr, dS t = dS t' → t = t'
  | .letter a b c, t', e => by
    cases t' with
    | letter a' b' c' =>
      have e : PyData.tuple [.str "letter", .str a, .str b, .str c] = .tuple [.str "letter", .str a', .str b', .str c'] := e
      simp only [PyData.tuple.injEq, List.cons.injEq, PyData.str.injEq, true_and, and_true] at e
      obtain ⟨rfl, rfl, rfl⟩ := e; rfl
    | use n qs => exact absurd (tup_len (show PyData.tuple [_, _, _, _] = .tuple [_, _, _] from e)) (by simp)
    | loop b' => exact absurd (tup_len (show PyData.tuple [_, _, _, _] = .tuple [_, _] from e)) (by simp)
    | br v bs => exact absurd (tup_len (show PyData.tuple [_, _, _, _] = .tuple [_, _] from e)) (by simp)
  | .use n qs, t', e => by
    cases t' with
    | letter a b c => exact absurd (tup_len (show PyData.tuple [_, _, _] = .tuple [_, _, _, _] from e)) (by simp)
    | use n' qs' =>
      have e : PyData.tuple [.str "use", .str n, .tuple (qs.map .str)] = .tuple [.str "use", .str n', .tuple (qs'.map .str)] := e
      simp only [PyData.tuple.injEq, List.cons.injEq, PyData.str.injEq, true_and, and_true] at e
      obtain ⟨rfl, e3⟩ := e
      rw [strs_inj e3]
    | loop b' => exact absurd (tup_len (show PyData.tuple [_, _, _] = .tuple [_, _] from e)) (by simp)
    | br v bs => exact absurd (tup_len (show PyData.tuple [_, _, _] = .tuple [_, _] from e)) (by simp)
  | .loop b, t', e => by
    cases t' with
    | letter a b c => exact absurd (tup_len (show PyData.tuple [_, _] = .tuple [_, _, _, _] from e)) (by simp)
    | use n' qs' => exact absurd (tup_len (show PyData.tuple [_, _] = .tuple [_, _, _] from e)) (by simp)
    | loop b' =>
      have e : PyData.tuple [.str "loop", .tuple (dB b)] = .tuple [.str "loop", .tuple (dB b')] := e
      simp only [PyData.tuple.injEq, List.cons.injEq, true_and, and_true] at e
      rw [dB_inj b b' e]
    | br v bs =>
      have e : PyData.tuple [.str "loop", .tuple (dB b)] = .tuple [.str (brW v), .tuple (dBs bs)] := e
      simp only [PyData.tuple.injEq, List.cons.injEq, PyData.str.injEq] at e
      exact absurd e.1.symm (brW_loop v).1
  | .br v bs, t', e => by
    cases t' with
    | letter a b c => exact absurd (tup_len (show PyData.tuple [_, _] = .tuple [_, _, _, _] from e)) (by simp)
    | use n' qs' => exact absurd (tup_len (show PyData.tuple [_, _] = .tuple [_, _, _] from e)) (by simp)
    | loop b' =>
      have e : PyData.tuple [.str (brW v), .tuple (dBs bs)] = .tuple [.str "loop", .tuple (dB b')] := e
      simp only [PyData.tuple.injEq, List.cons.injEq, PyData.str.injEq] at e
      exact absurd e.1 (brW_loop v).1
    | br v' bs' =>
      have e : PyData.tuple [.str (brW v), .tuple (dBs bs)] = .tuple [.str (brW v'), .tuple (dBs bs')] := e
      simp only [PyData.tuple.injEq, List.cons.injEq, PyData.str.injEq, and_true] at e
      rw [brW_inj e.1, dBs_inj bs bs' e.2]
theorem dB_inj : ∀ b b' : List Tr, dB b = dB b' → b = b'
  | [], [], _ => rfl
  | [], _ :: _, e => by cases e
  | _ :: _, [], e => by cases e
  | s :: b, s' :: b', e => by
    obtain ⟨e1, e2⟩ := List.cons.inj (show dS s :: dB b = dS s' :: dB b' from e)
    rw [dS_inj s s' e1, dB_inj b b' e2]
theorem dBs_inj : ∀ bs bs' : List (List Tr), dBs bs = dBs bs' → bs = bs'
  | [], [], _ => rfl
  | [], _ :: _, e => by cases e
  | _ :: _, [], e => by cases e
  | b :: bs, b' :: bs', e => by
    obtain ⟨e1, e2⟩ := List.cons.inj (show PyData.tuple (dB b) :: dBs bs = .tuple (dB b') :: dBs bs' from e)
    rw [dB_inj b b' (PyData.tuple.inj e1), dBs_inj bs bs' e2]
end
theorem book_inj : ∀ {bk bk' : List Pct}, bk.map pctD = bk'.map pctD → bk = bk'
  | [], [], _ => rfl
  | [], _ :: _, e => by cases e
  | _ :: _, [], e => by cases e
  | P :: bk, P' :: bk', e => by
    obtain ⟨e1, e2⟩ := List.cons.inj (show pctD P :: bk.map pctD = pctD P' :: bk'.map pctD from e)
    obtain ⟨n, q, b⟩ := P
    obtain ⟨n', q', b'⟩ := P'
    have e1 : PyData.tuple [.str "pact", .str n, .tuple (q.map .str), .tuple (dB b)] = .tuple [.str "pact", .str n', .tuple (q'.map .str), .tuple (dB b')] := e1
    simp only [PyData.tuple.injEq, List.cons.injEq, PyData.str.injEq, true_and, and_true] at e1
    obtain ⟨rfl, h2, h3⟩ := e1
    rw [strs_inj h2, dB_inj b b' h3, book_inj e2]
theorem eqv_book {room room' : Int} {bk bk' : List Pct} (h : okBk room bk) (h' : okBk room' bk') : PyData.eqv (.list (bk.map pctD)) (.list (bk'.map pctD)) = decide (xBk bk = xBk bk') := by
  rw [Bool.eq_iff_iff, eqv_pl _ _ (pl_book bk) (pl_book bk'), decide_eq_true_eq]
  exact ⟨fun e => by rw [book_inj (PyData.list.inj e)], fun e => by rw [xBk_inj h h' e]⟩
/-! data that a comparison may look at -/
theorem layL {ds : List PyData} (h : ∀ d ∈ ds, d.canLay0 = true) : PyData.canLayAll0 ds = true := by
  induction ds with
  | nil => rfl
  | cons d ds ih =>
    simp only [PyData.canLayAll0, h d (List.mem_cons_self ..), ih fun x hx => h x (List.mem_cons_of_mem _ hx), Bool.and_true]
theorem depL {n : Nat} {ds : List PyData} (h : ∀ d ∈ ds, d.depth ≤ n) : PyData.depthAll ds ≤ n := by
  induction ds with
  | nil => exact Nat.zero_le _
  | cons d ds ih =>
    simp only [PyData.depthAll]
    have := h d (List.mem_cons_self ..)
    have := ih fun x hx => h x (List.mem_cons_of_mem _ hx)
    omega
theorem shp_str {n : Nat} {z : Str} (h : PyData.strOk z = true) : (PyData.str z).canLay0 = true ∧ (PyData.str z).depth ≤ n + 1 := by
  simp [PyData.canLay0, PyData.depth, h]
theorem shp_tup {n : Nat} {ds : List PyData} (h : ∀ d ∈ ds, d.canLay0 = true ∧ d.depth ≤ n) : (PyData.tuple ds).canLay0 = true ∧ (PyData.tuple ds).depth ≤ n + 1 := by
  have h1 := layL fun d hd => (h d hd).1
  have h2 := depL fun d hd => (h d hd).2
  simp only [PyData.canLay0, PyData.depth]
  exact ⟨h1, by omega⟩
theorem shp_list {n : Nat} {ds : List PyData} (h : ∀ d ∈ ds, d.canLay0 = true ∧ d.depth ≤ n) : (PyData.list ds).canLay0 = true ∧ (PyData.list ds).depth ≤ n + 1 := by
  have h1 := layL fun d hd => (h d hd).1
  have h2 := depL fun d hd => (h d hd).2
  simp only [PyData.canLay0, PyData.depth]
  exact ⟨h1, by omega⟩
theorem name_ok {z : Str} (h : isName z) : PyData.strOk z = true := tokW_ok (name_tok h)
mutual
theorem shS {ps : List Str} {er : List (Str × Nat)} (ok : okN ps er) : ∀ (t : Tr) (n : Nat), okS ps er t → 3 * dpS t + 3 ≤ n → (dS t).canLay0 = true ∧ (dS t).depth ≤ n
  | .letter a b c, n, h, hn => by
    obtain ⟨m, rfl⟩ : ∃ m, n = m + 2 := ⟨n - 2, by omega⟩
    refine shp_tup fun d hd => ?_
    simp only [List.mem_cons, List.mem_nil_iff, or_false] at hd
    rcases hd with rfl | rfl | rfl | rfl
    · exact shp_str (by decide +kernel)
    · exact shp_str (name_ok (ok.p _ h.1))
    · exact shp_str (name_ok (ok.p _ h.2.1))
    · exact shp_str (name_ok h.2.2.2)
  | .use nn qs, n, h, hn => by
    obtain ⟨o1, _, _, o4⟩ := okS_use ok h
    obtain ⟨m, rfl⟩ : ∃ m, n = m + 3 := ⟨n - 3, by omega⟩
    refine shp_tup fun d hd => ?_
    simp only [List.mem_cons, List.mem_nil_iff, or_false] at hd
    rcases hd with rfl | rfl | rfl
    · exact shp_str (by decide +kernel)
    · exact shp_str (name_ok o1)
    · exact shp_tup fun d hd => by
        obtain ⟨q, hq, rfl⟩ := List.mem_map.mp hd
        exact shp_str (name_ok (o4 q hq))
  | .loop b, n, h, hn => by
    have hn : 3 * (dpB b + 1) + 3 ≤ n := hn
    obtain ⟨m, rfl⟩ : ∃ m, n = m + 3 := ⟨n - 3, by omega⟩
    refine shp_tup fun d hd => ?_
    simp only [List.mem_cons, List.mem_nil_iff, or_false] at hd
    rcases hd with rfl | rfl
    · exact shp_str (by decide +kernel)
    · exact shp_tup (shB ok b (m + 1) h (by omega))
  | .br v bs, n, h, hn => by
    have hn : 3 * (dpBs bs + 1) + 3 ≤ n := hn
    obtain ⟨m, rfl⟩ : ∃ m, n = m + 3 := ⟨n - 3, by omega⟩
    refine shp_tup fun d hd => ?_
    simp only [List.mem_cons, List.mem_nil_iff, or_false] at hd
    rcases hd with rfl | rfl
    · exact shp_str (by cases v <;> decide +kernel)
    · exact shp_tup (shBs ok bs m h.2.2 (by omega))
theorem shB {ps : List Str} {er : List (Str × Nat)} (ok : okN ps er) : ∀ (b : List Tr) (n : Nat), okB ps er b → 3 * dpB b + 3 ≤ n → ∀ d ∈ dB b, d.canLay0 = true ∧ d.depth ≤ n
  | [], _, _, _, d, hd => by cases hd
  | s :: b, n, h, hn, d, hd => by
    have hn : 3 * max (dpS s) (dpB b) + 3 ≤ n := hn
    rcases List.mem_cons.mp (show d ∈ dS s :: dB b from hd) with rfl | hd
    · exact shS ok s n h.1 (by omega)
    · exact shB ok b n h.2 (by omega) d hd
theorem shBs {ps : List Str} {er : List (Str × Nat)} (ok : okN ps er) : ∀ (bs : List (List Tr)) (n : Nat), okBs ps er bs → 3 * dpBs bs + 3 ≤ n → ∀ d ∈ dBs bs, d.canLay0 = true ∧ d.depth ≤ n + 1
  | [], _, _, _, d, hd => by cases hd
  | s :: b, n, h, hn, d, hd => by
    have hn : 3 * max (dpB s) (dpBs b) + 3 ≤ n := hn
    rcases List.mem_cons.mp (show d ∈ .tuple (dB s) :: dBs b from hd) with rfl | hd
    · exact shp_tup (shB ok s n h.1 (by omega))
    · exact shBs ok b n h.2 (by omega) d hd
end
theorem sh_book {room : Int} {bk : List Pct} (h : okBk room bk) : SeqAt.shaped (.list (bk.map pctD)) = true := by
  have key : (PyData.list (bk.map pctD)).canLay0 = true ∧ (PyData.list (bk.map pctD)).depth ≤ 29 + 1 := shp_list fun d hd => by
    obtain ⟨P, hP, rfl⟩ := List.mem_map.mp hd
    obtain ⟨j, hj⟩ := List.mem_iff_getElem?.mp hP
    have hp := h j P hj
    have ok : okN P.ps (earl (bk.take j)) := ⟨hp.pa, hp.pl, erOk_of h j⟩
    have hd := hp.d
    refine shp_tup (n := 28) fun d hd => ?_
    simp only [List.mem_cons, List.mem_nil_iff, or_false] at hd
    rcases hd with rfl | rfl | rfl | rfl
    · exact shp_str (by decide +kernel)
    · exact shp_str (name_ok hp.n)
    · exact shp_tup fun d hd => by
        obtain ⟨q, hq, rfl⟩ := List.mem_map.mp hd
        exact shp_str (name_ok (hp.pa q hq))
    · exact shp_tup (shB ok P.body 27 hp.b (by omega))
  unfold SeqAt.shaped
  rw [key.1, decide_eq_true (Nat.le_trans key.2 (by decide))]; rfl
end Com
set_option Elab.async false
set_option linter.all false
set_option maxRecDepth 100000
set_option maxHeartbeats 4000000
namespace K47
open PySem L2 Ab Com
def topS (i : Nat) : Stmt := PySem.Challenge.pw_pactloom_k47_tidied_bodies.main.body.getD i (.Pass ⟨0, 0, 0, 0⟩)
abbrev s__law_source : Stmt := topS 9
theorem sc__law_source : FnScope Com.N__law_source ["script"] (defScope s__law_source) := ⟨rfl, rfl, rfl, by decide +kernel, rfl, by decide +kernel, by decide +kernel⟩
abbrev s__law_pick : Stmt := topS 10
theorem sc__law_pick : FnScope Com.N__law_pick ["source", "many"] (defScope s__law_pick) := ⟨rfl, rfl, rfl, by decide +kernel, rfl, by decide +kernel, by decide +kernel⟩
abbrev s__law_name : Stmt := topS 11
theorem sc__law_name : FnScope Com.N__law_name ["source", "taken"] (defScope s__law_name) := ⟨rfl, rfl, rfl, by decide +kernel, rfl, by decide +kernel, by decide +kernel⟩
abbrev s__law_names : Stmt := topS 12
theorem sc__law_names : FnScope Com.N__law_names ["source", "many", "taken"] (defScope s__law_names) := ⟨rfl, rfl, rfl, by decide +kernel, rfl, by decide +kernel, by decide +kernel⟩
abbrev s__law_use : Stmt := topS 14
theorem sc__law_use : FnScope Com.N__law_use ["source", "world"] (defScope s__law_use) := ⟨rfl, rfl, rfl, by decide +kernel, rfl, by decide +kernel, by decide +kernel⟩
abbrev s__law_letter : Stmt := topS 13
theorem sc__law_letter : FnScope Com.N__law_letter ["source", "world"] (defScope s__law_letter) := ⟨rfl, rfl, rfl, by decide +kernel, rfl, by decide +kernel, by decide +kernel⟩
abbrev s__law_step : Stmt := topS 15
theorem sc__law_step : FnScope Com.N__law_step ["source", "world", "depth"] (defScope s__law_step) := ⟨rfl, rfl, rfl, by decide +kernel, rfl, by decide +kernel, by decide +kernel⟩
abbrev s__law_body : Stmt := topS 16
theorem sc__law_body : FnScope Com.N__law_body ["source", "world", "depth"] (defScope s__law_body) := ⟨rfl, rfl, rfl, by decide +kernel, rfl, by decide +kernel, by decide +kernel⟩
abbrev s__law_wrapped : Stmt := topS 21
abbrev N__law_wrapped : List Str := ["source", "body", "made", "k", "which"]
theorem sc__law_wrapped : FnScope N__law_wrapped ["source", "body"] (defScope s__law_wrapped) := ⟨rfl, rfl, rfl, by decide +kernel, rfl, by decide +kernel, by decide +kernel⟩
abbrev s__law_same : Stmt := topS 17
theorem sc__law_same : FnScope Com.N__law_same ["actual", "due"] (defScope s__law_same) := ⟨rfl, rfl, rfl, by decide +kernel, rfl, by decide +kernel, by decide +kernel⟩
abbrev s__is_one : Stmt := topS 7
abbrev N__is_one : List Str := ["body", "kind"]
theorem sc__is_one : FnScope N__is_one ["body", "kind"] (defScope s__is_one) := ⟨rfl, rfl, rfl, by decide +kernel, rfl, by decide +kernel, by decide +kernel⟩
abbrev s__loop_of : Stmt := topS 3
abbrev N__loop_of : List Str := ["body"]
theorem sc__loop_of : FnScope N__loop_of ["body"] (defScope s__loop_of) := ⟨rfl, rfl, rfl, by decide +kernel, rfl, by decide +kernel, by decide +kernel⟩
abbrev s__unwrapped : Stmt := topS 6
abbrev N__unwrapped : List Str := ["bodies", "kind", "unwrapped", "body"]
theorem sc__unwrapped : FnScope N__unwrapped ["bodies", "kind"] (defScope s__unwrapped) := ⟨rfl, rfl, rfl, by decide +kernel, rfl, by decide +kernel, by decide +kernel⟩
abbrev s__choice_of : Stmt := topS 4
abbrev N__choice_of : List Str := ["bodies", "left", "body"]
theorem sc__choice_of : FnScope N__choice_of ["bodies"] (defScope s__choice_of) := ⟨rfl, rfl, rfl, by decide +kernel, rfl, by decide +kernel, by decide +kernel⟩
abbrev s__both_of : Stmt := topS 5
abbrev N__both_of : List Str := ["bodies", "left", "body"]
theorem sc__both_of : FnScope N__both_of ["bodies"] (defScope s__both_of) := ⟨rfl, rfl, rfl, by decide +kernel, rfl, by decide +kernel, by decide +kernel⟩
abbrev s_tidy : Stmt := topS 1
abbrev N_tidy : List Str := ["body", "tidied", "step"]
theorem sc_tidy : FnScope N_tidy ["body"] (defScope s_tidy) := ⟨rfl, rfl, rfl, by decide +kernel, rfl, by decide +kernel, by decide +kernel⟩
abbrev s__tidy_step : Stmt := topS 2
abbrev N__tidy_step : List Str := ["step", "body"]
theorem sc__tidy_step : FnScope N__tidy_step ["step"] (defScope s__tidy_step) := ⟨rfl, rfl, rfl, by decide +kernel, rfl, by decide +kernel, by decide +kernel⟩
abbrev s__law_flat : Stmt := topS 18
abbrev N__law_flat : List Str := ["kind", "bodies", "flat", "body"]
theorem sc__law_flat : FnScope N__law_flat ["kind", "bodies"] (defScope s__law_flat) := ⟨rfl, rfl, rfl, by decide +kernel, rfl, by decide +kernel, by decide +kernel⟩
abbrev s__law_tidy_step : Stmt := topS 19
abbrev N__law_tidy_step : List Str := ["step", "body", "left", "k"]
theorem sc__law_tidy_step : FnScope N__law_tidy_step ["step"] (defScope s__law_tidy_step) := ⟨rfl, rfl, rfl, by decide +kernel, rfl, by decide +kernel, by decide +kernel⟩
abbrev s__law_tidy : Stmt := topS 20
abbrev N__law_tidy : List Str := ["body", "made", "step"]
theorem sc__law_tidy : FnScope N__law_tidy ["body"] (defScope s__law_tidy) := ⟨rfl, rfl, rfl, by decide +kernel, rfl, by decide +kernel, by decide +kernel⟩
abbrev s_law : Stmt := topS 22
abbrev N_law : List Str := ["script", "source", "k", "world", "body"]
theorem sc_law : FnScope N_law ["script"] (defScope s_law) := ⟨rfl, rfl, rfl, by decide +kernel, rfl, by decide +kernel, by decide +kernel⟩

/-! tidied trees -/
def wordT : Tr → Str
  | .letter _ _ _ => "letter"
  | .use _ _ => "use"
  | .loop _ => "loop"
  | .br v _ => brW v
def isOne (k : Str) : List Tr → Bool
  | [t] => decide (wordT t = k)
  | _ => false
def loopOf (b : List Tr) : List Tr := if b.isEmpty || isOne "loop" b then b else [.loop b]
def unw1 (v : Bool) : List Tr → List (List Tr)
  | [.br w bs] => if w = v then bs else [[.br w bs]]
  | b => [b]
def unw (v : Bool) : List (List Tr) → List (List Tr)
  | [] => []
  | b :: bs => unw1 v b ++ unw v bs
def inB (x : List Tr) (l : List (List Tr)) : Bool := l.any fun z => PyData.eqv (.tuple (dB z)) (.tuple (dB x))
def choL : List (List Tr) → List (List Tr) → List (List Tr)
  | acc, [] => acc
  | acc, x :: r => if inB x acc then choL acc r else choL (acc ++ [x]) r
def oneOr (v : Bool) : List (List Tr) → List Tr
  | [b] => b
  | l => [.br v l]
def choOf (bs : List (List Tr)) : List Tr := oneOr false (choL [] (unw false bs))
def bothL : List (List Tr) → List Tr
  | [] => []
  | [b] => b
  | l => [.br true l]
def botOf (bs : List (List Tr)) : List Tr := bothL ((unw true bs).filter fun b => !b.isEmpty)
mutual
def tidS : Tr → List Tr
  | .letter a b c => [.letter a b c]
  | .use n qs => [.use n qs]
  | .loop b => loopOf (tidB b)
  | .br false bs => choOf (tidBs bs)
  | .br true bs => botOf (tidBs bs)
def tidB : List Tr → List Tr
  | [] => []
  | t :: b => tidS t ++ tidB b
def tidBs : List (List Tr) → List (List Tr)
  | [] => []
  | b :: bs => tidB b :: tidBs bs
end
/-! names whose signs can stand, branches that are there; how large, how deep -/
mutual
def gS : Tr → Prop
  | .letter a b c => PyData.strOk a = true ∧ PyData.strOk b = true ∧ PyData.strOk c = true
  | .use n qs => PyData.strOk n = true ∧ (∀ q ∈ qs, PyData.strOk q = true) ∧ qs.length ≤ 10
  | .loop b => gB b
  | .br _ bs => bs ≠ [] ∧ gBs bs
def gB : List Tr → Prop
  | [] => True
  | t :: b => gS t ∧ gB b
def gBs : List (List Tr) → Prop
  | [] => True
  | b :: bs => gB b ∧ gBs bs
end
mutual
def mS : Tr → Nat
  | .letter _ _ _ => 1
  | .use _ _ => 1
  | .loop b => 1 + mB b
  | .br _ bs => 1 + mBs bs
def mB : List Tr → Nat
  | [] => 0
  | t :: b => mS t + mB b
def mBs : List (List Tr) → Nat
  | [] => 0
  | b :: bs => 1 + mB b + mBs bs
end
theorem mB_app : ∀ a b : List Tr, mB (a ++ b) = mB a + mB b
  | [], b => (Nat.zero_add _).symm
  | t :: a, b => by show mS t + mB (a ++ b) = mS t + mB a + mB b; rw [mB_app a b]; omega
theorem mBs_app : ∀ a b : List (List Tr), mBs (a ++ b) = mBs a + mBs b
  | [], b => (Nat.zero_add _).symm
  | t :: a, b => by show 1 + mB t + mBs (a ++ b) = 1 + mB t + mBs a + mBs b; rw [mBs_app a b]; omega
theorem gB_app : ∀ {a b : List Tr}, gB a → gB b → gB (a ++ b)
  | [], _, _, h => h
  | _ :: _, _, h1, h2 => ⟨h1.1, gB_app h1.2 h2⟩
theorem gBs_app : ∀ {a b : List (List Tr)}, gBs a → gBs b → gBs (a ++ b)
  | [], _, _, h => h
  | _ :: _, _, h1, h2 => ⟨h1.1, gBs_app h1.2 h2⟩
theorem gBs_all : ∀ {l : List (List Tr)}, gBs l ↔ ∀ b ∈ l, gB b
  | [] => ⟨fun _ b h => (by cases h), fun _ => trivial⟩
  | b :: l => ⟨fun h x hx => (List.mem_cons.mp hx).elim (fun e => e ▸ h.1) (gBs_all.mp h.2 x), fun h => ⟨h b (List.mem_cons_self ..), gBs_all.mpr fun x hx => h x (List.mem_cons_of_mem _ hx)⟩⟩
theorem gB_all : ∀ {l : List Tr}, gB l ↔ ∀ t ∈ l, gS t
  | [] => ⟨fun _ b h => (by cases h), fun _ => trivial⟩
  | b :: l => ⟨fun h x hx => (List.mem_cons.mp hx).elim (fun e => e ▸ h.1) (gB_all.mp h.2 x), fun h => ⟨h b (List.mem_cons_self ..), gB_all.mpr fun x hx => h x (List.mem_cons_of_mem _ hx)⟩⟩
theorem mBs_one {l : List (List Tr)} {b : List Tr} (h : b ∈ l) : 1 + mB b ≤ mBs l := by
  induction l with
  | nil => cases h
  | cons x l ih =>
    show _ ≤ 1 + mB x + mBs l
    rcases List.mem_cons.mp h with rfl | h
    · omega
    · have := ih h; omega
theorem len_mBs : ∀ l : List (List Tr), l.length ≤ mBs l
  | [] => Nat.le_refl _
  | b :: l => by show l.length + 1 ≤ 1 + mB b + mBs l; have := len_mBs l; omega
theorem mS_pos (t : Tr) : 1 ≤ mS t := by
  cases t with
  | letter a b c => exact Nat.le_refl _
  | use n qs => exact Nat.le_refl _
  | loop b => show 1 ≤ 1 + mB b; omega
  | br v bs => show 1 ≤ 1 + mBs bs; omega
theorem len_mB : ∀ l : List Tr, l.length ≤ mB l
  | [] => Nat.le_refl _
  | b :: l => by show l.length + 1 ≤ mS b + mB l; have := len_mB l; have := mS_pos b; omega
def F__is_one : FSp := fun as κ R _ => ∃ (b : List Tr) (k : Str), as = [.d (.tuple (dB b)), .d (.str k)] ∧ κ = [] ∧ R (.d (.bool (isOne k b))) []
def F__loop_of : FSp := fun as κ R _ => ∃ b : List Tr, as = [.d (.tuple (dB b))] ∧ κ = [] ∧ gB b ∧ dpB b ≤ 15 ∧ R (.d (.tuple (dB (loopOf b)))) []
def F__unwrapped : FSp := fun as κ R _ => ∃ (bs : List (List Tr)) (v : Bool), as = [.d (.list (dBs bs)), .d (.str (brW v))] ∧ κ = [] ∧ mBs bs ≤ 100000 ∧ R (.c 0) [.ld (dBs (unw v bs))]
def F__choice_of : FSp := fun as κ R _ => ∃ bs : List (List Tr), as = [.d (.list (dBs bs))] ∧ κ = [] ∧ gBs bs ∧ dpBs bs ≤ 15 ∧ mBs bs ≤ 100000 ∧ R (.d (.tuple (dB (choOf bs)))) []
def F__both_of : FSp := fun as κ R _ => ∃ bs : List (List Tr), as = [.d (.list (dBs bs))] ∧ κ = [] ∧ mBs bs ≤ 100000 ∧ R (.d (.tuple (dB (botOf bs)))) []
def FF_tidy (n : Nat) : FSp := fun as κ R _ => ∃ b : List Tr, as = [.d (.tuple (dB b))] ∧ κ = [] ∧ gB b ∧ dpB b ≤ 15 ∧ mB b ≤ 90000 ∧ 2 * dpB b + 2 ≤ n ∧ R (.d (.tuple (dB (tidB b)))) []
def FF__tidy_step (n : Nat) : FSp := fun as κ R _ => ∃ t : Tr, as = [.d (dS t)] ∧ κ = [] ∧ gS t ∧ dpS t ≤ 15 ∧ mS t ≤ 90000 ∧ 2 * dpS t + 1 ≤ n ∧ R (.d (.tuple (dB (tidS t)))) []
def F__law_flat : FSp := fun as κ R _ => ∃ (bs : List (List Tr)) (v : Bool), as = [.d (.str (brW v)), .d (.list (dBs bs))] ∧ κ = [] ∧ mBs bs ≤ 100000 ∧ R (.d (.list (dBs (unw v bs)))) []
def FF__law_tidy_step (n : Nat) : FSp := FF__tidy_step n
def FF__law_tidy (n : Nat) : FSp := FF_tidy n
def F__law_wrapped : FSp := fun as κ R _ => ∃ (s : Cell) (b : List Tr), as = [.c 0, .d (.tuple (dB b))] ∧ κ = [s] ∧ isSrc s ∧ gB b ∧ dpB b ≤ 8 ∧ mB b ≤ 50 ∧ ∀ b' s', isSrc s' → gB b' → dpB b' ≤ 12 → mB b' ≤ 5000 → R (.d (.tuple (dB b'))) [s']
variable {K : PySem.W.Frag}
mutual
theorem sgS : ∀ (t : Tr) (n : Nat), gS t → 3 * dpS t + 3 ≤ n → (dS t).canLay0 = true ∧ (dS t).depth ≤ n
  | .letter a b c, n, h, hn => by
    obtain ⟨m, rfl⟩ : ∃ m, n = m + 2 := ⟨n - 2, by omega⟩
    refine shp_tup fun d hd => ?_
    simp only [List.mem_cons, List.mem_nil_iff, or_false] at hd
    rcases hd with rfl | rfl | rfl | rfl
    · exact shp_str (by decide +kernel)
    · exact shp_str h.1
    · exact shp_str h.2.1
    · exact shp_str h.2.2
  | .use n' qs, n, h, hn => by
    obtain ⟨m, rfl⟩ : ∃ m, n = m + 3 := ⟨n - 3, by omega⟩
    refine shp_tup fun d hd => ?_
    simp only [List.mem_cons, List.mem_nil_iff, or_false] at hd
    rcases hd with rfl | rfl | rfl
    · exact shp_str (by decide +kernel)
    · exact shp_str h.1
    · exact shp_tup fun d hd => by
        obtain ⟨q, hq, rfl⟩ := List.mem_map.mp hd
        exact shp_str (h.2.1 q hq)
  | .loop b, n, h, hn => by
    have hn : 3 * (dpB b + 1) + 3 ≤ n := hn
    obtain ⟨m, rfl⟩ : ∃ m, n = m + 3 := ⟨n - 3, by omega⟩
    refine shp_tup fun d hd => ?_
    simp only [List.mem_cons, List.mem_nil_iff, or_false] at hd
    rcases hd with rfl | rfl
    · exact shp_str (by decide +kernel)
    · exact shp_tup (sgB b (m + 1) h (by omega))
  | .br v bs, n, h, hn => by
    have hn : 3 * (dpBs bs + 1) + 3 ≤ n := hn
    obtain ⟨m, rfl⟩ : ∃ m, n = m + 3 := ⟨n - 3, by omega⟩
    refine shp_tup fun d hd => ?_
    simp only [List.mem_cons, List.mem_nil_iff, or_false] at hd
    rcases hd with rfl | rfl
    · exact shp_str (by cases v <;> decide +kernel)
    · exact shp_tup (sgBs bs m h.2 (by omega))
theorem sgB : ∀ (b : List Tr) (n : Nat), gB b → 3 * dpB b + 3 ≤ n → ∀ d ∈ dB b, d.canLay0 = true ∧ d.depth ≤ n
  | [], _, _, _, d, hd => by cases hd
  | t :: b, n, h, hn, d, hd => by
    have hn : 3 * max (dpS t) (dpB b) + 3 ≤ n := hn
    rcases List.mem_cons.mp (show d ∈ dS t :: dB b from hd) with rfl | hd
    · exact sgS t n h.1 (by omega)
    · exact sgB b n h.2 (by omega) d hd
theorem sgBs : ∀ (bs : List (List Tr)) (n : Nat), gBs bs → 3 * dpBs bs + 3 ≤ n → ∀ d ∈ dBs bs, d.canLay0 = true ∧ d.depth ≤ n + 1
  | [], _, _, _, d, hd => by cases hd
  | t :: b, n, h, hn, d, hd => by
    have hn : 3 * max (dpB t) (dpBs b) + 3 ≤ n := hn
    rcases List.mem_cons.mp (show d ∈ PyData.tuple (dB t) :: dBs b from hd) with rfl | hd
    · exact shp_tup (sgB t n h.1 (by omega))
    · exact sgBs b n h.2 (by omega) d hd
end
theorem sh_body {b : List Tr} (h : gB b) (hd : dpB b ≤ 16) : SeqAt.shaped (.tuple (dB b)) = true := by
  have key := shp_tup (sgB b 51 h (by omega))
  unfold SeqAt.shaped
  rw [key.1, decide_eq_true (Nat.le_trans key.2 (by decide))]; rfl
theorem sh_bodies {bs : List (List Tr)} (h : gBs bs) (hd : dpBs bs ≤ 16) : SeqAt.shaped (.list (dBs bs)) = true := by
  have key := shp_list (sgBs bs 51 h (by omega))
  unfold SeqAt.shaped
  rw [key.1, decide_eq_true (Nat.le_trans key.2 (by decide))]; rfl
/-! ### the words of steps -/
theorem dS_head (t : Tr) : ∃ r, dS t = .tuple (.str (wordT t) :: r) := by
  cases t <;> exact ⟨_, rfl⟩
def a__is_one (K : PySem.W.Frag) : AS :=
  (aRet (aAndV (aOp aEq (aCB aLen (aCons (aVar 0) aNil)) (aC (.d (.int 1)))) (aOp aEq (aOp aIx (aOp aIx (aVar 0) (aC (.d (.int 0)))) (aC (.d (.int 0)))) (aVar 1))))
theorem len__is_one : ∀ as κ R E', F__is_one as κ R E' → as.length = (["body", "kind"] : List Str).length := by
  rintro as κ R E' ⟨b, k, rfl, _⟩; rfl
theorem rd__is_one : ∀ as κ R E', F__is_one as κ R E' → a__is_one K (endsA K κ.length R) (startA N__is_one as) κ := by
  rintro as κ R E' ⟨b, k, rfl, rfl, h⟩
  have hc : isOne k b = if b.length = 1 then (match b with | [t] => decide (wordT t = k) | _ => false) else false := by
    match b with
    | [] => rfl
    | [t] => rfl
    | t :: t2 :: b => rw [if_neg (by simp)]; rfl
  by_cases h1 : b.length = 1
  · match b, h1, h with
    | [t], _, h =>
      obtain ⟨r, hr⟩ := dS_head t
      exact ⟨.tuple (.str (wordT t) :: r), at_nat (j := 0) (congrArg some hr), _, at_nat (j := 0) rfl, _, _, GhR.refl (Nat.le_refl _), h⟩
  · rw [if_neg h1] at hc
    rw [hc] at h
    refine bsel_f (decide_eq_false ?_) ⟨_, _, GhR.refl (Nat.le_refl _), h⟩
    rw [dB_len]; omega
theorem isone_w {b : List Tr} {k : Str} {κ : AK} {E : AX → AK → Prop} {R : AR} (h : R (.d (.bool (isOne k b))) κ) : callW F__is_one E [.d (.tuple (dB b)), .d (.str k)] κ R :=
  callW_i ⟨[], _, _, .nil, rfl, rfl, b, k, rfl, rfl, Nat.zero_le _, rfl, rfl, h⟩
def a__loop_of (K : PySem.W.Frag) : AS :=
  (aSeq (aIfS (aOr (aB (aOp aEq (aVar 0) (aTup aNil))) (aTru (aCall F__is_one (fun _ _ => False) (aCons (aVar 0) (aCons (aC (.d (.str "loop"))) aNil))))) (aRet (aVar 0)) aNext) (aRet (aTup (aCons (aTup (aCons (aC (.d (.str "loop"))) (aCons (aVar 0) aNil))) aNil))))
theorem len__loop_of : ∀ as κ R E', F__loop_of as κ R E' → as.length = (["body"] : List Str).length := by
  rintro as κ R E' ⟨b, rfl, _⟩; rfl
theorem rd__loop_of : ∀ as κ R E', F__loop_of as κ R E' → a__loop_of K (endsA K κ.length R) (startA N__loop_of as) κ := by
  rintro as κ R E' ⟨b, rfl, rfl, hg, hd, h⟩
  have hem : PyData.eqv (.tuple (dB b)) (.tuple []) = b.isEmpty := by
    cases b with
    | nil => decide +kernel
    | cons t b => rfl
  refine ⟨(show 0 ≤ sizeLine by decide), sh_body hg (by omega), by decide +kernel, ?_⟩
  refine bsel_i (fun he => ?_) fun he => isone_w (bsel_i (fun h1 => ?_) fun h1 => ?_)
  · have he : PyData.eqv (.tuple (dB b)) (.tuple []) = true := he
    rw [hem] at he
    unfold loopOf at h
    rw [he, if_pos (by simp)] at h
    exact ⟨_, _, GhR.refl (Nat.le_refl _), h⟩
  · have h1 : isOne "loop" b = true := h1
    unfold loopOf at h
    rw [h1, if_pos (by simp)] at h
    exact ⟨_, _, GhR.refl (Nat.le_refl _), h⟩
  · have he : PyData.eqv (.tuple (dB b)) (.tuple []) = false := he
    rw [hem] at he
    have h1 : isOne "loop" b = false := h1
    unfold loopOf at h
    rw [he, h1, if_neg (by simp)] at h
    exact ⟨(show 2 ≤ sizeLine by decide), (show 1 ≤ sizeLine by decide), _, _, GhR.refl (Nat.le_refl _), h⟩
theorem loopof_w {b : List Tr} {κ : AK} {E : AX → AK → Prop} {R : AR} (hg : gB b) (hd : dpB b ≤ 15) (h : R (.d (.tuple (dB (loopOf b)))) κ) : callW F__loop_of E [.d (.tuple (dB b))] κ R :=
  callW_i ⟨[], _, _, .nil, rfl, rfl, b, rfl, rfl, hg, hd, Nat.zero_le _, rfl, rfl, h⟩
theorem dBs_app (a b : List (List Tr)) : dBs (a ++ b) = dBs a ++ dBs b := by rw [dBs_map, dBs_map, dBs_map, List.map_append]
theorem unw_m {v : Bool} : ∀ bs : List (List Tr), mBs (unw v bs) ≤ mBs bs
  | [] => Nat.le_refl _
  | b :: bs => by
    have ih := unw_m (v := v) bs
    have h1 : mBs (unw1 v b) ≤ 1 + mB b := by
      unfold unw1
      split
      · rename_i w cs
        split
        · show mBs cs ≤ 1 + (1 + mBs cs + 0); omega
        · show 1 + mB [.br w cs] + 0 ≤ 1 + mB [.br w cs]; omega
      · show 1 + mB b + 0 ≤ 1 + mB b; omega
    show mBs (unw1 v b ++ unw v bs) ≤ 1 + mB b + mBs bs
    rw [mBs_app]; omega
theorem unw_app {v : Bool} : ∀ a b : List (List Tr), unw v (a ++ b) = unw v a ++ unw v b
  | [], _ => rfl
  | x :: a, b => by show unw1 v x ++ unw v (a ++ b) = unw1 v x ++ unw v a ++ unw v b; rw [unw_app a b, List.append_assoc]
theorem wn (v : Bool) : ("letter" : Str) ≠ brW v ∧ ("use" : Str) ≠ brW v ∧ ("loop" : Str) ≠ brW v := by
  cases v <;> refine ⟨?_, ?_, ?_⟩ <;> decide +kernel
theorem br_ne : brW false ≠ brW true := by decide +kernel
theorem unw1_one {v : Bool} {b : List Tr} (h : isOne (brW v) b = true) : ∃ cs, b = [.br v cs] ∧ unw1 v b = cs := by
  match b, h with
  | [t], h =>
    have h : decide (wordT t = brW v) = true := h
    have h := of_decide_eq_true h
    cases t with
    | letter a b c => exact absurd h (wn v).1
    | use n qs => exact absurd h (wn v).2.1
    | loop b => exact absurd h (wn v).2.2
    | br w cs =>
      have : w = v := by
        cases w <;> cases v <;> first | rfl | exact absurd h br_ne | exact absurd h br_ne.symm
      subst this
      exact ⟨cs, rfl, by unfold unw1; exact if_pos rfl⟩
theorem unw1_not {v : Bool} {b : List Tr} (h : isOne (brW v) b = false) : unw1 v b = [b] := by
  unfold unw1
  split
  · rename_i w cs
    have h : decide (brW w = brW v) = false := h
    have h := of_decide_eq_false h
    rw [if_neg fun e => h (by rw [e])]
  · rfl
def a__unwrapped (K : PySem.W.Frag) : AS :=
  (aSeq (aSet 2 (aLst aNil)) (aSeq (aFor (aIter (aVar 0)) (aName 3) (aDrop (aBM "list" aExtend (aVar 2) (aCons (aIf (aTru (aCall F__is_one (fun _ _ => False) (aCons (aVar 3) (aCons (aVar 1) aNil)))) (aOp aIx (aOp aIx (aVar 3) (aC (.d (.int 0)))) (aC (.d (.int 1)))) (aLstD (aCons (aVar 3) aNil))) aNil)))) (aRet (aVar 2))))
theorem len__unwrapped : ∀ as κ R E', F__unwrapped as κ R E' → as.length = (["bodies", "kind"] : List Str).length := by
  rintro as κ R E' ⟨b, v, rfl, _⟩; rfl
theorem rd__unwrapped : ∀ as κ R E', F__unwrapped as κ R E' → a__unwrapped K (endsA K κ.length R) (startA N__unwrapped as) κ := by
  rintro as κ R E' ⟨bs, v, rfl, rfl, hm, h⟩
  refine ⟨(show 0 ≤ sizeLine by decide), ?_⟩
  refine for_d (fun i δ κ => ∃ x, δ = [some (.d (.list (dBs bs))), some (.d (.str (brW v))), some (.c 0), x] ∧ κ = [.ld (dBs (unw v (bs.take i)))]) ⟨none, rfl, rfl⟩ ?_ ?_
  · rintro δ κ ⟨x, rfl, rfl⟩ _
    rw [dBs_len, List.take_length]
    exact ⟨_, _, GhR.refl (Nat.zero_le _), h⟩
  · rintro i d δ κ hd ⟨x, rfl, rfl⟩ _
    rw [dBs_map, List.getElem?_map] at hd
    obtain ⟨b, hb, rfl⟩ := Option.map_eq_some_iff.mp hd
    have hlen : mBs (unw v (bs.take (i + 1))) ≤ 100000 := by
      refine Nat.le_trans (unw_m _) (Nat.le_trans ?_ hm)
      have e : bs = bs.take (i + 1) ++ bs.drop (i + 1) := (List.take_append_drop ..).symm
      conv => rhs; rw [e]
      rw [mBs_app]; omega
    have et : unw v (bs.take (i + 1)) = unw v (bs.take i) ++ unw1 v b := by
      rw [List.take_add_one, hb, unw_app]
      show _ ++ (unw1 v b ++ []) = _
      rw [List.append_nil]
    have hl2 := len_mBs (unw v (bs.take (i + 1)))
    rw [et, List.length_append] at hl2
    rw [et] at hlen
    refine ⟨rfl, isone_w (bsel_i (fun h1 => ?_) fun h1 => ?_)⟩
    · obtain ⟨cs, rfl, ec⟩ := unw1_one h1
      rw [ec] at et hl2 hlen
      refine ⟨.tuple [.str (brW v), .tuple (dBs cs)], at_nat (j := 0) rfl, _, at_nat (j := 1) rfl, _, rfl, ?_, _, rfl, ?_⟩
      · rw [dBs_len, dBs_len]; exact Nat.le_trans (show _ ≤ 100000 by omega) (by decide)
      · rw [et, dBs_app]; rfl
    · have ec := unw1_not h1
      rw [ec] at et hl2 hlen
      refine ⟨(show 1 ≤ sizeLine by decide), _, rfl, ?_, _, rfl, ?_⟩
      · rw [dBs_len]; exact Nat.le_trans (show (unw v (bs.take i)).length + 1 ≤ 100000 by simp only [List.length_cons, List.length_nil] at hl2; omega) (by decide)
      · rw [et, dBs_app]; rfl
theorem unw_w {bs : List (List Tr)} {v : Bool} {κ : AK} {E : AX → AK → Prop} {R : AR} (hm : mBs bs ≤ 100000) (h : R (.c κ.length) (κ ++ [.ld (dBs (unw v bs))])) : callW F__unwrapped E [.d (.list (dBs bs)), .d (.str (brW v))] κ R :=
  callW_i ⟨[], _, _, .nil, rfl, rfl, bs, v, rfl, rfl, hm, Nat.zero_le _, rfl, rfl, h⟩
theorem fn_of {l : List (List Tr)} {i : Nat} {x : List Tr} {acc : List (List Tr)} (h : l[i]? = some x) : choL acc (l.drop i) = if inB x acc then choL acc (l.drop (i + 1)) else choL (acc ++ [x]) (l.drop (i + 1)) := by
  obtain ⟨hi, e⟩ := List.getElem?_eq_some_iff.mp h
  rw [← List.getElem_cons_drop hi, e]; rfl
theorem dpBs_snoc {b : List (List Tr)} {t : List Tr} {k : Nat} (h1 : dpBs b ≤ k) (h2 : dpB t ≤ k) : dpBs (b ++ [t]) ≤ k := dpBs_le.mpr fun s hs => by
  rcases List.mem_append.mp hs with q | q
  · exact dpBs_le.mp h1 s q
  · rw [List.mem_singleton.mp q]; exact h2
theorem dpBs_app {a b : List (List Tr)} {k : Nat} (h1 : dpBs a ≤ k) (h2 : dpBs b ≤ k) : dpBs (a ++ b) ≤ k := dpBs_le.mpr fun s hs => by
  rcases List.mem_append.mp hs with q | q
  · exact dpBs_le.mp h1 s q
  · exact dpBs_le.mp h2 s q
theorem unw_g {v : Bool} : ∀ {bs : List (List Tr)} {k : Nat}, gBs bs → dpBs bs ≤ k → gBs (unw v bs) ∧ dpBs (unw v bs) ≤ k
  | [], _, _, _ => ⟨trivial, Nat.zero_le _⟩
  | b :: bs, k, h, hd => by
    have hd : max (dpB b) (dpBs bs) ≤ k := hd
    obtain ⟨i1, i2⟩ := unw_g (v := v) (k := k) h.2 (by omega)
    have h1 : gBs (unw1 v b) ∧ dpBs (unw1 v b) ≤ k := by
      cases e : isOne (brW v) b with
      | true =>
        obtain ⟨cs, rfl, ec⟩ := unw1_one e
        rw [ec]
        have h0 : gS (.br v cs) := h.1.1
        have hd0 : max (dpBs cs + 1) 0 ≤ k := by
          have : dpB [.br v cs] ≤ k := by omega
          exact this
        exact ⟨h0.2, by omega⟩
      | false =>
        rw [unw1_not e]
        exact ⟨⟨h.1, trivial⟩, dpBs_snoc (b := []) (Nat.zero_le _) (by omega)⟩
    exact ⟨gBs_app h1.1 i1, dpBs_app h1.2 i2⟩
def a__choice_of (K : PySem.W.Frag) : AS :=
  (aSeq (aSet 1 (aLst aNil)) (aSeq (aFor (aIter (aCall F__unwrapped (fun _ _ => False) (aCons (aVar 0) (aCons (aC (.d (.str "choice"))) aNil)))) (aName 2) (aIfS (aB (aOp (aInP not) (aVar 2) (aVar 1))) (aDrop (aBM "list" aAppend (aVar 1) (aCons (aVar 2) aNil))) aNext)) (aSeq (aIfS (aB (aOp aEq (aCB aLen (aCons (aVar 1) aNil)) (aC (.d (.int 1))))) (aRet (aOp aIx (aVar 1) (aC (.d (.int 0))))) aNext) (aRet (aTup (aCons (aTup (aCons (aC (.d (.str "choice"))) (aCons (aCB aTupOf (aCons (aVar 1) aNil)) aNil))) aNil))))))
theorem len__choice_of : ∀ as κ R E', F__choice_of as κ R E' → as.length = (["bodies"] : List Str).length := by
  rintro as κ R E' ⟨b, rfl, _⟩; rfl
theorem rd__choice_of : ∀ as κ R E', F__choice_of as κ R E' → a__choice_of K (endsA K κ.length R) (startA N__choice_of as) κ := by
  rintro as κ R E' ⟨bs, rfl, rfl, hg, hd, hm, h⟩
  obtain ⟨u1, u2⟩ := unw_g (v := false) hg hd
  have um := Nat.le_trans (unw_m (v := false) bs) hm
  have ul := len_mBs (unw false bs)
  refine ⟨(show 0 ≤ sizeLine by decide), unw_w (v := false) hm ?_⟩
  unfold choOf at h
  generalize unw false bs = l at h u1 u2 um ul
  refine for_c (k := 1) (xs := dBs l) (fun i δ κ => ∃ x acc, δ = [some (.d (.list (dBs bs))), some (.c 0), x] ∧ κ = [.ld (dBs acc), .ld (dBs l)] ∧ gBs acc ∧ dpBs acc ≤ 15 ∧ acc.length ≤ i ∧ choL [] l = choL acc (l.drop i)) ⟨none, [], rfl, rfl, trivial, Nat.zero_le _, Nat.zero_le _, rfl⟩ ?_ ?_ ?_
  · rintro i δ κ ⟨x, acc, rfl, rfl, _⟩; rfl
  · rintro δ κ ⟨x, acc, rfl, rfl, ag, ad, al, e⟩ _
    rw [dBs_len] at al
    rw [dBs_len, List.drop_length] at e
    have e : choL [] l = acc := e
    rw [e] at h
    have fin : ∀ (b : List Tr), oneOr false acc = b → (endsA K ([] : AK).length R).rt (.d (.tuple (dB b))) [.ld (dBs acc), .ld (dBs l)] := fun b eb => ⟨_, _, GhR.take 0 (Nat.le_refl _) (Nat.zero_le _) rfl rfl, by rw [← eb]; exact h⟩
    by_cases h1 : acc.length = 1
    · match acc, h1, fin with
      | [b], _, fin => exact ⟨_, at_nat (j := 0) rfl, fin b rfl⟩
    · refine bsel_f (decide_eq_false (by rw [dBs_len]; omega)) ⟨_, rfl, (show 2 ≤ sizeLine by decide), (show 1 ≤ sizeLine by decide), ?_⟩
      refine fin [.br false acc] ?_
      unfold oneOr
      split
      · simp at h1
      · rfl
  · rintro i d δ κ hx ⟨x, acc, rfl, rfl, ag, ad, al, e⟩ _
    rw [dBs_map, List.getElem?_map] at hx
    obtain ⟨b, hb, rfl⟩ := Option.map_eq_some_iff.mp hx
    have hil := (List.getElem?_eq_some_iff.mp hb).1
    have hmem := List.mem_of_getElem? hb
    have gb := gBs_all.mp u1 b hmem
    have db : dpB b ≤ 15 := dpBs_le.mp u2 b hmem
    rw [fn_of hb] at e
    have hany : ((dBs acc).any fun z => PyData.eqv z (.tuple (dB b))) = inB b acc := by
      rw [dBs_map, List.any_map]; rfl
    refine ⟨_, rfl, sh_body gb (by omega), sh_bodies ag (by omega), ?_⟩
    rw [hany]
    refine bsel_i (fun hn => ?_) fun hn => ?_
    · have hn : (!inB b acc) = true := hn
      have hn : ¬ inB b acc = true := by simpa using hn
      rw [if_neg hn] at e
      refine ⟨rfl, ?_, _, acc ++ [b], rfl, ?_, gBs_app ag ⟨gb, trivial⟩, dpBs_snoc ad db, by simp; omega, e⟩
      · rw [dBs_len]; exact Nat.lt_of_lt_of_le (show acc.length < 100001 by omega) (by decide)
      · rw [dBs_app]; rfl
    · have hn : (!inB b acc) = false := hn
      have hn : inB b acc = true := by simpa using hn
      rw [if_pos hn] at e
      exact ⟨_, acc, rfl, rfl, ag, ad, by omega, e⟩
def a__both_of (K : PySem.W.Frag) : AS :=
  (aSeq (aSet 1 (aLc (aIter (aCall F__unwrapped (fun _ _ => False) (aCons (aVar 0) (aCons (aC (.d (.str "both"))) aNil)))) (aName 2) (aTru (aVar 2)) (aVar 2) [2])) (aSeq (aIfS (aNot (aTru (aVar 1))) (aRet (aTup aNil)) aNext) (aSeq (aIfS (aB (aOp aEq (aCB aLen (aCons (aVar 1) aNil)) (aC (.d (.int 1))))) (aRet (aOp aIx (aVar 1) (aC (.d (.int 0))))) aNext) (aRet (aTup (aCons (aTup (aCons (aC (.d (.str "both"))) (aCons (aCB aTupOf (aCons (aVar 1) aNil)) aNil))) aNil))))))
theorem len__both_of : ∀ as κ R E', F__both_of as κ R E' → as.length = (["bodies"] : List Str).length := by
  rintro as κ R E' ⟨b, rfl, _⟩; rfl
theorem rd__both_of : ∀ as κ R E', F__both_of as κ R E' → a__both_of K (endsA K κ.length R) (startA N__both_of as) κ := by
  rintro as κ R E' ⟨bs, rfl, rfl, hm, h⟩
  have um := Nat.le_trans (unw_m (v := true) bs) hm
  have ul := len_mBs (unw true bs)
  refine unw_w (v := true) hm ?_
  unfold botOf at h
  generalize unw true bs = l at h um ul
  refine lc_c (k := 0) (xs := dBs l) (fun i acc κ' => κ' = [.ld (dBs l)] ∧ acc = dBs ((l.take i).filter fun b => !b.isEmpty)) ⟨rfl, rfl⟩ ?_ ?_ ?_
  · rintro i acc κ' ⟨rfl, _⟩; rfl
  · rintro acc κ' ⟨rfl, rfl⟩
    rw [dBs_len, List.take_length]
    generalize l.filter (fun b => !b.isEmpty) = f at h
    have fin : ∀ (b : List Tr), bothL f = b → (endsA K ([] : AK).length R).rt (.d (.tuple (dB b))) [.ld (dBs l)] := fun b eb => ⟨_, _, GhR.take 0 (Nat.le_refl _) (Nat.zero_le _) rfl rfl, by rw [← eb]; exact h⟩
    clear h
    match f, fin with
    | [], fin => exact ⟨(show 0 ≤ sizeLine by decide), fin [] rfl⟩
    | [b], fin => exact ⟨_, at_nat (j := 0) rfl, fin b rfl⟩
    | b :: b2 :: f, fin =>
      first
      | exact ⟨(show 2 ≤ sizeLine by decide), (show 1 ≤ sizeLine by decide), fin [.br true (b :: b2 :: f)] rfl⟩
      | exact ⟨rfl, (show 2 ≤ sizeLine by decide), (show 1 ≤ sizeLine by decide), fin [.br true (b :: b2 :: f)] rfl⟩
      | exact ⟨_, rfl, (show 2 ≤ sizeLine by decide), (show 1 ≤ sizeLine by decide), fin [.br true (b :: b2 :: f)] rfl⟩
  · rintro i d acc κ' hx ⟨rfl, rfl⟩
    rw [dBs_map, List.getElem?_map] at hx
    obtain ⟨b, hb, rfl⟩ := Option.map_eq_some_iff.mp hx
    have hil := (List.getElem?_eq_some_iff.mp hb).1
    have hemp : (dB b).isEmpty = b.isEmpty := by cases b <;> rfl
    have hf : (l.take (i + 1)).filter (fun b => !b.isEmpty) = (l.take i).filter (fun b => !b.isEmpty) ++ (if b.isEmpty then [] else [b]) := by
      rw [List.take_add_one, hb, List.filter_append]
      cases he : b.isEmpty <;> simp [he]
    have hlen : ((l.take i).filter (fun b => !b.isEmpty)).length ≤ 100000 := Nat.le_trans (List.length_filter_le ..) (by rw [List.length_take]; omega)
    rw [hf]
    refine bsel_i (fun hn => ?_) fun hn => ?_
    · have hn : (!(dB b).isEmpty) = true := hn
      rw [hemp] at hn
      have hn : b.isEmpty = false := by simpa using hn
      rw [hn]
      refine ⟨_, rfl, ?_, rfl, ?_⟩
      · rw [dBs_len]; exact Nat.lt_of_le_of_lt hlen (by decide)
      · rw [dBs_app]; rfl
    · have hn : (!(dB b).isEmpty) = false := hn
      rw [hemp] at hn
      have hn : b.isEmpty = true := by simpa using hn
      rw [hn]
      exact ⟨rfl, by rw [if_pos rfl, List.append_nil]⟩
/-! ### what tidying keeps -/
theorem choL_ok : ∀ (r acc : List (List Tr)) {k : Nat}, gBs acc → gBs r → dpBs acc ≤ k → dpBs r ≤ k → gBs (choL acc r) ∧ dpBs (choL acc r) ≤ k ∧ mBs (choL acc r) ≤ mBs acc + mBs r ∧ (acc ≠ [] ∨ r ≠ [] → choL acc r ≠ [])
  | [], acc, k, h1, _, h2, _ => ⟨h1, h2, Nat.le_add_right _ _, fun h => h.elim id fun z => absurd rfl z⟩
  | x :: r, acc, k, h1, h3, h2, h4 => by
    have h4 : max (dpB x) (dpBs r) ≤ k := h4
    by_cases hx : inB x acc = true
    · have e : choL acc (x :: r) = choL acc r := by
        show (if inB x acc then choL acc r else choL (acc ++ [x]) r) = _
        rw [if_pos hx]
      have ha : acc ≠ [] := fun z => by rw [z] at hx; cases hx
      obtain ⟨i1, i2, i3, i4⟩ := choL_ok r acc (k := k) h1 h3.2 h2 (by omega)
      rw [e]
      refine ⟨i1, i2, ?_, fun _ => i4 (.inl ha)⟩
      show _ ≤ mBs acc + (1 + mB x + mBs r); omega
    · have e : choL acc (x :: r) = choL (acc ++ [x]) r := by
        show (if inB x acc then choL acc r else choL (acc ++ [x]) r) = _
        rw [if_neg hx]
      obtain ⟨i1, i2, i3, i4⟩ := choL_ok r (acc ++ [x]) (k := k) (gBs_app h1 ⟨h3.1, trivial⟩) h3.2 (dpBs_snoc h2 (by omega)) (by omega)
      rw [e]
      refine ⟨i1, i2, ?_, fun _ => i4 (.inl (by simp))⟩
      rw [mBs_app] at i3
      have : mBs [x] = 1 + mB x + 0 := rfl
      show _ ≤ mBs acc + (1 + mB x + mBs r); omega
theorem unw_ne {v : Bool} : ∀ {bs : List (List Tr)}, gBs bs → bs ≠ [] → unw v bs ≠ []
  | [], _, h => absurd rfl h
  | b :: bs, h, _ => by
    cases e : isOne (brW v) b with
    | true =>
      obtain ⟨cs, rfl, ec⟩ := unw1_one e
      have h0 : gS (.br v cs) := h.1.1
      show unw1 v _ ++ unw v bs ≠ []
      rw [ec]
      exact fun z => h0.1 (List.append_eq_nil_iff.mp z).1
    | false =>
      show unw1 v _ ++ unw v bs ≠ []
      rw [unw1_not e]; simp
theorem filt_ok : ∀ {l : List (List Tr)} {k : Nat}, gBs l → dpBs l ≤ k → gBs (l.filter fun b => !b.isEmpty) ∧ dpBs (l.filter fun b => !b.isEmpty) ≤ k ∧ mBs (l.filter fun b => !b.isEmpty) ≤ mBs l
  | [], _, _, _ => ⟨trivial, Nat.zero_le _, Nat.le_refl _⟩
  | b :: l, k, h, hd => by
    have hd : max (dpB b) (dpBs l) ≤ k := hd
    obtain ⟨i1, i2, i3⟩ := filt_ok (l := l) (k := k) h.2 (by omega)
    cases e : b.isEmpty with
    | true =>
      rw [List.filter_cons_of_neg (by simp [e])]
      exact ⟨i1, i2, by show _ ≤ 1 + mB b + mBs l; omega⟩
    | false =>
      rw [List.filter_cons_of_pos (by simp [e])]
      refine ⟨⟨h.1, i1⟩, ?_, ?_⟩
      · show max (dpB b) _ ≤ k; omega
      · show 1 + mB b + _ ≤ 1 + mB b + mBs l; omega
theorem one_ok {v : Bool} {l : List (List Tr)} {k m : Nat} (h : gBs l) (hd : dpBs l ≤ k) (hm : mBs l ≤ m) (h0 : l ≠ []) : gB (oneOr v l) ∧ dpB (oneOr v l) ≤ k + 1 ∧ mB (oneOr v l) ≤ 1 + m := by
  unfold oneOr
  split
  · rename_i b
    have hd : max (dpB b) 0 ≤ k := hd
    have hm : 1 + mB b + 0 ≤ m := hm
    exact ⟨h.1, by omega, by omega⟩
  · refine ⟨⟨⟨h0, h⟩, trivial⟩, ?_, ?_⟩
    · show max (dpBs l + 1) 0 ≤ k + 1; omega
    · show 1 + mBs l + 0 ≤ 1 + m; omega
theorem dpB_app {a b : List Tr} {k : Nat} (h1 : dpB a ≤ k) (h2 : dpB b ≤ k) : dpB (a ++ b) ≤ k := dpB_le.mpr fun s hs => by
  rcases List.mem_append.mp hs with q | q
  · exact dpB_le.mp h1 s q
  · exact dpB_le.mp h2 s q
mutual
theorem tidS_ok : ∀ t : Tr, gS t → gB (tidS t) ∧ dpB (tidS t) ≤ dpS t ∧ mB (tidS t) ≤ mS t
  | .letter a b c, h => ⟨⟨h, trivial⟩, Nat.le_refl _, Nat.le_refl _⟩
  | .use n qs, h => ⟨⟨h, trivial⟩, Nat.le_refl _, Nat.le_refl _⟩
  | .loop b, h => by
    obtain ⟨i1, i2, i3⟩ := tidB_ok b h
    show gB (loopOf (tidB b)) ∧ dpB (loopOf (tidB b)) ≤ dpB b + 1 ∧ mB (loopOf (tidB b)) ≤ 1 + mB b
    unfold loopOf
    split
    · exact ⟨i1, by omega, by omega⟩
    · refine ⟨⟨i1, trivial⟩, ?_, ?_⟩
      · show max (dpB (tidB b) + 1) 0 ≤ dpB b + 1; omega
      · show 1 + mB (tidB b) + 0 ≤ 1 + mB b; omega
  | .br false bs, h => by
    obtain ⟨i1, i2, i3, i4⟩ := tidBs_ok bs h.2
    obtain ⟨u1, u2⟩ := unw_g (v := false) i1 i2
    have u3 := unw_m (v := false) (tidBs bs)
    obtain ⟨c1, c2, c3, c4⟩ := choL_ok (unw false (tidBs bs)) [] trivial u1 (Nat.zero_le _) u2
    have c3 : mBs (choL [] (unw false (tidBs bs))) ≤ mBs bs := by
      have : mBs ([] : List (List Tr)) = 0 := rfl
      omega
    exact one_ok c1 c2 c3 (c4 (.inr (unw_ne i1 (i4 h.1))))
  | .br true bs, h => by
    obtain ⟨i1, i2, i3, i4⟩ := tidBs_ok bs h.2
    obtain ⟨u1, u2⟩ := unw_g (v := true) i1 i2
    have u3 := unw_m (v := true) (tidBs bs)
    obtain ⟨c1, c2, c3⟩ := filt_ok u1 u2
    show gB (bothL _) ∧ dpB (bothL _) ≤ dpBs bs + 1 ∧ mB (bothL _) ≤ 1 + mBs bs
    generalize (unw true (tidBs bs)).filter (fun b => !b.isEmpty) = l at c1 c2 c3
    match l, c1, c2, c3 with
    | [], _, _, _ => exact ⟨trivial, Nat.zero_le _, Nat.zero_le _⟩
    | [b], c1, c2, c3 => exact one_ok (v := true) c1 c2 (Nat.le_trans c3 (Nat.le_trans u3 i3)) (by simp)
    | b :: b2 :: l, c1, c2, c3 => exact one_ok (v := true) c1 c2 (Nat.le_trans c3 (Nat.le_trans u3 i3)) (by simp)
theorem tidB_ok : ∀ b : List Tr, gB b → gB (tidB b) ∧ dpB (tidB b) ≤ dpB b ∧ mB (tidB b) ≤ mB b
  | [], _ => ⟨trivial, Nat.le_refl _, Nat.le_refl _⟩
  | t :: b, h => by
    obtain ⟨i1, i2, i3⟩ := tidS_ok t h.1
    obtain ⟨j1, j2, j3⟩ := tidB_ok b h.2
    refine ⟨gB_app i1 j1, dpB_app (show _ ≤ max (dpS t) (dpB b) by omega) (show _ ≤ max (dpS t) (dpB b) by omega), ?_⟩
    show mB (tidS t ++ tidB b) ≤ mS t + mB b
    rw [mB_app]; omega
theorem tidBs_ok : ∀ bs : List (List Tr), gBs bs → gBs (tidBs bs) ∧ dpBs (tidBs bs) ≤ dpBs bs ∧ mBs (tidBs bs) ≤ mBs bs ∧ (bs ≠ [] → tidBs bs ≠ [])
  | [], _ => ⟨trivial, Nat.le_refl _, Nat.le_refl _, fun h => absurd rfl h⟩
  | b :: bs, h => by
    obtain ⟨i1, i2, i3⟩ := tidB_ok b h.1
    obtain ⟨j1, j2, j3, _⟩ := tidBs_ok bs h.2
    refine ⟨⟨i1, j1⟩, ?_, ?_, fun _ z => by cases z⟩
    · show max (dpB (tidB b)) (dpBs (tidBs bs)) ≤ max (dpB b) (dpBs bs); omega
    · show 1 + mB (tidB b) + mBs (tidBs bs) ≤ 1 + mB b + mBs bs; omega
end
/-! ### the program's two -/
theorem choice_w {bs : List (List Tr)} {κ : AK} {E : AX → AK → Prop} {R : AR} (hg : gBs bs) (hd : dpBs bs ≤ 15) (hm : mBs bs ≤ 100000) (h : R (.d (.tuple (dB (choOf bs)))) κ) : callW F__choice_of E [.d (.list (dBs bs))] κ R :=
  callW_i ⟨[], _, _, .nil, rfl, rfl, bs, rfl, rfl, hg, hd, hm, Nat.zero_le _, rfl, rfl, h⟩
theorem both_w {bs : List (List Tr)} {κ : AK} {E : AX → AK → Prop} {R : AR} (hm : mBs bs ≤ 100000) (h : R (.d (.tuple (dB (botOf bs)))) κ) : callW F__both_of E [.d (.list (dBs bs))] κ R :=
  callW_i ⟨[], _, _, .nil, rfl, rfl, bs, rfl, rfl, hm, Nat.zero_le _, rfl, rfl, h⟩
theorem len_tidy (n : Nat) : ∀ as κ R E', FF_tidy n as κ R E' → as.length = (["body"] : List Str).length := by
  rintro as κ R E' ⟨b, rfl, _⟩; rfl
theorem len__tidy_step (n : Nat) : ∀ as κ R E', FF__tidy_step n as κ R E' → as.length = (["step"] : List Str).length := by
  rintro as κ R E' ⟨b, rfl, _⟩; rfl
theorem rd0_tidy {as κ R E'} (h : FF_tidy 0 as κ R E') : False := by
  obtain ⟨b, _, _, _, _, _, h, _⟩ := h; omega
theorem rd0__tidy_step {as κ R E'} (h : FF__tidy_step 0 as κ R E') : False := by
  obtain ⟨b, _, _, _, _, _, h, _⟩ := h; omega
theorem tidy_w {n : Nat} {b : List Tr} {κ : AK} {E : AX → AK → Prop} {R : AR} (hg : gB b) (hd : dpB b ≤ 15) (hm : mB b ≤ 90000) (hn : 2 * dpB b + 2 ≤ n) (h : R (.d (.tuple (dB (tidB b)))) κ) : callW (FF_tidy n) E [.d (.tuple (dB b))] κ R :=
  callW_i ⟨[], _, _, .nil, rfl, rfl, b, rfl, rfl, hg, hd, hm, hn, Nat.zero_le _, rfl, rfl, h⟩
theorem tstep_w {n : Nat} {t : Tr} {κ : AK} {E : AX → AK → Prop} {R : AR} (hg : gS t) (hd : dpS t ≤ 15) (hm : mS t ≤ 90000) (hn : 2 * dpS t + 1 ≤ n) (h : R (.d (.tuple (dB (tidS t)))) κ) : callW (FF__tidy_step n) E [.d (dS t)] κ R :=
  callW_i ⟨[], _, _, .nil, (by obtain ⟨r, e⟩ := dS_head t; rw [e]; rfl), rfl, t, rfl, rfl, hg, hd, hm, hn, Nat.zero_le _, rfl, rfl, h⟩
theorem tidB_app : ∀ a b : List Tr, tidB (a ++ b) = tidB a ++ tidB b
  | [], _ => rfl
  | t :: a, b => by show tidS t ++ tidB (a ++ b) = tidS t ++ tidB a ++ tidB b; rw [tidB_app a b, List.append_assoc]
theorem tidBs_map (bs : List (List Tr)) : tidBs bs = bs.map tidB := by
  induction bs with
  | nil => rfl
  | cons b bs ih => show tidB b :: tidBs bs = _; rw [ih]; rfl
theorem dB_app (a b : List Tr) : dB (a ++ b) = dB a ++ dB b := by rw [dB_map, dB_map, dB_map, List.map_append]
theorem mB_one {b : List Tr} {t : Tr} (h : t ∈ b) : mS t ≤ mB b := by
  induction b with
  | nil => cases h
  | cons x l ih =>
    show _ ≤ mS x + mB l
    rcases List.mem_cons.mp h with rfl | h
    · omega
    · have := ih h; omega
theorem mB_take {b : List Tr} (i : Nat) : mB (b.take i) ≤ mB b := by
  have e : b = b.take i ++ b.drop i := (List.take_append_drop ..).symm
  conv => rhs; rw [e]
  rw [mB_app]; omega
def a_tidy (K : PySem.W.Frag) (F_self__tidy_step : FSp) : AS :=
  (aSeq (aSet 1 (aLst aNil)) (aSeq (aFor (aIter (aVar 0)) (aName 2) (aDrop (aBM "list" aExtend (aVar 1) (aCons (aCall F_self__tidy_step (fun _ _ => False) (aCons (aVar 2) aNil)) aNil)))) (aRet (aCB aTupOf (aCons (aVar 1) aNil)))))
def a__tidy_step (K : PySem.W.Frag) (F_self_tidy : FSp) : AS :=
  (aSeq (aIfS (aB (aOp aEq (aOp aIx (aVar 0) (aC (.d (.int 0)))) (aC (.d (.str "loop"))))) (aRet (aCall F__loop_of (fun _ _ => False) (aCons (aCall F_self_tidy (fun _ _ => False) (aCons (aOp aIx (aVar 0) (aC (.d (.int 1)))) aNil)) aNil))) aNext) (aSeq (aIfS (aB (aOp aEq (aOp aIx (aVar 0) (aC (.d (.int 0)))) (aC (.d (.str "choice"))))) (aRet (aCall F__choice_of (fun _ _ => False) (aCons (aLc (aIter (aOp aIx (aVar 0) (aC (.d (.int 1))))) (aName 1) aYes (aCall F_self_tidy (fun _ _ => False) (aCons (aVar 1) aNil)) [1]) aNil))) aNext) (aSeq (aIfS (aB (aOp aEq (aOp aIx (aVar 0) (aC (.d (.int 0)))) (aC (.d (.str "both"))))) (aRet (aCall F__both_of (fun _ _ => False) (aCons (aLc (aIter (aOp aIx (aVar 0) (aC (.d (.int 1))))) (aName 1) aYes (aCall F_self_tidy (fun _ _ => False) (aCons (aVar 1) aNil)) [1]) aNil))) aNext) (aRet (aTup (aCons (aVar 0) aNil))))))
theorem rd_tidy (n : Nat) : ∀ as κ R E', FF_tidy (n + 1) as κ R E' → a_tidy K (FF__tidy_step n) (endsA K κ.length R) (startA N_tidy as) κ := by
  rintro as κ R E' ⟨b, rfl, rfl, hg, hd, hm, hn, h⟩
  refine ⟨(show 0 ≤ sizeLine by decide), ?_⟩
  refine for_d (fun i δ κ => ∃ x, δ = [some (.d (.tuple (dB b))), some (.c 0), x] ∧ κ = [.ld (dB (tidB (b.take i)))]) ⟨none, rfl, rfl⟩ ?_ ?_
  · rintro δ κ ⟨x, rfl, rfl⟩ _
    rw [dB_len, List.take_length]
    exact ⟨_, rfl, _, _, GhR.take 0 (Nat.le_refl _) (Nat.zero_le _) rfl rfl, h⟩
  · rintro i d δ κ hx ⟨x, rfl, rfl⟩ _
    rw [dB_map, List.getElem?_map] at hx
    obtain ⟨t, ht, rfl⟩ := Option.map_eq_some_iff.mp hx
    have hmem := List.mem_of_getElem? ht
    have ht1 : dpS t ≤ dpB b := dpB_le.mp (Nat.le_refl _) t hmem
    have ht2 := mB_one hmem
    have hgt := gB_all.mp hg t hmem
    have et : tidB (b.take (i + 1)) = tidB (b.take i) ++ tidS t := by
      rw [List.take_add_one, ht, tidB_app]
      show _ ++ (tidS t ++ []) = _
      rw [List.append_nil]
    have hgk : gB (b.take (i + 1)) := gB_all.mpr fun x hx => gB_all.mp hg x (List.mem_of_mem_take hx)
    have h3 := (tidB_ok _ hgk).2.2
    have h4 := mB_take (b := b) (i + 1)
    have h5 := len_mB (tidB (b.take (i + 1)))
    rw [et, List.length_append] at h5
    rw [et] at h3
    refine ⟨rfl, tstep_w hgt (by omega) (by omega) (by omega) ⟨_, rfl, ?_, _, rfl, ?_⟩⟩
    · rw [dB_len, dB_len]; exact Nat.le_trans (show _ ≤ 100000 by omega) (by decide)
    · rw [et, dB_app]; rfl
theorem rd__tidy_step (n : Nat) : ∀ as κ R E', FF__tidy_step (n + 1) as κ R E' → a__tidy_step K (FF_tidy n) (endsA K κ.length R) (startA N__tidy_step as) κ := by
  rintro as κ R E' ⟨t, rfl, rfl, hg, hd, hm, hn, h⟩
  have bodies : ∀ (bs : List (List Tr)), gBs bs → dpBs bs ≤ 14 → mBs bs ≤ 90000 → 2 * dpBs bs + 2 ≤ n → gBs (tidBs bs) ∧ dpBs (tidBs bs) ≤ 15 ∧ mBs (tidBs bs) ≤ 100000 := fun bs g1 g2 g3 _ => by
    obtain ⟨i1, i2, i3, _⟩ := tidBs_ok bs g1
    exact ⟨i1, by omega, by omega⟩
  have hv := trV t
  generalize hds : dS t = d at hv
  cases hv with
  | letter w a b c hw =>
    have n1 : w ≠ "loop" := by rw [hw]; decide +kernel
    have n2 : w ≠ "choice" := by rw [hw]; decide +kernel
    have n3 : w ≠ "both" := by rw [hw]; decide +kernel
    refine ⟨.str w, at_nat (j := 0) rfl, bsel_f (decide_eq_false n1) ⟨.str w, at_nat (j := 0) rfl, bsel_f (decide_eq_false n2) ⟨.str w, at_nat (j := 0) rfl, bsel_f (decide_eq_false n3) ⟨(show 1 ≤ sizeLine by decide), _, _, GhR.refl (Nat.le_refl _), ?_⟩⟩⟩⟩
    rw [← hds]; exact h
  | use w nn qs hw =>
    have n1 : w ≠ "loop" := by rw [hw]; decide +kernel
    have n2 : w ≠ "choice" := by rw [hw]; decide +kernel
    have n3 : w ≠ "both" := by rw [hw]; decide +kernel
    refine ⟨.str w, at_nat (j := 0) rfl, bsel_f (decide_eq_false n1) ⟨.str w, at_nat (j := 0) rfl, bsel_f (decide_eq_false n2) ⟨.str w, at_nat (j := 0) rfl, bsel_f (decide_eq_false n3) ⟨(show 1 ≤ sizeLine by decide), _, _, GhR.refl (Nat.le_refl _), ?_⟩⟩⟩⟩
    rw [← hds]; exact h
  | loop w b hw =>
    have hg : gB b := hg
    have hd : dpB b + 1 ≤ 15 := hd
    have hm : 1 + mB b ≤ 90000 := hm
    have hn : 2 * (dpB b + 1) + 1 ≤ n + 1 := hn
    obtain ⟨i1, i2, i3⟩ := tidB_ok b hg
    exact ⟨.str w, at_nat (j := 0) rfl, bsel_t (decide_eq_true hw) ⟨.tuple (dB b), at_nat (j := 1) rfl, tidy_w hg (by omega) (by omega) (by omega) (loopof_w i1 (by omega) ⟨_, _, GhR.refl (Nat.le_refl _), h⟩)⟩⟩
  | br w v bs hv hw =>
    have n1 : w ≠ "loop" := by rcases hw with rfl | rfl <;> decide +kernel
    have hg : bs ≠ [] ∧ gBs bs := hg
    have hd : dpBs bs + 1 ≤ 15 := hd
    have hm : 1 + mBs bs ≤ 90000 := hm
    have hn : 2 * (dpBs bs + 1) + 1 ≤ n + 1 := hn
    obtain ⟨t1, t2, t3⟩ := bodies bs hg.2 (by omega) (by omega) (by omega)
    have comp : ∀ (i : Nat) (x : PyData) (acc : List PyData), (dBs bs)[i]? = some x → acc = dBs (tidBs (bs.take i)) → ∃ b, x = .tuple (dB b) ∧ gB b ∧ dpB b ≤ 14 ∧ mB b ≤ 90000 ∧ 2 * dpB b + 2 ≤ n ∧ acc.length < sizeLine ∧ acc ++ [.tuple (dB (tidB b))] = dBs (tidBs (bs.take (i + 1))) := fun i x acc hx ha => by
      rw [dBs_map, List.getElem?_map] at hx
      obtain ⟨b, hb, rfl⟩ := Option.map_eq_some_iff.mp hx
      have hmem := List.mem_of_getElem? hb
      have h1 : dpB b ≤ dpBs bs := dpBs_le.mp (Nat.le_refl _) b hmem
      have h2 := mBs_one hmem
      have h3 := len_mBs bs
      have h4 := (List.getElem?_eq_some_iff.mp hb).1
      refine ⟨b, rfl, gBs_all.mp hg.2 b hmem, by omega, by omega, by omega, ?_, ?_⟩
      · rw [ha, dBs_len, tidBs_map, List.length_map, List.length_take]; exact Nat.lt_of_le_of_lt (show min i bs.length ≤ 100000 by omega) (by decide)
      · rw [ha, List.take_add_one, hb, tidBs_map, tidBs_map, List.map_append, dBs_app]; rfl
    refine ⟨.str w, at_nat (j := 0) rfl, bsel_f (decide_eq_false n1) ⟨.str w, at_nat (j := 0) rfl, ?_⟩⟩
    cases v with
    | false =>
      refine bsel_t (decide_eq_true hv) ⟨.tuple (dBs bs), at_nat (j := 1) rfl, ?_⟩
      refine lc_d (fun i acc κ' => κ' = [] ∧ acc = dBs (tidBs (bs.take i))) ⟨rfl, rfl⟩ ?_ ?_
      · rintro acc κ' ⟨rfl, rfl⟩
        rw [dBs_len, List.take_length]
        exact choice_w t1 t2 t3 ⟨_, _, GhR.refl (Nat.le_refl _), h⟩
      · rintro i x acc κ' hx ⟨rfl, ha⟩
        obtain ⟨b, rfl, c1, c2, c3, c4, c5, c6⟩ := comp i x acc hx ha
        exact tidy_w c1 (by omega) c3 c4 ⟨_, rfl, c5, rfl, c6⟩
    | true =>
      have n2 : w ≠ "choice" := by rw [hv]; decide +kernel
      refine bsel_f (decide_eq_false n2) ⟨.str w, at_nat (j := 0) rfl, bsel_t (decide_eq_true hv) ⟨.tuple (dBs bs), at_nat (j := 1) rfl, ?_⟩⟩
      refine lc_d (fun i acc κ' => κ' = [] ∧ acc = dBs (tidBs (bs.take i))) ⟨rfl, rfl⟩ ?_ ?_
      · rintro acc κ' ⟨rfl, rfl⟩
        rw [dBs_len, List.take_length]
        exact both_w t3 ⟨_, _, GhR.refl (Nat.le_refl _), h⟩
      · rintro i x acc κ' hx ⟨rfl, ha⟩
        obtain ⟨b, rfl, c1, c2, c3, c4, c5, c6⟩ := comp i x acc hx ha
        exact tidy_w c1 (by omega) c3 c4 ⟨_, rfl, c5, rfl, c6⟩
/-! ### the law's side -/
theorem ldOf_c {κ : AK} {j : Nat} {xs : List PyData} (h : κ[j]? = some (.ld xs)) : ldOf κ (.c j) = some xs := by
  simp only [ldOf, h]
theorem ty_ld {κ : AK} {j : Nat} {xs : List PyData} (h : κ[j]? = some (.ld xs)) : tyA "list" (.c j) κ := by
  simp only [tyA, h]
theorem app_ld {κ : AK} {j : Nat} {xs : List PyData} {x : PyData} {R : AR} (h : κ[j]? = some (.ld xs)) (hl : xs.length < sizeLine) (q : R (.d .none) (κ.set j (.ld (xs ++ [x])))) : aAppend (.c j) [.d x] κ R := by
  simp only [aAppend, h]; exact ⟨hl, q⟩
theorem drop_app {i i2 j : Nat} {d : PyData} {A : AEnds} {δ : AD} {κ : AK} {xs : List PyData} (hi : δ[i]? = some (some (.c j))) (h2 : δ[i2]? = some (some (.d d))) (hk : κ[j]? = some (.ld xs)) (hl : xs.length < sizeLine) (h : A.nx δ (κ.set j (.ld (xs ++ [d])))) :
    aDrop (aBM "list" aAppend (aVar i) (aCons (aVar i2) aNil)) A δ κ := by
  simp only [aDrop, aBM, aCons, aNil, aVar, hi, h2, aAppend, hk]
  exact ⟨ty_ld hk, hl, h⟩
theorem set_ld {κ : AK} {j : Nat} {xs ys : List PyData} (h : κ[j]? = some (.ld xs)) : (κ.set j (.ld ys))[j]? = some (.ld ys) := List.getElem?_set_self (List.getElem?_eq_some_iff.mp h).1
theorem snoc_ld {κ : AK} {ys : List PyData} : (κ ++ [.ld ys])[κ.length]? = some (.ld ys) := by simp
theorem GhR_ld {κ : AK} {j : Nat} {xs : List PyData} (h : κ[j]? = some (.ld xs)) : GhR K 0 (.c j) κ (.d (.list xs)) [] := by
  have a := (GhR.freeze (K := K) (a := .c j) (Nat.zero_le _) j xs h).trans (GhR.take 0 (Nat.le_refl _) (Nat.zero_le _) rfl (by simp [fzA]; rfl))
  simpa [fzA] using a
def a__law_flat (K : PySem.W.Frag) : AS :=
  (aSeq (aSet 2 (aLst aNil)) (aSeq (aFor (aIter (aVar 1)) (aName 3) (aIfS (aAnd (aB (aOp aEq (aCB aLen (aCons (aVar 3) aNil)) (aC (.d (.int 1))))) (aB (aOp aEq (aOp aIx (aOp aIx (aVar 3) (aC (.d (.int 0)))) (aC (.d (.int 0)))) (aVar 0)))) (aSet 2 (aOp (aCat true) (aVar 2) (aCB (aListOf false) (aCons (aOp aIx (aOp aIx (aVar 3) (aC (.d (.int 0)))) (aC (.d (.int 1)))) aNil)))) (aDrop (aBM "list" aAppend (aVar 2) (aCons (aVar 3) aNil))))) (aRet (aVar 2))))
theorem len__law_flat : ∀ as κ R E', F__law_flat as κ R E' → as.length = (["kind", "bodies"] : List Str).length := by
  rintro as κ R E' ⟨b, v, rfl, _⟩; rfl
theorem rd__law_flat : ∀ as κ R E', F__law_flat as κ R E' → a__law_flat K (endsA K κ.length R) (startA N__law_flat as) κ := by
  rintro as κ R E' ⟨bs, v, rfl, rfl, hm, h⟩
  refine ⟨(show 0 ≤ sizeLine by decide), ?_⟩
  refine for_d (fun i δ κ => ∃ j x, δ = [some (.d (.str (brW v))), some (.d (.list (dBs bs))), some (.c j), x] ∧ κ[j]? = some (.ld (dBs (unw v (bs.take i))))) ⟨0, none, rfl, rfl⟩ ?_ ?_
  · rintro δ κ ⟨j, x, rfl, hj⟩ _
    rw [dBs_len, List.take_length] at hj
    exact ⟨_, _, GhR_ld hj, h⟩
  · rintro i d δ κ hd ⟨j, x, rfl, hj⟩ _
    rw [dBs_map, List.getElem?_map] at hd
    obtain ⟨b, hb, rfl⟩ := Option.map_eq_some_iff.mp hd
    have hlen : mBs (unw v (bs.take (i + 1))) ≤ 100000 := by
      refine Nat.le_trans (unw_m _) (Nat.le_trans ?_ hm)
      have e : bs = bs.take (i + 1) ++ bs.drop (i + 1) := (List.take_append_drop ..).symm
      conv => rhs; rw [e]
      rw [mBs_app]; omega
    have et : unw v (bs.take (i + 1)) = unw v (bs.take i) ++ unw1 v b := by
      rw [List.take_add_one, hb, unw_app]
      show _ ++ (unw1 v b ++ []) = _
      rw [List.append_nil]
    have hl2 := len_mBs (unw v (bs.take (i + 1)))
    rw [et, List.length_append] at hl2
    rw [et] at hlen
    rw [et]
    have app : isOne (brW v) b = false → aDrop (aBM "list" aAppend (aVar 2) (aCons (aVar 3) aNil)) { n := List.length ([] ++ [Cell.ld []]), nx := fun δ κ => ∃ j x, δ = [some (.d (.str (brW v))), some (.d (.list (dBs bs))), some (.c j), x] ∧ κ[j]? = some (.ld (dBs (unw v (bs.take i) ++ unw1 v b))), rt := (endsA K ([] : AK).length R).rt, bk := (endsA K ([] : AK).length R).bk, ct := (endsA K ([] : AK).length R).ct } [some (.d (.str (brW v))), some (.d (.list (dBs bs))), some (.c j), some (.d (.tuple (dB b)))] κ := fun h1 => by
      have ec := unw1_not h1
      rw [ec] at hl2 hlen ⊢
      refine drop_app (j := j) rfl rfl hj ?_ ⟨j, _, rfl, ?_⟩
      · rw [dBs_len]; exact Nat.lt_of_lt_of_le (show (unw v (bs.take i)).length < 100001 by simp only [List.length_cons, List.length_nil] at hl2; omega) (by decide)
      · rw [dBs_app]; exact set_ld hj
    match b, app, hl2, hlen with
    | [], app, _, _ => exact app rfl
    | [t], app, hl2, hlen =>
      obtain ⟨r, hr⟩ := dS_head t
      refine ⟨.tuple (.str (wordT t) :: r), at_nat (j := 0) (congrArg some hr), _, at_nat (j := 0) rfl, bsel_i (fun h1 => ?_) fun h1 => app h1⟩
      have h1 : isOne (brW v) [t] = true := h1
      obtain ⟨cs, e1, ec⟩ := unw1_one h1
      cases e1
      rw [ec] at hl2 ⊢
      refine ⟨.tuple [.str (brW v), .tuple (dBs cs)], at_nat (j := 0) rfl, _, at_nat (j := 1) rfl, _, _, ldOf_c hj, rfl, ?_, κ.length, _, rfl, ?_⟩
      · rw [dBs_len, dBs_len]; exact Nat.le_trans (show _ ≤ 100000 by rw [ec] at hlen; omega) (by decide)
      · rw [dBs_app]; exact snoc_ld
    | t :: t2 :: b, app, _, _ => exact app rfl
theorem flat_w {bs : List (List Tr)} {v : Bool} {w : Str} {κ : AK} {E : AX → AK → Prop} {R : AR} (hw : w = brW v) (hm : mBs bs ≤ 100000) (h : R (.d (.list (dBs (unw v bs)))) κ) : callW F__law_flat E [.d (.str w), .d (.list (dBs bs))] κ R := by
  subst hw
  exact callW_i ⟨[], _, _, .nil, rfl, rfl, bs, v, rfl, rfl, hm, Nat.zero_le _, rfl, rfl, h⟩
/-! first ones, by place -/
theorem pl_body (z : List Tr) : plD (.tuple (dB z)) = true := pl_dB z
theorem inB_iff {x : List Tr} {l : List (List Tr)} : inB x l = true ↔ ∃ z ∈ l, dB z = dB x := by
  unfold inB
  rw [List.any_eq_true]
  constructor
  · rintro ⟨z, hz, h⟩
    exact ⟨z, hz, PyData.tuple.inj ((eqv_pl _ _ (pl_body z) (pl_body x)).mp h)⟩
  · rintro ⟨z, hz, h⟩
    exact ⟨z, hz, (eqv_pl _ _ (pl_body z) (pl_body x)).mpr (by rw [h])⟩
theorem choL_mem : ∀ (r acc : List (List Tr)) (d : List PyData), (∃ z ∈ choL acc r, dB z = d) ↔ (∃ z ∈ acc ++ r, dB z = d)
  | [], acc, d => by rw [List.append_nil]; exact Iff.rfl
  | x :: r, acc, d => by
    by_cases hx : inB x acc = true
    · have e : choL acc (x :: r) = choL acc r := by
        show (if inB x acc then choL acc r else choL (acc ++ [x]) r) = _
        rw [if_pos hx]
      rw [e, choL_mem r acc d]
      obtain ⟨z0, hz0, ez0⟩ := inB_iff.mp hx
      constructor
      · rintro ⟨z, hz, h⟩
        refine ⟨z, ?_, h⟩
        rcases List.mem_append.mp hz with q | q
        · exact List.mem_append_left _ q
        · exact List.mem_append_right _ (List.mem_cons_of_mem _ q)
      · rintro ⟨z, hz, h⟩
        rcases List.mem_append.mp hz with q | q
        · exact ⟨z, List.mem_append_left _ q, h⟩
        · rcases List.mem_cons.mp q with rfl | q
          · exact ⟨z0, List.mem_append_left _ hz0, ez0.trans h⟩
          · exact ⟨z, List.mem_append_right _ q, h⟩
    · have e : choL acc (x :: r) = choL (acc ++ [x]) r := by
        show (if inB x acc then choL acc r else choL (acc ++ [x]) r) = _
        rw [if_neg hx]
      rw [e, choL_mem r (acc ++ [x]) d, List.append_assoc]; rfl
theorem inB_cho {x : List Tr} {p : List (List Tr)} : inB x (choL [] p) = inB x p := by
  rw [Bool.eq_iff_iff, inB_iff, inB_iff, choL_mem p [] (dB x)]; rfl
theorem choL_app : ∀ (p q acc : List (List Tr)), choL acc (p ++ q) = choL (choL acc p) q
  | [], _, _ => rfl
  | x :: p, q, acc => by
    show (if inB x acc then choL acc (p ++ q) else choL (acc ++ [x]) (p ++ q)) = choL (if inB x acc then choL acc p else choL (acc ++ [x]) p) q
    split
    · exact choL_app p q acc
    · exact choL_app p q (acc ++ [x])
theorem choL_one {p : List (List Tr)} {x : List Tr} : choL [] (p ++ [x]) = if inB x p then choL [] p else choL [] p ++ [x] := by
  rw [choL_app]
  show (if inB x (choL [] p) then choL [] p else choL [] p ++ [x]) = _
  rw [inB_cho]
theorem len__law_tidy (n : Nat) : ∀ as κ R E', FF__law_tidy n as κ R E' → as.length = (["body"] : List Str).length := len_tidy n
theorem len__law_tidy_step (n : Nat) : ∀ as κ R E', FF__law_tidy_step n as κ R E' → as.length = (["step"] : List Str).length := len__tidy_step n
theorem rd0__law_tidy {as κ R E'} (h : FF__law_tidy 0 as κ R E') : False := rd0_tidy h
theorem rd0__law_tidy_step {as κ R E'} (h : FF__law_tidy_step 0 as κ R E') : False := rd0__tidy_step h
def a__law_tidy (K : PySem.W.Frag) (F_self__law_tidy_step : FSp) : AS :=
  (aSeq (aSet 1 (aTup aNil)) (aSeq (aFor (aIter (aVar 0)) (aName 2) (aSet 1 (aOp aAdd (aVar 1) (aCall F_self__law_tidy_step (fun _ _ => False) (aCons (aVar 2) aNil))))) (aRet (aVar 1))))
def a__law_tidy_step (K : PySem.W.Frag) (F_self__law_tidy : FSp) : AS :=
  (aSeq (aIfS (aB (aOp (aIn id) (aOp aIx (aVar 0) (aC (.d (.int 0)))) (aTup (aCons (aC (.d (.str "letter"))) (aCons (aC (.d (.str "use"))) aNil))))) (aRet (aTup (aCons (aVar 0) aNil))) aNext) (aSeq (aIfS (aB (aOp aEq (aOp aIx (aVar 0) (aC (.d (.int 0)))) (aC (.d (.str "loop"))))) (aSeq (aSet 1 (aCall F_self__law_tidy (fun _ _ => False) (aCons (aOp aIx (aVar 0) (aC (.d (.int 1)))) aNil))) (aSeq (aIfS (aOr (aNot (aTru (aVar 1))) (aAnd (aB (aOp aEq (aCB aLen (aCons (aVar 1) aNil)) (aC (.d (.int 1))))) (aB (aOp aEq (aOp aIx (aOp aIx (aVar 1) (aC (.d (.int 0)))) (aC (.d (.int 0)))) (aC (.d (.str "loop"))))))) (aRet (aVar 1)) aNext) (aRet (aTup (aCons (aTup (aCons (aC (.d (.str "loop"))) (aCons (aVar 1) aNil))) aNil))))) aNext) (aSeq (aSet 2 (aCall F__law_flat (fun _ _ => False) (aCons (aOp aIx (aVar 0) (aC (.d (.int 0)))) (aCons (aLc (aIter (aOp aIx (aVar 0) (aC (.d (.int 1))))) (aName 1) aYes (aCall F_self__law_tidy (fun _ _ => False) (aCons (aVar 1) aNil)) [1]) aNil)))) (aCut (aIfS (aB (aOp aEq (aOp aIx (aVar 0) (aC (.d (.int 0)))) (aC (.d (.str "choice"))))) (aSet 2 (aLc (aRng1 (aCons (aCB aLen (aCons (aVar 2) aNil)) aNil)) (aName 3) (aB (aOp (aInP not) (aOp aIx (aVar 2) (aVar 3)) (aSl (aVar 2) aNoPart (aPart (aVar 3))))) (aOp aIx (aVar 2) (aVar 3)) [3])) (aSet 2 (aLc (aIter (aVar 2)) (aName 1) (aTru (aVar 1)) (aVar 1) [1]))) (aSeq (aIfS (aNot (aTru (aVar 2))) (aRet (aTup aNil)) aNext) (aSeq (aIfS (aB (aOp aEq (aCB aLen (aCons (aVar 2) aNil)) (aC (.d (.int 1))))) (aRet (aOp aIx (aVar 2) (aC (.d (.int 0))))) aNext) (aRet (aTup (aCons (aTup (aCons (aOp aIx (aVar 0) (aC (.d (.int 0)))) (aCons (aCB aTupOf (aCons (aVar 2) aNil)) aNil))) aNil)))))))))
theorem rd__law_tidy (n : Nat) : ∀ as κ R E', FF__law_tidy (n + 1) as κ R E' → a__law_tidy K (FF__law_tidy_step n) (endsA K κ.length R) (startA N__law_tidy as) κ := by
  rintro as κ R E' ⟨b, rfl, rfl, hg, hd, hm, hn, h⟩
  refine ⟨(show 0 ≤ sizeLine by decide), ?_⟩
  refine for_d (fun i δ κ => ∃ x, δ = [some (.d (.tuple (dB b))), some (.d (.tuple (dB (tidB (b.take i))))), x] ∧ κ = []) ⟨none, rfl, rfl⟩ ?_ ?_
  · rintro δ κ ⟨x, rfl, rfl⟩ _
    rw [dB_len, List.take_length]
    exact ⟨_, _, GhR.refl (Nat.le_refl _), h⟩
  · rintro i d δ κ hx ⟨x, rfl, rfl⟩ _
    rw [dB_map, List.getElem?_map] at hx
    obtain ⟨t, ht, rfl⟩ := Option.map_eq_some_iff.mp hx
    have hmem := List.mem_of_getElem? ht
    have ht1 : dpS t ≤ dpB b := dpB_le.mp (Nat.le_refl _) t hmem
    have ht2 := mB_one hmem
    have hgt := gB_all.mp hg t hmem
    have et : tidB (b.take (i + 1)) = tidB (b.take i) ++ tidS t := by
      rw [List.take_add_one, ht, tidB_app]
      show _ ++ (tidS t ++ []) = _
      rw [List.append_nil]
    have hgk : gB (b.take (i + 1)) := gB_all.mpr fun x hx => gB_all.mp hg x (List.mem_of_mem_take hx)
    have h3 := (tidB_ok _ hgk).2.2
    have h4 := mB_take (b := b) (i + 1)
    have h5 := len_mB (tidB (b.take (i + 1)))
    rw [et, List.length_append] at h5
    rw [et] at h3
    refine tstep_w hgt (by omega) (by omega) (by omega) ⟨?_, some (.d (dS t)), ?_, rfl⟩
    · rw [dB_len, dB_len]; exact Nat.le_trans (show _ ≤ 100000 by omega) (by decide)
    · rw [et, dB_app]; rfl
theorem rd__law_tidy_step (n : Nat) : ∀ as κ R E', FF__law_tidy_step (n + 1) as κ R E' → a__law_tidy_step K (FF__law_tidy n) (endsA K κ.length R) (startA N__law_tidy_step as) κ := by
  rintro as κ R E' ⟨t, rfl, rfl, hg, hd, hm, hn, h⟩
  have hv := trV t
  generalize hds : dS t = d at hv
  cases hv with
  | letter w a b c hw =>
    have hin : w ∈ (["letter", "use"] : List Str) := by rw [hw]; decide +kernel
    refine ⟨.str w, at_nat (j := 0) rfl, (show 2 ≤ sizeLine by decide), rfl, flat_strs ["letter", "use"], bsel_t ((inD_str ..).trans (decide_eq_true hin)) ⟨(show 1 ≤ sizeLine by decide), _, _, GhR.refl (Nat.le_refl _), ?_⟩⟩
    rw [← hds]; exact h
  | use w nn qs hw =>
    have hin : w ∈ (["letter", "use"] : List Str) := by rw [hw]; decide +kernel
    refine ⟨.str w, at_nat (j := 0) rfl, (show 2 ≤ sizeLine by decide), rfl, flat_strs ["letter", "use"], bsel_t ((inD_str ..).trans (decide_eq_true hin)) ⟨(show 1 ≤ sizeLine by decide), _, _, GhR.refl (Nat.le_refl _), ?_⟩⟩
    rw [← hds]; exact h
  | loop w b hw =>
    have hin : w ∉ (["letter", "use"] : List Str) := by rw [hw]; decide +kernel
    have hg : gB b := hg
    have hd : dpB b + 1 ≤ 15 := hd
    have hm : 1 + mB b ≤ 90000 := hm
    have hn : 2 * (dpB b + 1) + 1 ≤ n + 1 := hn
    have h : R (.d (.tuple (dB (loopOf (tidB b))))) [] := h
    refine ⟨.str w, at_nat (j := 0) rfl, (show 2 ≤ sizeLine by decide), rfl, flat_strs ["letter", "use"], bsel_f ((inD_str ..).trans (decide_eq_false hin)) ⟨.str w, at_nat (j := 0) rfl, bsel_t (decide_eq_true hw) ⟨.tuple (dB b), at_nat (j := 1) rfl, tidy_w hg (by omega) (by omega) (by omega) ?_⟩⟩⟩
    generalize tidB b = c at h
    match c, h with
    | [], h => exact ⟨_, _, GhR.refl (Nat.le_refl _), h⟩
    | [s], h =>
      obtain ⟨r, hr⟩ := dS_head s
      refine ⟨.tuple (.str (wordT s) :: r), at_nat (j := 0) (congrArg some hr), _, at_nat (j := 0) rfl, bsel_i (fun h1 => ⟨_, _, GhR.refl (Nat.le_refl _), ?_⟩) fun h1 => ⟨(show 2 ≤ sizeLine by decide), (show 1 ≤ sizeLine by decide), _, _, GhR.refl (Nat.le_refl _), ?_⟩⟩
      · have h1 : isOne "loop" [s] = true := h1
        unfold loopOf at h
        rw [h1, if_pos (by simp)] at h
        exact h
      · have h1 : isOne "loop" [s] = false := h1
        unfold loopOf at h
        rw [h1, if_neg (by simp)] at h
        exact h
    | s :: s2 :: c, h =>
      refine ⟨(show 2 ≤ sizeLine by decide), (show 1 ≤ sizeLine by decide), _, _, GhR.refl (Nat.le_refl _), ?_⟩
      exact h
  | br w v bs hv hw =>
    have hin : w ∉ (["letter", "use"] : List Str) := by rcases hw with rfl | rfl <;> decide +kernel
    have n1 : w ≠ "loop" := by rcases hw with rfl | rfl <;> decide +kernel
    have hg : bs ≠ [] ∧ gBs bs := hg
    have hd : dpBs bs + 1 ≤ 15 := hd
    have hm : 1 + mBs bs ≤ 90000 := hm
    have hn : 2 * (dpBs bs + 1) + 1 ≤ n + 1 := hn
    obtain ⟨t1, t2, t3, t4⟩ := tidBs_ok bs hg.2
    refine ⟨.str w, at_nat (j := 0) rfl, (show 2 ≤ sizeLine by decide), rfl, flat_strs ["letter", "use"], bsel_f ((inD_str ..).trans (decide_eq_false hin)) ⟨.str w, at_nat (j := 0) rfl, bsel_f (decide_eq_false n1) ⟨.str w, at_nat (j := 0) rfl, .tuple (dBs bs), at_nat (j := 1) rfl, ?_⟩⟩⟩
    refine lc_d (fun i acc κ' => κ' = [] ∧ acc = dBs (tidBs (bs.take i))) ⟨rfl, rfl⟩ ?_ ?_
    · rintro acc κ' ⟨rfl, rfl⟩
      rw [dBs_len, List.take_length]
      refine flat_w hv (by omega) ?_
      obtain ⟨u1, u2⟩ := unw_g (v := v) t1 t2
      have u3 := unw_m (v := v) (tidBs bs)
      have u4 := len_mBs (unw v (tidBs bs))
      have u5 := unw_ne (v := v) t1 (t4 hg.1)
      have hres : tidS (.br v bs) = if v then bothL ((unw v (tidBs bs)).filter fun b => !b.isEmpty) else oneOr false (choL [] (unw v (tidBs bs))) := by
        cases v <;> rfl
      rw [hres] at h
      generalize unw v (tidBs bs) = l at h u1 u2 u3 u4 u5
      refine ⟨fun δ κ => ∃ x1 x3 L, δ = [some (.d (.tuple [.str w, .tuple (dBs bs)])), x1, some (.d (.list (dBs L))), x3] ∧ κ = [] ∧ (v = false → L ≠ []) ∧ R (.d (.tuple (dB (if v then bothL L else oneOr false L)))) [], ⟨.str w, at_nat (j := 0) rfl, ?_⟩, ?_⟩
      · cases v with
        | false =>
          refine bsel_t (decide_eq_true hv) ⟨by omega, by rw [dBs_len]; omega, ?_⟩
          have hN : (((dBs l).length : Nat) : Int).toNat = l.length := by rw [dBs_len]; omega
          refine lc_r (fun i acc κ' => κ' = [] ∧ acc = dBs (choL [] (l.take i))) ⟨rfl, rfl⟩ ?_ ?_
          · rintro acc κ' ⟨rfl, rfl⟩
            rw [hN, List.take_length]
            exact ⟨_, _, _, rfl, rfl, (fun _ => (choL_ok l [] trivial u1 (Nat.zero_le _) u2).2.2.2 (.inr u5)), h⟩
          · rintro i acc κ' hi ⟨rfl, rfl⟩
            have hi : i < l.length := by omega
            obtain ⟨b, hb⟩ : ∃ b, l[i]? = some b := ⟨_, List.getElem?_eq_getElem hi⟩
            have hmem := List.mem_of_getElem? hb
            have gb := gBs_all.mp u1 b hmem
            have db : dpB b ≤ dpBs bs := dpBs_le.mp u2 b hmem
            have gt : gBs (l.take i) := gBs_all.mpr fun x hx => gBs_all.mp u1 x (List.mem_of_mem_take hx)
            have dt : dpBs (l.take i) ≤ dpBs bs := dpBs_le.mpr fun x hx => dpBs_le.mp u2 x (List.mem_of_mem_take hx)
            have hid : (0 : Int) + ((i : Nat) : Int) = ((i : Nat) : Int) := Int.zero_add _
            have hat : atI (dBs l) ((0 : Int) + ((i : Nat) : Int)) = some (.tuple (dB b)) := by
              rw [hid]; exact at_nat (by rw [dBs_map, List.getElem?_map, hb]; rfl)
            have hcut : cutD (dBs l) none (some ((0 : Int) + ((i : Nat) : Int))) = dBs (l.take i) := by
              rw [hid, cut_take _ _ (by rw [dBs_len]; omega), dBs_map, dBs_map, List.map_take]
            have hany : ((dBs (l.take i)).any fun z => PyData.eqv z (.tuple (dB b))) = inB b (l.take i) := by
              rw [dBs_map, List.any_map]; rfl
            have hstep : choL [] (l.take (i + 1)) = if inB b (l.take i) then choL [] (l.take i) else choL [] (l.take i) ++ [b] := by
              rw [List.take_add_one, hb]; exact choL_one
            have hl2 : (choL [] (l.take i)).length ≤ 100000 := by
              have h1 := (choL_ok (l.take i) [] trivial gt (Nat.zero_le _) dt).2.2.1
              have h2 := len_mBs (choL [] (l.take i))
              have h3 : mBs (l.take i) ≤ mBs l := by
                have e : l = l.take i ++ l.drop i := (List.take_append_drop ..).symm
                conv => rhs; rw [e]
                rw [mBs_app]; omega
              have h4 : mBs ([] : List (List Tr)) = 0 := rfl
              omega
            refine ⟨_, hat, sh_body gb (by omega), (by rw [hcut]; exact sh_bodies gt (by omega)), bsel_i (fun hn => ⟨_, hat, _, rfl, ?_, rfl, ?_⟩) fun hn => ⟨rfl, ?_⟩⟩
            · rw [dBs_len]; exact Nat.lt_of_le_of_lt hl2 (by decide)
            · have hn : (!((cutD (dBs l) none (some ((0 : Int) + ((i : Nat) : Int)))).any fun z => PyData.eqv z (.tuple (dB b)))) = true := hn
              rw [hcut, hany] at hn
              rw [hstep, if_neg (by simpa using hn), dBs_app]; rfl
            · have hn : (!((cutD (dBs l) none (some ((0 : Int) + ((i : Nat) : Int)))).any fun z => PyData.eqv z (.tuple (dB b)))) = false := hn
              rw [hcut, hany] at hn
              rw [hstep, if_pos (by simpa using hn)]
        | true =>
          refine bsel_f (decide_eq_false (by rw [hv]; decide +kernel)) ?_
          refine lc_d (fun i acc κ' => κ' = [] ∧ acc = dBs ((l.take i).filter fun b => !b.isEmpty)) ⟨rfl, rfl⟩ ?_ ?_
          · rintro acc κ' ⟨rfl, rfl⟩
            rw [dBs_len, List.take_length]
            exact ⟨_, _, _, rfl, rfl, (fun z => by cases z), h⟩
          · rintro i d acc κ' hx ⟨rfl, rfl⟩
            rw [dBs_map, List.getElem?_map] at hx
            obtain ⟨b, hb, rfl⟩ := Option.map_eq_some_iff.mp hx
            have hil := (List.getElem?_eq_some_iff.mp hb).1
            have hemp : (dB b).isEmpty = b.isEmpty := by cases b <;> rfl
            have hf : (l.take (i + 1)).filter (fun b => !b.isEmpty) = (l.take i).filter (fun b => !b.isEmpty) ++ (if b.isEmpty then [] else [b]) := by
              rw [List.take_add_one, hb, List.filter_append]
              cases he : b.isEmpty <;> simp [he]
            have hlen : ((l.take i).filter (fun b => !b.isEmpty)).length ≤ 100000 := Nat.le_trans (List.length_filter_le ..) (by rw [List.length_take]; omega)
            rw [hf]
            refine bsel_i (fun hn => ?_) fun hn => ?_
            · have hn : (!(dB b).isEmpty) = true := hn
              rw [hemp] at hn
              have hn : b.isEmpty = false := by simpa using hn
              rw [hn]
              refine ⟨_, rfl, ?_, rfl, ?_⟩
              · rw [dBs_len]; exact Nat.lt_of_le_of_lt hlen (by decide)
              · rw [dBs_app]; rfl
            · have hn : (!(dB b).isEmpty) = false := hn
              rw [hemp] at hn
              have hn : b.isEmpty = true := by simpa using hn
              rw [hn]
              exact ⟨rfl, by rw [if_pos rfl, List.append_nil]⟩
      · rintro δ κ ⟨x1, x3, L, rfl, rfl, hL, hR⟩ _
        match L, hL, hR with
        | [], hL, hR =>
          cases v with
          | false => exact absurd rfl (hL rfl)
          | true => exact ⟨(show 0 ≤ sizeLine by decide), _, _, GhR.refl (Nat.le_refl _), hR⟩
        | [b], hL, hR =>
          refine ⟨_, at_nat (j := 0) rfl, _, _, GhR.refl (Nat.le_refl _), ?_⟩
          cases v <;> exact hR
        | b :: b2 :: L, hL, hR =>
          have hR : R (.d (.tuple [.tuple [.str w, .tuple (dBs (b :: b2 :: L))]])) [] := by
            rw [hv]; cases v <;> exact hR
          exact ⟨.str w, at_nat (j := 0) rfl, _, rfl, (show 2 ≤ sizeLine by decide), (show 1 ≤ sizeLine by decide), _, _, GhR.refl (Nat.le_refl _), hR⟩
    · rintro i x acc κ' hx ⟨rfl, ha⟩
      rw [dBs_map, List.getElem?_map] at hx
      obtain ⟨b, hb, rfl⟩ := Option.map_eq_some_iff.mp hx
      have hmem := List.mem_of_getElem? hb
      have h1 : dpB b ≤ dpBs bs := dpBs_le.mp (Nat.le_refl _) b hmem
      have h2 := mBs_one hmem
      have h3 := len_mBs bs
      have h4 := (List.getElem?_eq_some_iff.mp hb).1
      refine tidy_w (gBs_all.mp hg.2 b hmem) (by omega) (by omega) (by omega) ⟨_, rfl, ?_, rfl, ?_⟩
      · rw [ha, dBs_len, tidBs_map, List.length_map, List.length_take]; exact Nat.lt_of_le_of_lt (show min i bs.length ≤ 100000 by omega) (by decide)
      · rw [ha, List.take_add_one, hb, tidBs_map, tidBs_map, List.map_append, dBs_app]; rfl
/-! ### wrapped, and the law -/
theorem src_take1 {s : Cell} {κr : AK} (h : isSrc s) : ((s :: κr : AK).take 1).all (okC 1) = true := by
  obtain ⟨ns, i, x, y, rfl, _⟩ := h; rfl
def a__law_wrapped (K : PySem.W.Frag) : AS :=
  (aSeq (aSet 2 (aVar 1)) (aSeq (aFor (aRng1 (aCons (aOp aAdd (aC (.d (.int 1))) (aCall Com.F__law_pick (fun _ _ => False) (aCons (aVar 0) (aCons (aC (.d (.int 4))) aNil)))) aNil)) (aName 3) (aSeq (aSet 4 (aCall Com.F__law_pick (fun _ _ => False) (aCons (aVar 0) (aCons (aC (.d (.int 6))) aNil)))) (aIfS (aB (aOp aEq (aVar 4) (aC (.d (.int 0))))) (aSet 2 (aTup (aCons (aTup (aCons (aC (.d (.str "loop"))) (aCons (aVar 2) aNil))) aNil))) (aIfS (aB (aOp aEq (aVar 4) (aC (.d (.int 1))))) (aSet 2 (aTup (aCons (aTup (aCons (aC (.d (.str "choice"))) (aCons (aTup (aCons (aVar 2) aNil)) aNil))) aNil))) (aIfS (aB (aOp aEq (aVar 4) (aC (.d (.int 2))))) (aSet 2 (aTup (aCons (aTup (aCons (aC (.d (.str "both"))) (aCons (aTup (aCons (aVar 2) aNil)) aNil))) aNil))) (aIfS (aB (aOp aEq (aVar 4) (aC (.d (.int 3))))) (aSet 2 (aTup (aCons (aTup (aCons (aC (.d (.str "choice"))) (aCons (aTup (aCons (aVar 2) (aCons (aVar 1) (aCons (aVar 2) aNil)))) aNil))) aNil))) (aIfS (aB (aOp aEq (aVar 4) (aC (.d (.int 4))))) (aSet 2 (aTup (aCons (aTup (aCons (aC (.d (.str "both"))) (aCons (aTup (aCons (aTup aNil) (aCons (aVar 2) (aCons (aTup aNil) aNil)))) aNil))) aNil))) (aSet 2 (aOp aAdd (aVar 2) (aVar 1)))))))))) (aRet (aVar 2))))
theorem len__law_wrapped : ∀ as κ R E', F__law_wrapped as κ R E' → as.length = (["source", "body"] : List Str).length := by
  rintro as κ R E' ⟨s, b, rfl, _⟩; rfl
theorem rd__law_wrapped : ∀ as κ R E', F__law_wrapped as κ R E' → a__law_wrapped K (endsA K κ.length R) (startA N__law_wrapped as) κ := by
  rintro as κ R E' ⟨s, b, rfl, rfl, hs, hg, hd, hm, h⟩
  refine pick_w hs (by decide) (by decide) fun v s1 hs1 v0 v1 => ⟨by omega, by omega, ?_⟩
  refine for_r (fun i δ κ => ∃ (s : Cell) (c : List Tr) (x3 x4 : Option AV), δ = [some (.c 0), some (.d (.tuple (dB b))), some (.d (.tuple (dB c))), x3, x4] ∧ κ = [s] ∧ isSrc s ∧ gB c ∧ dpB c ≤ 8 + i ∧ mB c ≤ 60 * 3 ^ i) ⟨s1, b, none, none, rfl, rfl, hs1, hg, by omega, by simp; omega⟩ ?_ ?_
  · rintro δ κ ⟨s2, c, x3, x4, rfl, rfl, hs2, cg, cd, cm⟩ _
    have h4 : (1 + v).toNat ≤ 4 := by omega
    have h5 : 3 ^ (1 + v).toNat ≤ 3 ^ 4 := Nat.pow_le_pow_right (by decide) h4
    exact ⟨_, _, GhR.refl (Nat.le_refl _), h c s2 hs2 cg (by omega) (by omega)⟩
  · rintro i δ κ hi ⟨s2, c, x3, x4, rfl, rfl, hs2, cg, cd, cm⟩ _
    have hp : 1 ≤ 3 ^ i := Nat.one_le_pow _ _ (by decide)
    have hp2 : 3 ^ (i + 1) = 3 ^ i * 3 := Nat.pow_succ ..
    have l1 := len_mB c
    have l2 := len_mB b
    have hi4 : i ≤ 3 := by omega
    have hp3 : 3 ^ i ≤ 3 ^ 3 := Nat.pow_le_pow_right (by decide) hi4
    refine pick_w hs2 (by decide) (by decide) fun u s3 hs3 u0 u1 => ?_
    have fin : ∀ (c' : List Tr) (x3 x4 : Option AV) (d : List PyData), d = dB c' → gB c' → dpB c' ≤ 8 + (i + 1) → mB c' ≤ 60 * 3 ^ (i + 1) → ∃ (s : Cell) (c : List Tr) (y3 y4 : Option AV), [some (AV.c 0), some (.d (.tuple (dB b))), some (.d (.tuple d)), x3, x4] = [some (.c 0), some (.d (.tuple (dB b))), some (.d (.tuple (dB c))), y3, y4] ∧ [s3] = [s] ∧ isSrc s ∧ gB c ∧ dpB c ≤ 8 + (i + 1) ∧ mB c ≤ 60 * 3 ^ (i + 1) := fun c' x3 x4 d e h1 h2 h3 => ⟨s3, c', x3, x4, by rw [e], rfl, hs3, h1, h2, h3⟩
    refine bsel_i (fun _ => ⟨(show 2 ≤ sizeLine by decide), (show 1 ≤ sizeLine by decide), fin [.loop c] _ _ _ rfl ⟨cg, trivial⟩ ?_ ?_⟩) fun _ => bsel_i (fun _ => ⟨(show 1 ≤ sizeLine by decide), (show 2 ≤ sizeLine by decide), (show 1 ≤ sizeLine by decide), fin [.br false [c]] _ _ _ rfl ⟨⟨(fun z => by cases z), cg, trivial⟩, trivial⟩ ?_ ?_⟩) fun _ => bsel_i (fun _ => ⟨(show 1 ≤ sizeLine by decide), (show 2 ≤ sizeLine by decide), (show 1 ≤ sizeLine by decide), fin [.br true [c]] _ _ _ rfl ⟨⟨(fun z => by cases z), cg, trivial⟩, trivial⟩ ?_ ?_⟩) fun _ => bsel_i (fun _ => ⟨(show 3 ≤ sizeLine by decide), (show 2 ≤ sizeLine by decide), (show 1 ≤ sizeLine by decide), fin [.br false [c, b, c]] _ _ _ rfl ⟨⟨(fun z => by cases z), cg, hg, cg, trivial⟩, trivial⟩ ?_ ?_⟩) fun _ => bsel_i (fun _ => ⟨(show 0 ≤ sizeLine by decide), (show 0 ≤ sizeLine by decide), (show 3 ≤ sizeLine by decide), (show 2 ≤ sizeLine by decide), (show 1 ≤ sizeLine by decide), fin [.br true [[], c, []]] _ _ _ rfl ⟨⟨(fun z => by cases z), trivial, cg, trivial, trivial⟩, trivial⟩ ?_ ?_⟩) fun _ => ⟨?_, fin (c ++ b) _ _ _ (dB_app c b).symm (gB_app cg hg) (dpB_app (by omega) (by omega)) ?_⟩
    · show max (dpB c + 1) 0 ≤ _; omega
    · show 1 + mB c + 0 ≤ _; omega
    · show max (max (dpB c) 0 + 1) 0 ≤ _; omega
    · show 1 + (1 + mB c + 0) + 0 ≤ _; omega
    · show max (max (dpB c) 0 + 1) 0 ≤ _; omega
    · show 1 + (1 + mB c + 0) + 0 ≤ _; omega
    · show max (max (dpB c) (max (dpB b) (max (dpB c) 0)) + 1) 0 ≤ _; omega
    · show 1 + (1 + mB c + (1 + mB b + (1 + mB c + 0))) + 0 ≤ _; omega
    · show max (max 0 (max (dpB c) (max 0 0)) + 1) 0 ≤ _; omega
    · show 1 + (1 + 0 + (1 + mB c + (1 + 0 + 0))) + 0 ≤ _; omega
    · rw [dB_len, dB_len]; exact Nat.le_trans (show _ ≤ 100000 by omega) (by decide)
    · rw [mB_app]; omega
def a_law (K : PySem.W.Frag) : AS :=
  (aSeq (aSet 1 (aCall Com.F__law_source (fun _ _ => False) (aCons (aVar 0) aNil))) (aSeq (aFor (aRng1 (aCons (aOp aAdd (aC (.d (.int 3))) (aCB aMin2 (aCons (aC (.d (.int 30))) (aCons (aOp aDiv (aCB aLen (aCons (aVar 0) aNil)) (aC (.d (.int 2)))) aNil)))) aNil)) (aName 2) (aSeq (aSet 3 (aDisp (aPCons (aC (.d (.str "parties"))) (aCall Com.F__law_names (fun _ _ => False) (aCons (aVar 1) (aCons (aOp aAdd (aC (.d (.int 2))) (aCall Com.F__law_pick (fun _ _ => False) (aCons (aVar 1) (aCons (aC (.d (.int 3))) aNil)))) (aCons (aLstD aNil) aNil)))) (aPCons (aC (.d (.str "room"))) (aC (.d (.int 12))) (aPCons (aC (.d (.str "deep"))) (aC (.d (.int 4))) aPNil))))) (aSeq (aDPut (aVar 3) (aC (.d (.str "labels"))) (aCall Com.F__law_names (fun _ _ => False) (aCons (aVar 1) (aCons (aOp aAdd (aC (.d (.int 1))) (aCall Com.F__law_pick (fun _ _ => False) (aCons (aVar 1) (aCons (aC (.d (.int 2))) aNil)))) (aCons (aLstD aNil) aNil))))) (aSeq (aDPut (aVar 3) (aC (.d (.str "earlier"))) (aLstD (aCons (aTup (aCons (aC (.d (.str "p"))) (aCons (aC (.d (.int 1))) aNil))) (aCons (aTup (aCons (aC (.d (.str "q"))) (aCons (aC (.d (.int 2))) aNil))) aNil)))) (aSeq (aSet 4 (aOp aAdd (aCall (Com.FF__law_body 20) (fun _ _ => False) (aCons (aVar 1) (aCons (aVar 3) (aCons (aC (.d (.int 0))) aNil)))) (aCall (Com.FF__law_body 20) (fun _ _ => False) (aCons (aVar 1) (aCons (aVar 3) (aCons (aC (.d (.int 0))) aNil)))))) (aCut (aIfS (aB (aOp aEq (aCall Com.F__law_pick (fun _ _ => False) (aCons (aVar 1) (aCons (aC (.d (.int 2))) aNil))) (aC (.d (.int 0))))) (aSet 4 (aCall F__law_wrapped (fun _ _ => False) (aCons (aVar 1) (aCons (aVar 4) aNil)))) aNext) (aSeq (aIfS (aNot (aTru (aCall (Com.F_same 40) (fun _ _ => False) (aCons (aCall (FF_tidy 40) (fun _ _ => False) (aCons (aVar 4) aNil)) (aCons (aCall (FF__law_tidy 40) (fun _ _ => False) (aCons (aVar 4) aNil)) aNil))))) (aRet (aC (.d (.bool false)))) aNext) (aGh K aNext)))))))) (aRet (aC (.d (.bool true))))))
section
variable {ps : List Str} {er : List (Str × Nat)} (ok : okN ps er)
include ok
mutual
theorem g_ofS : ∀ t : Tr, okS ps er t → gS t ∧ mS t ≤ 4 * szS t
  | .letter a b c, h => ⟨⟨name_ok (ok.p _ h.1), name_ok (ok.p _ h.2.1), name_ok h.2.2.2⟩, by show 1 ≤ 4 * 1; omega⟩
  | .use n qs, h => by
    obtain ⟨o1, o2, o3, o4⟩ := okS_use ok h
    exact ⟨⟨name_ok o1, fun q hq => name_ok (o4 q hq), by omega⟩, by show 1 ≤ 4 * 1; omega⟩
  | .loop b, h => by
    obtain ⟨i1, i2⟩ := g_ofB b h
    exact ⟨i1, by show 1 + mB b ≤ 4 * (szB b + 1); omega⟩
  | .br v bs, h => by
    obtain ⟨i1, i2⟩ := g_ofBs bs h.2.2
    have h3 := h.2.1
    exact ⟨⟨h.1, i1⟩, by show 1 + mBs bs ≤ 4 * (szBs bs + 1); omega⟩
theorem g_ofB : ∀ b : List Tr, okB ps er b → gB b ∧ mB b ≤ 4 * szB b
  | [], _ => ⟨trivial, Nat.zero_le _⟩
  | t :: b, h => by
    obtain ⟨i1, i2⟩ := g_ofS t h.1
    obtain ⟨j1, j2⟩ := g_ofB b h.2
    exact ⟨⟨i1, j1⟩, by show mS t + mB b ≤ 4 * (szS t + szB b); omega⟩
theorem g_ofBs : ∀ bs : List (List Tr), okBs ps er bs → gBs bs ∧ mBs bs ≤ bs.length + 4 * szBs bs
  | [], _ => ⟨trivial, Nat.zero_le _⟩
  | b :: bs, h => by
    obtain ⟨i1, i2⟩ := g_ofB b h.1
    obtain ⟨j1, j2⟩ := g_ofBs bs h.2
    refine ⟨⟨i1, j1⟩, ?_⟩
    show 1 + mB b + mBs bs ≤ (b :: bs).length + 4 * (szB b + szBs bs)
    rw [List.length_cons]; omega
end
end
mutual
theorem sdgS : ∀ (t : Tr) (n : Nat), gS t → mS t ≤ 5000 → 3 * dpS t + 3 ≤ n → sdep n (dS t)
  | .letter a b c, n, _, _, h => by
    obtain ⟨m, rfl⟩ : ∃ m, n = m + 3 := ⟨n - 3, by omega⟩
    refine ⟨(show 4 < 2 ^ 62 by decide), fun d hd => ?_⟩
    simp only [List.mem_cons, List.mem_nil_iff, or_false] at hd
    rcases hd with rfl | rfl | rfl | rfl <;> trivial
  | .use nn qs, n, h, _, hn => by
    obtain ⟨m, rfl⟩ : ∃ m, n = m + 3 := ⟨n - 3, by omega⟩
    have hq := h.2.2
    refine ⟨(show 3 < 2 ^ 62 by decide), fun d hd => ?_⟩
    simp only [List.mem_cons, List.mem_nil_iff, or_false] at hd
    rcases hd with rfl | rfl | rfl
    · trivial
    · trivial
    · refine ⟨by rw [List.length_map]; omega, fun d hd => ?_⟩
      obtain ⟨q, _, rfl⟩ := List.mem_map.mp hd; trivial
  | .loop b, n, h, hz, hn => by
    have hn : 3 * (dpB b + 1) + 3 ≤ n := hn
    have hz : 1 + mB b ≤ 5000 := hz
    obtain ⟨m, rfl⟩ : ∃ m, n = m + 2 := ⟨n - 2, by omega⟩
    have hc := len_mB b
    refine ⟨(show 2 < 2 ^ 62 by decide), fun d hd => ?_⟩
    simp only [List.mem_cons, List.mem_nil_iff, or_false] at hd
    rcases hd with rfl | rfl
    · trivial
    · exact ⟨by rw [dB_len]; omega, sdgB b m h (by omega) (by omega)⟩
  | .br v bs, n, h, hz, hn => by
    have hn : 3 * (dpBs bs + 1) + 3 ≤ n := hn
    have hz : 1 + mBs bs ≤ 5000 := hz
    obtain ⟨m, rfl⟩ : ∃ m, n = m + 3 := ⟨n - 3, by omega⟩
    have hc := len_mBs bs
    refine ⟨(show 2 < 2 ^ 62 by decide), fun d hd => ?_⟩
    simp only [List.mem_cons, List.mem_nil_iff, or_false] at hd
    rcases hd with rfl | rfl
    · trivial
    · exact ⟨by rw [dBs_len]; omega, sdgBs bs m h.2 (by omega) (by omega)⟩
theorem sdgB : ∀ (b : List Tr) (n : Nat), gB b → mB b ≤ 5000 → 3 * dpB b + 3 ≤ n → ∀ d ∈ dB b, sdep n d
  | [], _, _, _, _, d, hd => by cases hd
  | s :: b, n, h, hz, hn, d, hd => by
    have hz : mS s + mB b ≤ 5000 := hz
    have hn : 3 * max (dpS s) (dpB b) + 3 ≤ n := hn
    rcases List.mem_cons.mp (show d ∈ dS s :: dB b from hd) with rfl | hd
    · exact sdgS s n h.1 (by omega) (by omega)
    · exact sdgB b n h.2 (by omega) (by omega) d hd
theorem sdgBs : ∀ (bs : List (List Tr)) (n : Nat), gBs bs → mBs bs ≤ 5000 → 3 * dpBs bs + 3 ≤ n → ∀ d ∈ dBs bs, sdep (n + 1) d
  | [], _, _, _, _, d, hd => by cases hd
  | s :: b, n, h, hz, hn, d, hd => by
    have hz : 1 + mB s + mBs b ≤ 5000 := hz
    have hn : 3 * max (dpB s) (dpBs b) + 3 ≤ n := hn
    have hc := len_mB s
    rcases List.mem_cons.mp (show d ∈ PyData.tuple (dB s) :: dBs b from hd) with rfl | hd
    · exact ⟨by rw [dB_len]; omega, sdgB s n h.1 (by omega) (by omega)⟩
    · exact sdgBs b n h.2 (by omega) (by omega) d hd
end
theorem sd_tid {b : List Tr} (hg : gB b) (hd : dpB b ≤ 12) (hm : mB b ≤ 5000) : sdep 40 (.tuple (dB (tidB b))) := by
  obtain ⟨i1, i2, i3⟩ := tidB_ok b hg
  have hc := len_mB (tidB b)
  exact ⟨by rw [dB_len]; omega, sdgB (tidB b) 39 i1 (by omega) (by omega)⟩
def kvW (ps lb : List Str) (rm : Int) : List (L2.Key × PyData) := [(.inr "parties", .list (ps.map .str)), (.inr "room", .int rm), (.inr "deep", .int 4), (.inr "labels", .list (lb.map .str)), (.inr "earlier", .list (([("p", 1), ("q", 2)] : List (Str × Nat)).map fun p => .tuple [.str p.1, .int p.2]))]
theorem s_ed2 : ("deep" : Str) ≠ "labels" := by decide +kernel
theorem s_de : ("deep" : Str) ≠ "earlier" := by decide +kernel
theorem s_re : ("room" : Str) ≠ "earlier" := by decide +kernel
theorem s_le : ("labels" : Str) ≠ "earlier" := by decide +kernel
theorem s_dl : ("deep" : Str) ≠ "labels" := by decide +kernel
theorem wd_law {ps lb : List Str} : Wd (kvW ps lb) ps [("p", 1), ("q", 2)] lb 4 where
  gp _ := valD_pos rfl
  ge _ := (valD_neg (kne s_pe)).trans ((valD_neg (kne s_re)).trans ((valD_neg (kne s_de)).trans ((valD_neg (kne s_le)).trans (valD_pos rfl))))
  gr _ := (valD_neg (kne s_pr)).trans (valD_pos rfl)
  gl _ := (valD_neg (kne s_pl)).trans ((valD_neg (kne s_rl)).trans ((valD_neg (kne s_dl)).trans (valD_pos rfl)))
  gd _ := (valD_neg (kne s_pd)).trans ((valD_neg (kne s_rd)).trans (valD_pos rfl))
  pr _ _ := by simp [putD, kvW, s_pr, s_lr, s_dr, s_er]
  wl _ := (show 5 ≤ 1000 by decide)
theorem mk3 {a b c : PyData} : mergeD [] [(.inr "parties", a), (.inr "room", b), (.inr "deep", c)] = [(.inr "parties", a), (.inr "room", b), (.inr "deep", c)] := by
  simp [mergeD, putD, s_pr, s_pd, s_rd]
theorem put3 {a b c d : PyData} : putD [(.inr "parties", a), (.inr "room", b), (.inr "deep", c)] (.inr "labels") d = [(.inr "parties", a), (.inr "room", b), (.inr "deep", c), (.inr "labels", d)] := by
  simp [putD, s_pl, s_rl, s_dl]
theorem put4 {a b c d e : PyData} : putD [(.inr "parties", a), (.inr "room", b), (.inr "deep", c), (.inr "labels", d)] (.inr "earlier") e = [(.inr "parties", a), (.inr "room", b), (.inr "deep", c), (.inr "labels", d), (.inr "earlier", e)] := by
  simp [putD, s_pe, s_re, s_de, s_le]
theorem nm_p : isName "p" := ⟨⟨112, [], by decide +kernel, by unfold low; omega, by simp, by simp⟩, by decide +kernel⟩
theorem nm_q : isName "q" := ⟨⟨113, [], by decide +kernel, by unfold low; omega, by simp, by simp⟩, by decide +kernel⟩
theorem wrapped_w {s : Cell} {κr : AK} {b : List Tr} {E : AX → AK → Prop} {R : AR} (hs : isSrc s) (hg : gB b) (hd : dpB b ≤ 8) (hm : mB b ≤ 50) (k : ∀ b' s', isSrc s' → gB b' → dpB b' ≤ 12 → mB b' ≤ 5000 → R (.d (.tuple (dB b'))) (s' :: κr)) : callW F__law_wrapped E [.c 0, .d (.tuple (dB b))] (s :: κr) R :=
  callW_i ⟨[0], _, _, by decide, rfl, sel0 hs, s, b, rfl, rfl, hs, hg, hd, hm, fun b' s' hs' h1 h2 h3 => ⟨Nat.le_refl _, cl1 hs', rfl, k b' s' hs' h1 h2 h3⟩⟩
theorem rd_law : ∀ as κ R E', F_law as κ R E' → a_law K (endsA K κ.length R) (startA N_law as) κ := by
  rintro as κ R E' ⟨ns, rfl, rfl, hn, h⟩
  refine source_w fun s0 hs0 => ?_
  have ln : (ns.map PyData.int).length = ns.length := List.length_map ..
  have hdv : CDiv ((ns.map PyData.int).length : Nat) 2 := ⟨by decide, by omega⟩
  have hmin : ∀ n : Int, 0 ≤ n → n ≤ 63 → -(2 ^ 62) ≤ 3 + (if n / 2 < 30 then n / 2 else 30) ∧ 3 + (if n / 2 < 30 then n / 2 else 30) < 2 ^ 62 := fun n h0 h1 => by split <;> omega
  obtain ⟨m1, m2⟩ := hmin ((ns.map PyData.int).length : Nat) (by omega) (by omega)
  refine ⟨hdv, m1, m2, ?_⟩
  refine for_r (fun i δ κ => ∃ s x2 x3 x4, δ = [some (.d (.list (ns.map .int))), some (.c 0), x2, x3, x4] ∧ κ = [s] ∧ isSrc s) ⟨s0, none, none, none, rfl, rfl, hs0⟩ ?_ ?_
  · rintro δ κ ⟨s, x2, x3, x4, rfl, rfl, hs⟩ _
    exact ⟨_, _, GhR.take 0 (Nat.le_refl _) (show 0 ≤ 1 by decide) rfl rfl, h⟩
  · rintro i δ κ hi ⟨s, x2, x3, x4, rfl, rfl, hs⟩ _
    refine pick_w hs (by decide) (by decide) fun v s1 hs1 v0 v1 => ⟨(show 0 ≤ sizeLine by decide), names_w (tk := []) hs1 (by omega) (by omega) (Nat.zero_le _) fun ps s2 hs2 hpl hpn hps => ?_⟩
    refine ⟨[(.inr "parties", .list (ps.map .str)), (.inr "room", .int 12), (.inr "deep", .int 4)], rfl, (show 3 ≤ 15 by decide), ?_⟩
    refine pick_w hs2 (by decide) (by decide) fun v3 s3 hs3 w0 w1 => ⟨(show 0 ≤ sizeLine by decide), names_w (tk := []) hs3 (by omega) (by omega) (Nat.zero_le _) fun lb s4 hs4 hll hln hlb => ?_⟩
    refine ⟨_, .inr "labels", _, rfl, rfl, rfl, (by rw [mk3]; exact (show 3 < sizeLine by decide)), ?_⟩
    refine ⟨(show 2 ≤ sizeLine by decide), (show 2 ≤ sizeLine by decide), (show 2 ≤ sizeLine by decide), _, .inr "earlier", _, rfl, rfl, rfl, (by rw [mk3, put3]; exact (show 4 < sizeLine by decide)), ?_⟩
    have okn : okN ps [("p", 1), ("q", 2)] := ⟨fun x hx => (hps x hx).1, by omega, fun x hx => by
      simp only [List.mem_cons, List.mem_nil_iff, or_false] at hx
      rcases hx with rfl | rfl
      · exact ⟨nm_p, (by decide : 0 < 1)⟩
      · exact ⟨nm_q, (by decide : 0 < 2)⟩⟩
    have ok : okW (kvW ps lb) ps [("p", 1), ("q", 2)] lb 4 := ⟨okn.p, hpn, by omega, by omega, fun x hx => by
      simp only [List.mem_cons, List.mem_nil_iff, or_false] at hx
      rcases hx with rfl | rfl
      · exact ⟨nm_p, (by decide : 0 < 1), (by decide : 1 ≤ 6)⟩
      · exact ⟨nm_q, (by decide : 0 < 2), (by decide : 2 ≤ 6)⟩, (by decide : 2 ≤ 1000), fun x hx => (hlb x hx).1, by omega, by omega, wd_law⟩
    refine body_w (W := kvW ps lb) (rm := 12) (d := 0) (by rw [mk3, put3, put4]; rfl) rfl hs4 ok (by decide) (by decide) (by decide) (by decide) (by decide) fun s5 b1 r1 hs5 ob1 od1 or1 oz1 => ?_
    refine body_w (W := kvW ps lb) (rm := r1) (d := 0) rfl rfl hs5 ok (by decide) (by decide) or1 (by omega) (by decide) fun s6 b2 r2 hs6 ob2 od2 or2 oz2 => ?_
    obtain ⟨g1, q1⟩ := g_ofB okn b1 ob1
    obtain ⟨g2, q2⟩ := g_ofB okn b2 ob2
    have l1 := len_mB b1
    have l2 := len_mB b2
    have hg0 : gB (b1 ++ b2) := gB_app g1 g2
    have hd0 : dpB (b1 ++ b2) ≤ 8 := dpB_app (by omega) (by omega)
    have hm0 : mB (b1 ++ b2) ≤ 50 := by rw [mB_app]; omega
    refine ⟨by rw [dB_len, dB_len]; exact Nat.le_trans (show _ ≤ 100000 by omega) (by decide), ?_⟩
    refine ⟨fun δ κ => ∃ (s : Cell) (c : List Tr) (x2 : Option AV), δ = [some (.d (.list (ns.map .int))), some (.c 0), x2, some (.c 1), some (.d (.tuple (dB c)))] ∧ κ = [s, .dK (kvW ps lb r2)] ∧ isSrc s ∧ gB c ∧ dpB c ≤ 12 ∧ mB c ≤ 5000, pick_w hs6 (by decide) (by decide) fun u s7 hs7 u0 u1 => bsel_i (fun _ => ?_) fun _ => ?_, ?_⟩
    · rw [← dB_app]
      exact wrapped_w hs7 hg0 hd0 hm0 fun c s8 hs8 cg cd cm => ⟨s8, c, _, rfl, rfl, hs8, cg, cd, cm⟩
    · exact ⟨s7, b1 ++ b2, _, by rw [dB_app]; rfl, rfl, hs7, hg0, by omega, by omega⟩
    · rintro δ κ ⟨s8, c, x2, rfl, rfl, hs8, cg, cd, cm⟩ _
      refine tidy_w cg (by omega) (by omega) (by omega) (tidy_w cg (by omega) (by omega) (by omega) (same_w (sd_tid cg cd cm) ?_))
      exact ⟨_, _, (GhS.wipe [2, 3, 4] (show 1 ≤ 2 by decide)).trans (GhS.take 1 (Nat.le_refl _) (show 1 ≤ 2 by decide) (src_take1 hs8) rfl), s8, _, _, _, rfl, rfl, hs8⟩
structure Txt (K : PySem.W.Frag) (mg : Str → Option Value) where
  m_bool : mg "bool" = none
  m_int : mg "int" = none
  m_isinstance : mg "isinstance" = none
  m_len : mg "len" = none
  m_list : mg "list" = none
  m_min : mg "min" = none
  m_range : mg "range" = none
  m_str : mg "str" = none
  m_tuple : mg "tuple" = none
  f__law_source : Addr
  fd__law_source : FuncData
  g__law_source : mg "_law_source" = some (.ref f__law_source)
  F__law_source : Fun K "_law_source" "_law_source" s__law_source f__law_source fd__law_source
  b__law_source : Binds K fd__law_source ["script"] []
  f__law_pick : Addr
  fd__law_pick : FuncData
  g__law_pick : mg "_law_pick" = some (.ref f__law_pick)
  F__law_pick : Fun K "_law_pick" "_law_pick" s__law_pick f__law_pick fd__law_pick
  b__law_pick : Binds K fd__law_pick ["source", "many"] []
  f__law_name : Addr
  fd__law_name : FuncData
  g__law_name : mg "_law_name" = some (.ref f__law_name)
  F__law_name : Fun K "_law_name" "_law_name" s__law_name f__law_name fd__law_name
  b__law_name : Binds K fd__law_name ["source", "taken"] []
  f__law_names : Addr
  fd__law_names : FuncData
  g__law_names : mg "_law_names" = some (.ref f__law_names)
  F__law_names : Fun K "_law_names" "_law_names" s__law_names f__law_names fd__law_names
  b__law_names : Binds K fd__law_names ["source", "many", "taken"] []
  f__law_use : Addr
  fd__law_use : FuncData
  g__law_use : mg "_law_use" = some (.ref f__law_use)
  F__law_use : Fun K "_law_use" "_law_use" s__law_use f__law_use fd__law_use
  b__law_use : Binds K fd__law_use ["source", "world"] []
  f__law_letter : Addr
  fd__law_letter : FuncData
  g__law_letter : mg "_law_letter" = some (.ref f__law_letter)
  F__law_letter : Fun K "_law_letter" "_law_letter" s__law_letter f__law_letter fd__law_letter
  b__law_letter : Binds K fd__law_letter ["source", "world"] []
  f__law_step : Addr
  fd__law_step : FuncData
  g__law_step : mg "_law_step" = some (.ref f__law_step)
  F__law_step : Fun K "_law_step" "_law_step" s__law_step f__law_step fd__law_step
  b__law_step : Binds K fd__law_step ["source", "world", "depth"] []
  f__law_body : Addr
  fd__law_body : FuncData
  g__law_body : mg "_law_body" = some (.ref f__law_body)
  F__law_body : Fun K "_law_body" "_law_body" s__law_body f__law_body fd__law_body
  b__law_body : Binds K fd__law_body ["source", "world", "depth"] []
  f__law_wrapped : Addr
  fd__law_wrapped : FuncData
  g__law_wrapped : mg "_law_wrapped" = some (.ref f__law_wrapped)
  F__law_wrapped : Fun K "_law_wrapped" "_law_wrapped" s__law_wrapped f__law_wrapped fd__law_wrapped
  b__law_wrapped : Binds K fd__law_wrapped ["source", "body"] []
  f__law_same : Addr
  fd__law_same : FuncData
  g__law_same : mg "_law_same" = some (.ref f__law_same)
  F__law_same : Fun K "_law_same" "_law_same" s__law_same f__law_same fd__law_same
  b__law_same : Binds K fd__law_same ["actual", "due"] []
  f__is_one : Addr
  fd__is_one : FuncData
  g__is_one : mg "_is_one" = some (.ref f__is_one)
  F__is_one : Fun K "_is_one" "_is_one" s__is_one f__is_one fd__is_one
  b__is_one : Binds K fd__is_one ["body", "kind"] []
  f__loop_of : Addr
  fd__loop_of : FuncData
  g__loop_of : mg "_loop_of" = some (.ref f__loop_of)
  F__loop_of : Fun K "_loop_of" "_loop_of" s__loop_of f__loop_of fd__loop_of
  b__loop_of : Binds K fd__loop_of ["body"] []
  f__unwrapped : Addr
  fd__unwrapped : FuncData
  g__unwrapped : mg "_unwrapped" = some (.ref f__unwrapped)
  F__unwrapped : Fun K "_unwrapped" "_unwrapped" s__unwrapped f__unwrapped fd__unwrapped
  b__unwrapped : Binds K fd__unwrapped ["bodies", "kind"] []
  f__choice_of : Addr
  fd__choice_of : FuncData
  g__choice_of : mg "_choice_of" = some (.ref f__choice_of)
  F__choice_of : Fun K "_choice_of" "_choice_of" s__choice_of f__choice_of fd__choice_of
  b__choice_of : Binds K fd__choice_of ["bodies"] []
  f__both_of : Addr
  fd__both_of : FuncData
  g__both_of : mg "_both_of" = some (.ref f__both_of)
  F__both_of : Fun K "_both_of" "_both_of" s__both_of f__both_of fd__both_of
  b__both_of : Binds K fd__both_of ["bodies"] []
  f_tidy : Addr
  fd_tidy : FuncData
  g_tidy : mg "tidy" = some (.ref f_tidy)
  F_tidy : Fun K "tidy" "tidy" s_tidy f_tidy fd_tidy
  b_tidy : Binds K fd_tidy ["body"] []
  f__tidy_step : Addr
  fd__tidy_step : FuncData
  g__tidy_step : mg "_tidy_step" = some (.ref f__tidy_step)
  F__tidy_step : Fun K "_tidy_step" "_tidy_step" s__tidy_step f__tidy_step fd__tidy_step
  b__tidy_step : Binds K fd__tidy_step ["step"] []
  f__law_flat : Addr
  fd__law_flat : FuncData
  g__law_flat : mg "_law_flat" = some (.ref f__law_flat)
  F__law_flat : Fun K "_law_flat" "_law_flat" s__law_flat f__law_flat fd__law_flat
  b__law_flat : Binds K fd__law_flat ["kind", "bodies"] []
  f__law_tidy_step : Addr
  fd__law_tidy_step : FuncData
  g__law_tidy_step : mg "_law_tidy_step" = some (.ref f__law_tidy_step)
  F__law_tidy_step : Fun K "_law_tidy_step" "_law_tidy_step" s__law_tidy_step f__law_tidy_step fd__law_tidy_step
  b__law_tidy_step : Binds K fd__law_tidy_step ["step"] []
  f__law_tidy : Addr
  fd__law_tidy : FuncData
  g__law_tidy : mg "_law_tidy" = some (.ref f__law_tidy)
  F__law_tidy : Fun K "_law_tidy" "_law_tidy" s__law_tidy f__law_tidy fd__law_tidy
  b__law_tidy : Binds K fd__law_tidy ["body"] []
  f_law : Addr
  fd_law : FuncData
  g_law : mg "law" = some (.ref f_law)
  F_law : Fun K "law" "law" s_law f_law fd_law
  b_law : Binds K fd_law ["script"] []
section
variable {P : Program} {w : World} {K : PySem.W.Frag} {mg : Str → Option Value} {base : Heap}
theorem ok__law_source (T : Txt K mg)  : FnOk P w K mg base CX0 1 T.f__law_source T.fd__law_source ["script"] (spA K Com.F__law_source) :=
  fn_ok T.F__law_source sc__law_source Com.len__law_source fun cdv A outer s H E hr => ⟨_, Com.a__law_source K, (sa_one (sa_ret (ea_lst (aa_cons (ea_ct (ca_list false) (by rfl) T.m_list (by decide +kernel) (aa_cons (av 0) aa_nil)) (aa_cons ea_int (aa_cons ea_int (aa_cons ea_int aa_nil))))))), Com.rd__law_source⟩
theorem ok__law_pick (T : Txt K mg)  : FnOk P w K mg base CX0 1 T.f__law_pick T.fd__law_pick ["source", "many"] (spA K Com.F__law_pick) :=
  fn_ok T.F__law_pick sc__law_pick Com.len__law_pick fun cdv A outer s H E hr => ⟨_, Com.a__law_pick K, (sa_cut (sa_if (PWa.pt (wa_and (ta_cmp (oa_eq hr) (ea_ix (av 0) ea_int) ea_int) (wa_and1 (ta_cmp oa_lt (ea_ix (av 0) ea_int) (ea_cb ca_len (by rfl) T.m_len (by decide +kernel) (aa_cons (ea_ix (av 0) ea_int) aa_nil)))))) (sa_cons (sa_set (i := 2) sc__law_pick.nd rfl (Or.inl rfl) (ea_ix (ea_ix (av 0) ea_int) (ea_ix (av 0) ea_int))) (sa_cons (sa_asg (ea_op oa_add (ea_ix (av 0) ea_int) ea_int) (ga_sub (av 0) ea_int sta_list)) (sa_one (sa_if (ta_cmp oa_gt (av 2) (ea_op oa_pow ea_int ea_int)) (sa_one (sa_asg (ea_op oa_sub (av 2) (ea_op oa_pow ea_int ea_int)) (ga_sub (av 0) ea_int sta_list))) (sa_one (sa_asg (ea_op oa_mod (ea_ct ca_int (by rfl) T.m_int (by decide +kernel) (aa_cons (ea_op oa_add (ea_op oa_mul (ea_ix (av 0) ea_int) ea_int) (av 2)) aa_nil)) ea_int) (ga_sub (av 0) ea_int sta_list))))))) sa_nil) (sa_cons (sa_if (ta_cmp oa_gt (ea_ix (av 0) ea_int) ea_int) (sa_cons (sa_set (i := 3) sc__law_pick.nd rfl (Or.inl rfl) (ea_op oa_mod (ea_ct ca_int (by rfl) T.m_int (by decide +kernel) (aa_cons (ea_ix (av 0) ea_int) aa_nil)) (av 1))) (sa_cons (sa_asg (ea_op oa_div (ea_ix (av 0) ea_int) (av 1)) (ga_sub (av 0) ea_int sta_list)) (sa_one (sa_ret (av 3))))) sa_nil) (sa_cons (sa_asg (ea_op oa_mod (ea_ct ca_int (by rfl) T.m_int (by decide +kernel) (aa_cons (ea_op oa_add (ea_op oa_mul (ea_ix (av 0) ea_int) ea_int) ea_int) aa_nil)) ea_int) (ga_sub (av 0) ea_int sta_list)) (sa_cons (sa_set (i := 4) sc__law_pick.nd rfl (Or.inl rfl) (ea_op oa_mul (ea_op oa_mul (ea_op oa_add (ea_op oa_mod (ea_ct ca_int (by rfl) T.m_int (by decide +kernel) (aa_cons (ea_ix (av 0) ea_int) aa_nil)) ea_int) ea_int) (ea_op oa_add (ea_op oa_div (ea_ix (av 0) ea_int) ea_int) ea_int)) ea_int)) (sa_one (sa_ret (ea_op oa_mod (ea_op oa_div (ea_op oa_mod (ea_ct ca_int (by rfl) T.m_int (by decide +kernel) (aa_cons (av 4) aa_nil)) ea_int) ea_int) (av 1)))))))), Com.rd__law_pick⟩
theorem ok__law_name (T : Txt K mg) (G__law_pick : FnOk P w K mg base CX0 1 T.f__law_pick T.fd__law_pick ["source", "many"] (spA K Com.F__law_pick)) : FnOk P w K mg base CX0 2 T.f__law_name T.fd__law_name ["source", "taken"] (spA K Com.F__law_name) :=
  fn_ok T.F__law_name sc__law_name Com.len__law_name fun cdv A outer s H E hr => ⟨_, Com.a__law_name K, (sa_cons (sa_set (i := 2) sc__law_name.nd rfl (Or.inl rfl) ea_str) (sa_cons (sa_set (i := 3) sc__law_name.nd rfl (Or.inl rfl) (ea_ix (av 2) (ea_call (G__law_pick.mono (k := 1) (by decide)) hr (by rfl) T.g__law_pick T.F__law_pick.kp T.b__law_pick (aa_cons (av 0) (aa_cons ea_int aa_nil))))) (sa_cons (sa_for PassesOwn.never rfl (ia_rng1 (by rfl) T.m_range (aa_cons (ea_ix (ea_lstD (aa_cons ea_int (aa_cons ea_int (aa_cons ea_int (aa_cons ea_int (aa_cons (ea_call (G__law_pick.mono (k := 1) (by decide)) hr (by rfl) T.g__law_pick T.F__law_pick.kp T.b__law_pick (aa_cons (av 0) (aa_cons ea_int aa_nil))) aa_nil)))))) (ea_call (G__law_pick.mono (k := 1) (by decide)) hr (by rfl) T.g__law_pick T.F__law_pick.kp T.b__law_pick (aa_cons (av 0) (aa_cons ea_int aa_nil)))) aa_nil)) (ga_name (i := 4) sc__law_name.nd rfl (Or.inl rfl)) (sa_one (sa_set (i := 3) sc__law_name.nd rfl (Or.inl rfl) (ea_op oa_add (av 3) (ea_ix (av 2) (ea_call (G__law_pick.mono (k := 1) (by decide)) hr (by rfl) T.g__law_pick T.F__law_pick.kp T.b__law_pick (aa_cons (av 0) (aa_cons ea_int aa_nil)))))))) (sa_cons (sa_if (PWa.pt (wa_or (ta_cmp oa_in (av 3) (av 1)) (wa_or1 (ta_cmp oa_in (av 3) (ea_tup (aa_cons ea_str (aa_cons ea_str (aa_cons ea_str (aa_cons ea_str (aa_cons ea_str (aa_cons ea_str aa_nil))))))))))) (sa_cons (sa_setLc (i := 5) (own := [("k", 4)]) rfl sc__law_name.nd rfl rfl (sw_true rfl rfl rfl (by decide +kernel)) (ia_rng1 (by rfl) T.m_range (aa_cons (ea_op oa_add (ea_cb ca_len (by rfl) T.m_len (by decide +kernel) (aa_cons (av 1) aa_nil)) ea_int) aa_nil)) (blkOk_by (own := [("k", 4)]) (N := Com.N__law_name) (sc := defScope s__law_name) (by decide +kernel)) (fun _ _ _ _ _ => (pg_name (i := 4) sc__law_name.nd rfl (Or.inl rfl))) (sgw_name (by decide)) (fun _ _ _ _ _ => tsa_nil) (fun _ _ _ _ _ => (ea_op oa_add ea_str (ea_ct ca_str (by rfl) T.m_str (by decide +kernel) (aa_cons (av 4) aa_nil))))) (sa_one (sa_ret (ea_ix (ea_lc (own := [("one", 6)]) rfl sc__law_name.nd (ia_any (av 5)) (blkOk_by (own := [("one", 6)]) (N := Com.N__law_name) (sc := defScope s__law_name) (by decide +kernel)) (fun _ _ _ _ _ => (pg_name (i := 6) sc__law_name.nd rfl (Or.inl rfl))) (sgw_name (by decide)) (fun _ _ _ _ _ => (tsa_one (ta_cmp oa_notin (av 6) (av 1)))) (fun _ _ _ _ _ => (av 6))) ea_int)))) sa_nil) (sa_one (sa_ret (av 3))))))), Com.rd__law_name⟩
theorem ok__law_names (T : Txt K mg) (G__law_name : FnOk P w K mg base CX0 2 T.f__law_name T.fd__law_name ["source", "taken"] (spA K Com.F__law_name)) : FnOk P w K mg base CX0 3 T.f__law_names T.fd__law_names ["source", "many", "taken"] (spA K Com.F__law_names) :=
  fn_ok T.F__law_names sc__law_names Com.len__law_names fun cdv A outer s H E hr => ⟨_, Com.a__law_names K, (sa_cons (sa_set (i := 3) sc__law_names.nd rfl (Or.inl rfl) (ea_lst aa_nil)) (sa_cons (sa_for PassesOwn.never rfl (ia_rng1 (by rfl) T.m_range (aa_cons (av 1) aa_nil)) (ga_name (i := 4) sc__law_names.nd rfl (Or.inl rfl)) (sa_one (sa_drop (ea_bm ma_append PySem.F.plainAttrs_list PySem.F.slot_list_append PySem.F.type_list_append (av 3) (aa_cons (ea_call (G__law_name.mono (k := 2) (by decide)) hr (by rfl) T.g__law_name T.F__law_name.kp T.b__law_name (aa_cons (av 0) (aa_cons (ea_op (oa_cat false) (av 3) (av 2)) aa_nil))) aa_nil))))) (sa_one (sa_ret (av 3))))), Com.rd__law_names⟩
theorem ok__law_use (T : Txt K mg) (G__law_pick : FnOk P w K mg base CX0 1 T.f__law_pick T.fd__law_pick ["source", "many"] (spA K Com.F__law_pick)) : FnOk P w K mg base CX0 2 T.f__law_use T.fd__law_use ["source", "world"] (spA K Com.F__law_use) :=
  fn_ok T.F__law_use sc__law_use Com.len__law_use fun cdv A outer s H E hr => ⟨_, Com.a__law_use K, (sa_cons (sa_setLc (i := 2) (own := [("one", 8)]) rfl sc__law_use.nd rfl rfl (sw_true rfl rfl rfl (by decide +kernel)) (ia_any (ea_dget hr (av 1) ea_str)) (blkOk_by (own := [("one", 8)]) (N := Com.N__law_use) (sc := defScope s__law_use) (by decide +kernel)) (fun _ _ _ _ _ => (pg_name (i := 8) sc__law_use.nd rfl (Or.inl rfl))) (sgw_name (by decide)) (fun _ _ _ _ _ => (tsa_one (ta_cmp oa_le (ea_ix (av 8) ea_int) (ea_cb ca_len (by rfl) T.m_len (by decide +kernel) (aa_cons (ea_dget hr (av 1) ea_str) aa_nil))))) (fun _ _ _ _ _ => (av 8))) (sa_cons (sa_if (ta_not (ta_tru (av 2))) (sa_one (sa_ret ea_non)) sa_nil) (sa_cons (sa_asg (ea_ix (av 2) (ea_call (G__law_pick.mono (k := 1) (by decide)) hr (by rfl) T.g__law_pick T.F__law_pick.kp T.b__law_pick (aa_cons (av 0) (aa_cons (ea_cb ca_len (by rfl) T.m_len (by decide +kernel) (aa_cons (av 2) aa_nil)) aa_nil)))) (ga_tup rfl (gsa_cons (ga_name (i := 3) sc__law_use.nd rfl (Or.inl rfl)) (gsa_cons (ga_name (i := 4) sc__law_use.nd rfl (Or.inl rfl)) gsa_nil)))) (sa_cons (sa_set (i := 5) sc__law_use.nd rfl (Or.inl rfl) (ea_ct (ca_list true) (by rfl) T.m_list (by decide +kernel) (aa_cons (ea_dget hr (av 1) ea_str) aa_nil))) (sa_cons (sa_set (i := 6) sc__law_use.nd rfl (Or.inl rfl) (ea_lst aa_nil)) (sa_cons (sa_for PassesOwn.never rfl (ia_rng1 (by rfl) T.m_range (aa_cons (av 4) aa_nil)) (ga_name (i := 7) sc__law_use.nd rfl (Or.inl rfl)) (sa_one (sa_drop (ea_bm ma_append PySem.F.plainAttrs_list PySem.F.slot_list_append PySem.F.type_list_append (av 6) (aa_cons (ea_bm ma_popAt PySem.F.plainAttrs_list PySem.F.slot_list_pop PySem.F.type_list_pop (av 5) (aa_cons (ea_call (G__law_pick.mono (k := 1) (by decide)) hr (by rfl) T.g__law_pick T.F__law_pick.kp T.b__law_pick (aa_cons (av 0) (aa_cons (ea_cb ca_len (by rfl) T.m_len (by decide +kernel) (aa_cons (av 5) aa_nil)) aa_nil))) aa_nil)) aa_nil))))) (sa_one (sa_ret (ea_tup (aa_cons ea_str (aa_cons (av 3) (aa_cons (ea_ct ca_tuple (by rfl) T.m_tuple (by decide +kernel) (aa_cons (av 6) aa_nil)) aa_nil)))))))))))), Com.rd__law_use⟩
theorem ok__law_letter (T : Txt K mg) (G__law_pick : FnOk P w K mg base CX0 1 T.f__law_pick T.fd__law_pick ["source", "many"] (spA K Com.F__law_pick)) : FnOk P w K mg base CX0 2 T.f__law_letter T.fd__law_letter ["source", "world"] (spA K Com.F__law_letter) :=
  fn_ok T.F__law_letter sc__law_letter Com.len__law_letter fun cdv A outer s H E hr => ⟨_, Com.a__law_letter K, (sa_cons (sa_set (i := 2) sc__law_letter.nd rfl (Or.inl rfl) (ea_dget hr (av 1) ea_str)) (sa_cons (sa_if (ta_cmp oa_lt (ea_cb ca_len (by rfl) T.m_len (by decide +kernel) (aa_cons (av 2) aa_nil)) ea_int) (sa_one (sa_ret ea_non)) sa_nil) (sa_cons (sa_set (i := 3) sc__law_letter.nd rfl (Or.inl rfl) (ea_call (G__law_pick.mono (k := 1) (by decide)) hr (by rfl) T.g__law_pick T.F__law_pick.kp T.b__law_pick (aa_cons (av 0) (aa_cons (ea_cb ca_len (by rfl) T.m_len (by decide +kernel) (aa_cons (av 2) aa_nil)) aa_nil)))) (sa_cons (sa_set (i := 4) sc__law_letter.nd rfl (Or.inl rfl) (ea_op oa_mod (ea_ct ca_int (by rfl) T.m_int (by decide +kernel) (aa_cons (ea_op oa_add (ea_op oa_add (av 3) ea_int) (ea_call (G__law_pick.mono (k := 1) (by decide)) hr (by rfl) T.g__law_pick T.F__law_pick.kp T.b__law_pick (aa_cons (av 0) (aa_cons (ea_op oa_sub (ea_cb ca_len (by rfl) T.m_len (by decide +kernel) (aa_cons (av 2) aa_nil)) ea_int) aa_nil)))) aa_nil)) (ea_cb ca_len (by rfl) T.m_len (by decide +kernel) (aa_cons (av 2) aa_nil)))) (sa_one (sa_ret (ea_tup (aa_cons ea_str (aa_cons (ea_ix (av 2) (av 3)) (aa_cons (ea_ix (av 2) (av 4)) (aa_cons (ea_ix (ea_dget hr (av 1) ea_str) (ea_call (G__law_pick.mono (k := 1) (by decide)) hr (by rfl) T.g__law_pick T.F__law_pick.kp T.b__law_pick (aa_cons (av 0) (aa_cons (ea_cb ca_len (by rfl) T.m_len (by decide +kernel) (aa_cons (ea_dget hr (av 1) ea_str) aa_nil)) aa_nil)))) aa_nil))))))))))), Com.rd__law_letter⟩
theorem okg__law_step (T : Txt K mg) (G__law_pick : FnOk P w K mg base CX0 1 T.f__law_pick T.fd__law_pick ["source", "many"] (spA K Com.F__law_pick)) (G__law_use : FnOk P w K mg base CX0 2 T.f__law_use T.fd__law_use ["source", "world"] (spA K Com.F__law_use)) (G__law_letter : FnOk P w K mg base CX0 2 T.f__law_letter T.fd__law_letter ["source", "world"] (spA K Com.F__law_letter)) : ∀ n : Nat, FnOk P w K mg base CX0 (n + 3) T.f__law_step T.fd__law_step ["source", "world", "depth"] (spA K (Com.FF__law_step n)) ∧ FnOk P w K mg base CX0 (n + 3) T.f__law_body T.fd__law_body ["source", "world", "depth"] (spA K (Com.FF__law_body n))
  | 0 => ⟨fn_ok T.F__law_step sc__law_step (Com.len__law_step 0) fun cdv A outer s H E hr => ⟨_, aNever, sa_nevers, fun as κ R E' h => (Com.rd0__law_step h).elim⟩, fn_ok T.F__law_body sc__law_body (Com.len__law_body 0) fun cdv A outer s H E hr => ⟨_, aNever, sa_nevers, fun as κ R E' h => (Com.rd0__law_body h).elim⟩⟩
  | n + 1 => by
    obtain ⟨G_self__law_step, G_self__law_body⟩ := okg__law_step T G__law_pick G__law_use G__law_letter n
    exact ⟨fn_ok T.F__law_step sc__law_step (Com.len__law_step (n + 1)) fun cdv A outer s H E hr => ⟨_, Com.a__law_step K (Com.FF__law_body n), (sa_cons (sa_set (i := 3) sc__law_step.nd rfl (Or.inl rfl) (ea_call (G__law_pick.mono (k := n + 3) (by omega)) hr (by rfl) T.g__law_pick T.F__law_pick.kp T.b__law_pick (aa_cons (av 0) (aa_cons ea_int aa_nil)))) (sa_cut (sa_if (PWa.pt (wa_and (ta_cmp oa_gt (av 3) ea_int) (wa_and (ta_cmp oa_lt (av 3) ea_int) (wa_and1 (ta_cmp oa_lt (av 2) (ea_dget hr (av 1) ea_str)))))) (sa_cons (sa_if (ta_cmp (oa_eq hr) (av 3) ea_int) (sa_one (sa_ret (ea_tup (aa_cons ea_str (aa_cons (ea_call G_self__law_body hr (by rfl) T.g__law_body T.F__law_body.kp T.b__law_body (aa_cons (av 0) (aa_cons (av 1) (aa_cons (ea_op oa_add (av 2) ea_int) aa_nil)))) aa_nil))))) sa_nil) (sa_cons (sa_setLc (i := 4) (own := [("k", 6)]) rfl sc__law_step.nd rfl rfl (sw_true rfl rfl rfl (by decide +kernel)) (ia_rng1 (by rfl) T.m_range (aa_cons (ea_op oa_add ea_int (ea_call (G__law_pick.mono (k := n + 3) (by omega)) hr (by rfl) T.g__law_pick T.F__law_pick.kp T.b__law_pick (aa_cons (av 0) (aa_cons ea_int aa_nil)))) aa_nil)) (blkOk_by (own := [("k", 6)]) (N := Com.N__law_step) (sc := defScope s__law_step) (by decide +kernel)) (fun _ _ _ _ _ => (pg_name (i := 6) sc__law_step.nd rfl (Or.inl rfl))) (sgw_name (by decide)) (fun _ _ _ _ _ => tsa_nil) (fun _ _ _ _ _ => (ea_call G_self__law_body hr (by rfl) T.g__law_body T.F__law_body.kp T.b__law_body (aa_cons (av 0) (aa_cons (av 1) (aa_cons (ea_op oa_add (av 2) ea_int) aa_nil)))))) (sa_one (sa_ret (ea_tup (aa_cons (ea_ix (ea_lstD (aa_cons ea_str (aa_cons ea_str aa_nil))) (ea_op oa_sub (av 3) ea_int)) (aa_cons (ea_ct ca_tuple (by rfl) T.m_tuple (by decide +kernel) (aa_cons (av 4) aa_nil)) aa_nil))))))) sa_nil) (sa_cut (sa_if (ta_cmp (oa_eq hr) (av 3) ea_int) (sa_cons (sa_set (i := 5) sc__law_step.nd rfl (Or.inl rfl) (ea_call (G__law_use.mono (k := n + 3) (by omega)) hr (by rfl) T.g__law_use T.F__law_use.kp T.b__law_use (aa_cons (av 0) (aa_cons (av 1) aa_nil)))) (sa_one (sa_if (ta_cmp oa_isnot (av 5) ea_non) (sa_one (sa_ret (av 5))) sa_nil))) sa_nil) (sa_one (sa_ret (ea_call (G__law_letter.mono (k := n + 3) (by omega)) hr (by rfl) T.g__law_letter T.F__law_letter.kp T.b__law_letter (aa_cons (av 0) (aa_cons (av 1) aa_nil)))))))), Com.rd__law_step n⟩, fn_ok T.F__law_body sc__law_body (Com.len__law_body (n + 1)) fun cdv A outer s H E hr => ⟨_, Com.a__law_body K (Com.FF__law_step n), (sa_cons (sa_set (i := 3) sc__law_body.nd rfl (Or.inl rfl) (ea_lst aa_nil)) (sa_cons (sa_for PassesOwn.never rfl (ia_rng1 (by rfl) T.m_range (aa_cons (ea_call (G__law_pick.mono (k := n + 3) (by omega)) hr (by rfl) T.g__law_pick T.F__law_pick.kp T.b__law_pick (aa_cons (av 0) (aa_cons ea_int aa_nil))) aa_nil)) (ga_name (i := 4) sc__law_body.nd rfl (Or.inl rfl)) (sa_one (sa_if (ta_cmp oa_gt (ea_dget hr (av 1) ea_str) ea_int) (sa_cons (sa_dput hr (av 1) ea_str (ea_op oa_sub (ea_dget hr (av 1) ea_str) ea_int)) (sa_cons (sa_set (i := 5) sc__law_body.nd rfl (Or.inl rfl) (ea_call G_self__law_step hr (by rfl) T.g__law_step T.F__law_step.kp T.b__law_step (aa_cons (av 0) (aa_cons (av 1) (aa_cons (av 2) aa_nil))))) (sa_one (sa_if (ta_cmp oa_isnot (av 5) ea_non) (sa_one (sa_drop (ea_bm ma_append PySem.F.plainAttrs_list PySem.F.slot_list_append PySem.F.type_list_append (av 3) (aa_cons (av 5) aa_nil)))) sa_nil)))) sa_nil))) (sa_one (sa_ret (ea_ct ca_tuple (by rfl) T.m_tuple (by decide +kernel) (aa_cons (av 3) aa_nil)))))), Com.rd__law_body n⟩⟩
theorem ok__law_step (T : Txt K mg) (G__law_pick : FnOk P w K mg base CX0 1 T.f__law_pick T.fd__law_pick ["source", "many"] (spA K Com.F__law_pick)) (G__law_use : FnOk P w K mg base CX0 2 T.f__law_use T.fd__law_use ["source", "world"] (spA K Com.F__law_use)) (G__law_letter : FnOk P w K mg base CX0 2 T.f__law_letter T.fd__law_letter ["source", "world"] (spA K Com.F__law_letter)) : FnOk P w K mg base CX0 23 T.f__law_step T.fd__law_step ["source", "world", "depth"] (spA K (Com.FF__law_step 20)) :=
  (okg__law_step T G__law_pick G__law_use G__law_letter 20).1
theorem ok__law_body (T : Txt K mg) (G__law_pick : FnOk P w K mg base CX0 1 T.f__law_pick T.fd__law_pick ["source", "many"] (spA K Com.F__law_pick)) (G__law_use : FnOk P w K mg base CX0 2 T.f__law_use T.fd__law_use ["source", "world"] (spA K Com.F__law_use)) (G__law_letter : FnOk P w K mg base CX0 2 T.f__law_letter T.fd__law_letter ["source", "world"] (spA K Com.F__law_letter)) : FnOk P w K mg base CX0 23 T.f__law_body T.fd__law_body ["source", "world", "depth"] (spA K (Com.FF__law_body 20)) :=
  (okg__law_step T G__law_pick G__law_use G__law_letter 20).2
theorem ok__law_wrapped (T : Txt K mg) (G__law_pick : FnOk P w K mg base CX0 1 T.f__law_pick T.fd__law_pick ["source", "many"] (spA K Com.F__law_pick)) : FnOk P w K mg base CX0 2 T.f__law_wrapped T.fd__law_wrapped ["source", "body"] (spA K F__law_wrapped) :=
  fn_ok T.F__law_wrapped sc__law_wrapped len__law_wrapped fun cdv A outer s H E hr => ⟨_, a__law_wrapped K, (sa_cons (sa_set (i := 2) sc__law_wrapped.nd rfl (Or.inl rfl) (av 1)) (sa_cons (sa_for PassesOwn.never rfl (ia_rng1 (by rfl) T.m_range (aa_cons (ea_op oa_add ea_int (ea_call (G__law_pick.mono (k := 1) (by decide)) hr (by rfl) T.g__law_pick T.F__law_pick.kp T.b__law_pick (aa_cons (av 0) (aa_cons ea_int aa_nil)))) aa_nil)) (ga_name (i := 3) sc__law_wrapped.nd rfl (Or.inl rfl)) (sa_cons (sa_set (i := 4) sc__law_wrapped.nd rfl (Or.inl rfl) (ea_call (G__law_pick.mono (k := 1) (by decide)) hr (by rfl) T.g__law_pick T.F__law_pick.kp T.b__law_pick (aa_cons (av 0) (aa_cons ea_int aa_nil)))) (sa_one (sa_if (ta_cmp (oa_eq hr) (av 4) ea_int) (sa_one (sa_set (i := 2) sc__law_wrapped.nd rfl (Or.inl rfl) (ea_tup (aa_cons (ea_tup (aa_cons ea_str (aa_cons (av 2) aa_nil))) aa_nil)))) (sa_one (sa_if (ta_cmp (oa_eq hr) (av 4) ea_int) (sa_one (sa_set (i := 2) sc__law_wrapped.nd rfl (Or.inl rfl) (ea_tup (aa_cons (ea_tup (aa_cons ea_str (aa_cons (ea_tup (aa_cons (av 2) aa_nil)) aa_nil))) aa_nil)))) (sa_one (sa_if (ta_cmp (oa_eq hr) (av 4) ea_int) (sa_one (sa_set (i := 2) sc__law_wrapped.nd rfl (Or.inl rfl) (ea_tup (aa_cons (ea_tup (aa_cons ea_str (aa_cons (ea_tup (aa_cons (av 2) aa_nil)) aa_nil))) aa_nil)))) (sa_one (sa_if (ta_cmp (oa_eq hr) (av 4) ea_int) (sa_one (sa_set (i := 2) sc__law_wrapped.nd rfl (Or.inl rfl) (ea_tup (aa_cons (ea_tup (aa_cons ea_str (aa_cons (ea_tup (aa_cons (av 2) (aa_cons (av 1) (aa_cons (av 2) aa_nil)))) aa_nil))) aa_nil)))) (sa_one (sa_if (ta_cmp (oa_eq hr) (av 4) ea_int) (sa_one (sa_set (i := 2) sc__law_wrapped.nd rfl (Or.inl rfl) (ea_tup (aa_cons (ea_tup (aa_cons ea_str (aa_cons (ea_tup (aa_cons (ea_tup aa_nil) (aa_cons (av 2) (aa_cons (ea_tup aa_nil) aa_nil)))) aa_nil))) aa_nil)))) (sa_one (sa_set (i := 2) sc__law_wrapped.nd rfl (Or.inl rfl) (ea_op oa_add (av 2) (av 1)))))))))))))))) (sa_one (sa_ret (av 2))))), rd__law_wrapped⟩
theorem ok__law_same_n (T : Txt K mg)  : ∀ n : Nat, FnOk P w K mg base CX0 (n + 1) T.f__law_same T.fd__law_same ["actual", "due"] (spA K (Com.F_same n))
  | 0 => fn_ok T.F__law_same sc__law_same (Com.len__law_same 0) fun cdv A outer s H E hr => ⟨_, aNever, sa_nevers, fun as κ R E' h => (Com.rd0__law_same h).elim⟩
  | n + 1 => fn_ok T.F__law_same sc__law_same (Com.len__law_same (n + 1)) fun cdv A outer s H E hr => by
    have G_self := ok__law_same_n T  n
    exact ⟨_, Com.a__law_same K (Com.F_same n), (sa_cons (sa_if (ta_cmp oa_is (av 1) ea_non) (sa_one (sa_ret (ea_cmp oa_is (av 0) ea_non))) sa_nil) (sa_cons (sa_if (ta_tru (ea_cb ca_isi (by rfl) T.m_isinstance (by decide +kernel) (aa_cons (av 1) (aa_cons (ea_ty (by rfl) T.m_bool (by decide +kernel)) aa_nil)))) (sa_one (sa_ret (ea_and (ea_cb ca_isi (by rfl) T.m_isinstance (by decide +kernel) (aa_cons (av 0) (aa_cons (ea_ty (by rfl) T.m_bool (by decide +kernel)) aa_nil))) (ea_one (ea_cmp (oa_eq hr) (av 0) (av 1)))))) sa_nil) (sa_cons (sa_if (ta_tru (ea_cb ca_isi (by rfl) T.m_isinstance (by decide +kernel) (aa_cons (av 1) (aa_cons (ea_ty (by rfl) T.m_int (by decide +kernel)) aa_nil)))) (sa_one (sa_ret (ea_and (ea_cb ca_isi (by rfl) T.m_isinstance (by decide +kernel) (aa_cons (av 0) (aa_cons (ea_ty (by rfl) T.m_int (by decide +kernel)) aa_nil))) (ea_and (ea_not (ea_cb ca_isi (by rfl) T.m_isinstance (by decide +kernel) (aa_cons (av 0) (aa_cons (ea_ty (by rfl) T.m_bool (by decide +kernel)) aa_nil)))) (ea_one (ea_cmp (oa_eq hr) (av 0) (av 1))))))) sa_nil) (sa_cons (sa_if (ta_tru (ea_cb ca_isi (by rfl) T.m_isinstance (by decide +kernel) (aa_cons (av 1) (aa_cons (ea_ty (by rfl) T.m_str (by decide +kernel)) aa_nil)))) (sa_one (sa_ret (ea_and (ea_cb ca_isi (by rfl) T.m_isinstance (by decide +kernel) (aa_cons (av 0) (aa_cons (ea_ty (by rfl) T.m_str (by decide +kernel)) aa_nil))) (ea_one (ea_cmp (oa_eq hr) (av 0) (av 1)))))) sa_nil) (sa_cons (sa_if (PWa.pt (wa_or (ta_cmp (oa_ne hr) (ea_cb ca_isi (by rfl) T.m_isinstance (by decide +kernel) (aa_cons (av 1) (aa_cons (ea_ty (by rfl) T.m_list (by decide +kernel)) aa_nil))) (ea_cb ca_isi (by rfl) T.m_isinstance (by decide +kernel) (aa_cons (av 0) (aa_cons (ea_ty (by rfl) T.m_list (by decide +kernel)) aa_nil)))) (wa_or1 (ta_cmp (oa_ne hr) (ea_cb ca_isi (by rfl) T.m_isinstance (by decide +kernel) (aa_cons (av 1) (aa_cons (ea_ty (by rfl) T.m_tuple (by decide +kernel)) aa_nil))) (ea_cb ca_isi (by rfl) T.m_isinstance (by decide +kernel) (aa_cons (av 0) (aa_cons (ea_ty (by rfl) T.m_tuple (by decide +kernel)) aa_nil))))))) (sa_one (sa_ret ea_bl)) sa_nil) (sa_cons (sa_if (ta_cmp (oa_ne hr) (ea_cb ca_len (by rfl) T.m_len (by decide +kernel) (aa_cons (av 0) aa_nil)) (ea_cb ca_len (by rfl) T.m_len (by decide +kernel) (aa_cons (av 1) aa_nil))) (sa_one (sa_ret ea_bl)) sa_nil) (sa_cons (sa_for PassesOwn.never rfl (ia_rng1 (by rfl) T.m_range (aa_cons (ea_cb ca_len (by rfl) T.m_len (by decide +kernel) (aa_cons (av 1) aa_nil)) aa_nil)) (ga_name (i := 2) sc__law_same.nd rfl (Or.inl rfl)) (sa_one (sa_if (ta_not (ta_tru (ea_call G_self hr (by rfl) T.g__law_same T.F__law_same.kp T.b__law_same (aa_cons (ea_ix (av 0) (av 2)) (aa_cons (ea_ix (av 1) (av 2)) aa_nil))))) (sa_one (sa_ret ea_bl)) sa_nil))) (sa_one (sa_ret ea_bl))))))))), Com.rd__law_same n⟩
theorem ok__law_same (T : Txt K mg)  : FnOk P w K mg base CX0 41 T.f__law_same T.fd__law_same ["actual", "due"] (spA K (Com.F_same 40)) :=
  (ok__law_same_n T  40).imp fun vs H Q E h => sp_imp (fun _ _ _ _ h => h) h
theorem ok__is_one (T : Txt K mg)  : FnOk P w K mg base CX0 1 T.f__is_one T.fd__is_one ["body", "kind"] (spA K F__is_one) :=
  fn_ok T.F__is_one sc__is_one len__is_one fun cdv A outer s H E hr => ⟨_, a__is_one K, (sa_one (sa_ret (ea_and (ea_cmp (oa_eq hr) (ea_cb ca_len (by rfl) T.m_len (by decide +kernel) (aa_cons (av 0) aa_nil)) ea_int) (ea_one (ea_cmp (oa_eq hr) (ea_ix (ea_ix (av 0) ea_int) ea_int) (av 1)))))), rd__is_one⟩
theorem ok__loop_of (T : Txt K mg) (G__is_one : FnOk P w K mg base CX0 1 T.f__is_one T.fd__is_one ["body", "kind"] (spA K F__is_one)) : FnOk P w K mg base CX0 2 T.f__loop_of T.fd__loop_of ["body"] (spA K F__loop_of) :=
  fn_ok T.F__loop_of sc__loop_of len__loop_of fun cdv A outer s H E hr => ⟨_, a__loop_of K, (sa_cons (sa_if (PWa.pt (wa_or (ta_cmp (oa_eq hr) (av 0) (ea_tup aa_nil)) (wa_or1 (ta_tru (ea_call (G__is_one.mono (k := 1) (by decide)) hr (by rfl) T.g__is_one T.F__is_one.kp T.b__is_one (aa_cons (av 0) (aa_cons ea_str aa_nil))))))) (sa_one (sa_ret (av 0))) sa_nil) (sa_one (sa_ret (ea_tup (aa_cons (ea_tup (aa_cons ea_str (aa_cons (av 0) aa_nil))) aa_nil))))), rd__loop_of⟩
theorem ok__unwrapped (T : Txt K mg) (G__is_one : FnOk P w K mg base CX0 1 T.f__is_one T.fd__is_one ["body", "kind"] (spA K F__is_one)) : FnOk P w K mg base CX0 2 T.f__unwrapped T.fd__unwrapped ["bodies", "kind"] (spA K F__unwrapped) :=
  fn_ok T.F__unwrapped sc__unwrapped len__unwrapped fun cdv A outer s H E hr => ⟨_, a__unwrapped K, (sa_cons (sa_set (i := 2) sc__unwrapped.nd rfl (Or.inl rfl) (ea_lst aa_nil)) (sa_cons (sa_for PassesOwn.never rfl (ia_any (av 0)) (ga_name (i := 3) sc__unwrapped.nd rfl (Or.inl rfl)) (sa_one (sa_drop (ea_bm ma_extend PySem.F.plainAttrs_list PySem.F.slot_list_extend PySem.F.type_list_extend (av 2) (aa_cons (ea_if (ta_tru (ea_call (G__is_one.mono (k := 1) (by decide)) hr (by rfl) T.g__is_one T.F__is_one.kp T.b__is_one (aa_cons (av 3) (aa_cons (av 1) aa_nil)))) (ea_ix (ea_ix (av 3) ea_int) ea_int) (ea_lstD (aa_cons (av 3) aa_nil))) aa_nil))))) (sa_one (sa_ret (av 2))))), rd__unwrapped⟩
theorem ok__choice_of (T : Txt K mg) (G__unwrapped : FnOk P w K mg base CX0 2 T.f__unwrapped T.fd__unwrapped ["bodies", "kind"] (spA K F__unwrapped)) : FnOk P w K mg base CX0 3 T.f__choice_of T.fd__choice_of ["bodies"] (spA K F__choice_of) :=
  fn_ok T.F__choice_of sc__choice_of len__choice_of fun cdv A outer s H E hr => ⟨_, a__choice_of K, (sa_cons (sa_set (i := 1) sc__choice_of.nd rfl (Or.inl rfl) (ea_lst aa_nil)) (sa_cons (sa_for PassesOwn.never rfl (ia_any (ea_call (G__unwrapped.mono (k := 2) (by decide)) hr (by rfl) T.g__unwrapped T.F__unwrapped.kp T.b__unwrapped (aa_cons (av 0) (aa_cons ea_str aa_nil)))) (ga_name (i := 2) sc__choice_of.nd rfl (Or.inl rfl)) (sa_one (sa_if (ta_cmp (oa_notinP hr) (av 2) (av 1)) (sa_one (sa_drop (ea_bm ma_append PySem.F.plainAttrs_list PySem.F.slot_list_append PySem.F.type_list_append (av 1) (aa_cons (av 2) aa_nil)))) sa_nil))) (sa_cons (sa_if (ta_cmp (oa_eq hr) (ea_cb ca_len (by rfl) T.m_len (by decide +kernel) (aa_cons (av 1) aa_nil)) ea_int) (sa_one (sa_ret (ea_ix (av 1) ea_int))) sa_nil) (sa_one (sa_ret (ea_tup (aa_cons (ea_tup (aa_cons ea_str (aa_cons (ea_ct ca_tuple (by rfl) T.m_tuple (by decide +kernel) (aa_cons (av 1) aa_nil)) aa_nil))) aa_nil))))))), rd__choice_of⟩
theorem ok__both_of (T : Txt K mg) (G__unwrapped : FnOk P w K mg base CX0 2 T.f__unwrapped T.fd__unwrapped ["bodies", "kind"] (spA K F__unwrapped)) : FnOk P w K mg base CX0 3 T.f__both_of T.fd__both_of ["bodies"] (spA K F__both_of) :=
  fn_ok T.F__both_of sc__both_of len__both_of fun cdv A outer s H E hr => ⟨_, a__both_of K, (sa_cons (sa_setLc (i := 1) (own := [("body", 2)]) rfl sc__both_of.nd rfl rfl (sw_true rfl rfl rfl (by decide +kernel)) (ia_any (ea_call (G__unwrapped.mono (k := 2) (by decide)) hr (by rfl) T.g__unwrapped T.F__unwrapped.kp T.b__unwrapped (aa_cons (av 0) (aa_cons ea_str aa_nil)))) (blkOk_by (own := [("body", 2)]) (N := N__both_of) (sc := defScope s__both_of) (by decide +kernel)) (fun _ _ _ _ _ => (pg_name (i := 2) sc__both_of.nd rfl (Or.inl rfl))) (sgw_name (by decide)) (fun _ _ _ _ _ => (tsa_one (ta_tru (av 2)))) (fun _ _ _ _ _ => (av 2))) (sa_cons (sa_if (ta_not (ta_tru (av 1))) (sa_one (sa_ret (ea_tup aa_nil))) sa_nil) (sa_cons (sa_if (ta_cmp (oa_eq hr) (ea_cb ca_len (by rfl) T.m_len (by decide +kernel) (aa_cons (av 1) aa_nil)) ea_int) (sa_one (sa_ret (ea_ix (av 1) ea_int))) sa_nil) (sa_one (sa_ret (ea_tup (aa_cons (ea_tup (aa_cons ea_str (aa_cons (ea_ct ca_tuple (by rfl) T.m_tuple (by decide +kernel) (aa_cons (av 1) aa_nil)) aa_nil))) aa_nil))))))), rd__both_of⟩
theorem okg_tidy (T : Txt K mg) (G__loop_of : FnOk P w K mg base CX0 2 T.f__loop_of T.fd__loop_of ["body"] (spA K F__loop_of)) (G__choice_of : FnOk P w K mg base CX0 3 T.f__choice_of T.fd__choice_of ["bodies"] (spA K F__choice_of)) (G__both_of : FnOk P w K mg base CX0 3 T.f__both_of T.fd__both_of ["bodies"] (spA K F__both_of)) : ∀ n : Nat, FnOk P w K mg base CX0 (n + 4) T.f_tidy T.fd_tidy ["body"] (spA K (FF_tidy n)) ∧ FnOk P w K mg base CX0 (n + 4) T.f__tidy_step T.fd__tidy_step ["step"] (spA K (FF__tidy_step n))
  | 0 => ⟨fn_ok T.F_tidy sc_tidy (len_tidy 0) fun cdv A outer s H E hr => ⟨_, aNever, sa_nevers, fun as κ R E' h => (rd0_tidy h).elim⟩, fn_ok T.F__tidy_step sc__tidy_step (len__tidy_step 0) fun cdv A outer s H E hr => ⟨_, aNever, sa_nevers, fun as κ R E' h => (rd0__tidy_step h).elim⟩⟩
  | n + 1 => by
    obtain ⟨G_self_tidy, G_self__tidy_step⟩ := okg_tidy T G__loop_of G__choice_of G__both_of n
    exact ⟨fn_ok T.F_tidy sc_tidy (len_tidy (n + 1)) fun cdv A outer s H E hr => ⟨_, a_tidy K (FF__tidy_step n), (sa_cons (sa_set (i := 1) sc_tidy.nd rfl (Or.inl rfl) (ea_lst aa_nil)) (sa_cons (sa_for PassesOwn.never rfl (ia_any (av 0)) (ga_name (i := 2) sc_tidy.nd rfl (Or.inl rfl)) (sa_one (sa_drop (ea_bm ma_extend PySem.F.plainAttrs_list PySem.F.slot_list_extend PySem.F.type_list_extend (av 1) (aa_cons (ea_call G_self__tidy_step hr (by rfl) T.g__tidy_step T.F__tidy_step.kp T.b__tidy_step (aa_cons (av 2) aa_nil)) aa_nil))))) (sa_one (sa_ret (ea_ct ca_tuple (by rfl) T.m_tuple (by decide +kernel) (aa_cons (av 1) aa_nil)))))), rd_tidy n⟩, fn_ok T.F__tidy_step sc__tidy_step (len__tidy_step (n + 1)) fun cdv A outer s H E hr => ⟨_, a__tidy_step K (FF_tidy n), (sa_cons (sa_if (ta_cmp (oa_eq hr) (ea_ix (av 0) ea_int) ea_str) (sa_one (sa_ret (ea_call (G__loop_of.mono (k := n + 4) (by omega)) hr (by rfl) T.g__loop_of T.F__loop_of.kp T.b__loop_of (aa_cons (ea_call G_self_tidy hr (by rfl) T.g_tidy T.F_tidy.kp T.b_tidy (aa_cons (ea_ix (av 0) ea_int) aa_nil)) aa_nil)))) sa_nil) (sa_cons (sa_if (ta_cmp (oa_eq hr) (ea_ix (av 0) ea_int) ea_str) (sa_one (sa_ret (ea_call (G__choice_of.mono (k := n + 4) (by omega)) hr (by rfl) T.g__choice_of T.F__choice_of.kp T.b__choice_of (aa_cons (ea_lc (own := [("body", 1)]) rfl sc__tidy_step.nd (ia_any (ea_ix (av 0) ea_int)) (blkOk_by (own := [("body", 1)]) (N := N__tidy_step) (sc := defScope s__tidy_step) (by decide +kernel)) (fun _ _ _ _ _ => (pg_name (i := 1) sc__tidy_step.nd rfl (Or.inl rfl))) (sgw_name (by decide)) (fun _ _ _ _ _ => tsa_nil) (fun _ _ _ _ _ => (ea_call G_self_tidy hr (by rfl) T.g_tidy T.F_tidy.kp T.b_tidy (aa_cons (av 1) aa_nil)))) aa_nil)))) sa_nil) (sa_cons (sa_if (ta_cmp (oa_eq hr) (ea_ix (av 0) ea_int) ea_str) (sa_one (sa_ret (ea_call (G__both_of.mono (k := n + 4) (by omega)) hr (by rfl) T.g__both_of T.F__both_of.kp T.b__both_of (aa_cons (ea_lc (own := [("body", 1)]) rfl sc__tidy_step.nd (ia_any (ea_ix (av 0) ea_int)) (blkOk_by (own := [("body", 1)]) (N := N__tidy_step) (sc := defScope s__tidy_step) (by decide +kernel)) (fun _ _ _ _ _ => (pg_name (i := 1) sc__tidy_step.nd rfl (Or.inl rfl))) (sgw_name (by decide)) (fun _ _ _ _ _ => tsa_nil) (fun _ _ _ _ _ => (ea_call G_self_tidy hr (by rfl) T.g_tidy T.F_tidy.kp T.b_tidy (aa_cons (av 1) aa_nil)))) aa_nil)))) sa_nil) (sa_one (sa_ret (ea_tup (aa_cons (av 0) aa_nil))))))), rd__tidy_step n⟩⟩
theorem ok_tidy (T : Txt K mg) (G__loop_of : FnOk P w K mg base CX0 2 T.f__loop_of T.fd__loop_of ["body"] (spA K F__loop_of)) (G__choice_of : FnOk P w K mg base CX0 3 T.f__choice_of T.fd__choice_of ["bodies"] (spA K F__choice_of)) (G__both_of : FnOk P w K mg base CX0 3 T.f__both_of T.fd__both_of ["bodies"] (spA K F__both_of)) : FnOk P w K mg base CX0 44 T.f_tidy T.fd_tidy ["body"] (spA K (FF_tidy 40)) :=
  (okg_tidy T G__loop_of G__choice_of G__both_of 40).1
theorem ok__tidy_step (T : Txt K mg) (G__loop_of : FnOk P w K mg base CX0 2 T.f__loop_of T.fd__loop_of ["body"] (spA K F__loop_of)) (G__choice_of : FnOk P w K mg base CX0 3 T.f__choice_of T.fd__choice_of ["bodies"] (spA K F__choice_of)) (G__both_of : FnOk P w K mg base CX0 3 T.f__both_of T.fd__both_of ["bodies"] (spA K F__both_of)) : FnOk P w K mg base CX0 44 T.f__tidy_step T.fd__tidy_step ["step"] (spA K (FF__tidy_step 40)) :=
  (okg_tidy T G__loop_of G__choice_of G__both_of 40).2
theorem ok__law_flat (T : Txt K mg)  : FnOk P w K mg base CX0 1 T.f__law_flat T.fd__law_flat ["kind", "bodies"] (spA K F__law_flat) :=
  fn_ok T.F__law_flat sc__law_flat len__law_flat fun cdv A outer s H E hr => ⟨_, a__law_flat K, (sa_cons (sa_set (i := 2) sc__law_flat.nd rfl (Or.inl rfl) (ea_lst aa_nil)) (sa_cons (sa_for PassesOwn.never rfl (ia_any (av 1)) (ga_name (i := 3) sc__law_flat.nd rfl (Or.inl rfl)) (sa_one (sa_if (PWa.pt (wa_and (ta_cmp (oa_eq hr) (ea_cb ca_len (by rfl) T.m_len (by decide +kernel) (aa_cons (av 3) aa_nil)) ea_int) (wa_and1 (ta_cmp (oa_eq hr) (ea_ix (ea_ix (av 3) ea_int) ea_int) (av 0))))) (sa_one (sa_set (i := 2) sc__law_flat.nd rfl (Or.inl rfl) (ea_op (oa_cat true) (av 2) (ea_ct (ca_list false) (by rfl) T.m_list (by decide +kernel) (aa_cons (ea_ix (ea_ix (av 3) ea_int) ea_int) aa_nil))))) (sa_one (sa_drop (ea_bm ma_append PySem.F.plainAttrs_list PySem.F.slot_list_append PySem.F.type_list_append (av 2) (aa_cons (av 3) aa_nil))))))) (sa_one (sa_ret (av 2))))), rd__law_flat⟩
theorem okg__law_tidy_step (T : Txt K mg) (G__law_flat : FnOk P w K mg base CX0 1 T.f__law_flat T.fd__law_flat ["kind", "bodies"] (spA K F__law_flat)) : ∀ n : Nat, FnOk P w K mg base CX0 (n + 2) T.f__law_tidy_step T.fd__law_tidy_step ["step"] (spA K (FF__law_tidy_step n)) ∧ FnOk P w K mg base CX0 (n + 2) T.f__law_tidy T.fd__law_tidy ["body"] (spA K (FF__law_tidy n))
  | 0 => ⟨fn_ok T.F__law_tidy_step sc__law_tidy_step (len__law_tidy_step 0) fun cdv A outer s H E hr => ⟨_, aNever, sa_nevers, fun as κ R E' h => (rd0__law_tidy_step h).elim⟩, fn_ok T.F__law_tidy sc__law_tidy (len__law_tidy 0) fun cdv A outer s H E hr => ⟨_, aNever, sa_nevers, fun as κ R E' h => (rd0__law_tidy h).elim⟩⟩
  | n + 1 => by
    obtain ⟨G_self__law_tidy_step, G_self__law_tidy⟩ := okg__law_tidy_step T G__law_flat n
    exact ⟨fn_ok T.F__law_tidy_step sc__law_tidy_step (len__law_tidy_step (n + 1)) fun cdv A outer s H E hr => ⟨_, a__law_tidy_step K (FF__law_tidy n), (sa_cons (sa_if (ta_cmp oa_in (ea_ix (av 0) ea_int) (ea_tup (aa_cons ea_str (aa_cons ea_str aa_nil)))) (sa_one (sa_ret (ea_tup (aa_cons (av 0) aa_nil)))) sa_nil) (sa_cons (sa_if (ta_cmp (oa_eq hr) (ea_ix (av 0) ea_int) ea_str) (sa_cons (sa_set (i := 1) sc__law_tidy_step.nd rfl (Or.inl rfl) (ea_call G_self__law_tidy hr (by rfl) T.g__law_tidy T.F__law_tidy.kp T.b__law_tidy (aa_cons (ea_ix (av 0) ea_int) aa_nil))) (sa_cons (sa_if (PWa.pt (wa_or (ta_not (ta_tru (av 1))) (wa_or1 (PWa.pt (wa_and (ta_cmp (oa_eq hr) (ea_cb ca_len (by rfl) T.m_len (by decide +kernel) (aa_cons (av 1) aa_nil)) ea_int) (wa_and1 (ta_cmp (oa_eq hr) (ea_ix (ea_ix (av 1) ea_int) ea_int) ea_str))))))) (sa_one (sa_ret (av 1))) sa_nil) (sa_one (sa_ret (ea_tup (aa_cons (ea_tup (aa_cons ea_str (aa_cons (av 1) aa_nil))) aa_nil)))))) sa_nil) (sa_cons (sa_set (i := 2) sc__law_tidy_step.nd rfl (Or.inr rfl) (ea_call (G__law_flat.mono (k := n + 2) (by omega)) hr (by rfl) T.g__law_flat T.F__law_flat.kp T.b__law_flat (aa_cons (ea_ix (av 0) ea_int) (aa_cons (ea_lc (own := [("body", 1)]) rfl sc__law_tidy_step.nd (ia_any (ea_ix (av 0) ea_int)) (blkOk_by (own := [("body", 1)]) (N := N__law_tidy_step) (sc := defScope s__law_tidy_step) (by decide +kernel)) (fun _ _ _ _ _ => (pg_name (i := 1) sc__law_tidy_step.nd rfl (Or.inl rfl))) (sgw_name (by decide)) (fun _ _ _ _ _ => tsa_nil) (fun _ _ _ _ _ => (ea_call G_self__law_tidy hr (by rfl) T.g__law_tidy T.F__law_tidy.kp T.b__law_tidy (aa_cons (av 1) aa_nil)))) aa_nil)))) (sa_cut (sa_if (ta_cmp (oa_eq hr) (ea_ix (av 0) ea_int) ea_str) (sa_one (sa_set (i := 2) sc__law_tidy_step.nd rfl (Or.inr rfl) (ea_lc (own := [("k", 3)]) rfl sc__law_tidy_step.nd (ia_rng1 (by rfl) T.m_range (aa_cons (ea_cb ca_len (by rfl) T.m_len (by decide +kernel) (aa_cons (av 2) aa_nil)) aa_nil)) (blkOk_by (own := [("k", 3)]) (N := N__law_tidy_step) (sc := defScope s__law_tidy_step) (by decide +kernel)) (fun _ _ _ _ _ => (pg_name (i := 3) sc__law_tidy_step.nd rfl (Or.inl rfl))) (sgw_name (by decide)) (fun _ _ _ _ _ => (tsa_one (ta_cmp (oa_notinP hr) (ea_ix (av 2) (av 3)) (ea_slice (av 2) oa_none (oa_some (av 3)))))) (fun _ _ _ _ _ => (ea_ix (av 2) (av 3)))))) (sa_one (sa_set (i := 2) sc__law_tidy_step.nd rfl (Or.inr rfl) (ea_lc (own := [("body", 1)]) rfl sc__law_tidy_step.nd (ia_any (av 2)) (blkOk_by (own := [("body", 1)]) (N := N__law_tidy_step) (sc := defScope s__law_tidy_step) (by decide +kernel)) (fun _ _ _ _ _ => (pg_name (i := 1) sc__law_tidy_step.nd rfl (Or.inl rfl))) (sgw_name (by decide)) (fun _ _ _ _ _ => (tsa_one (ta_tru (av 1)))) (fun _ _ _ _ _ => (av 1)))))) (sa_cons (sa_if (ta_not (ta_tru (av 2))) (sa_one (sa_ret (ea_tup aa_nil))) sa_nil) (sa_cons (sa_if (ta_cmp (oa_eq hr) (ea_cb ca_len (by rfl) T.m_len (by decide +kernel) (aa_cons (av 2) aa_nil)) ea_int) (sa_one (sa_ret (ea_ix (av 2) ea_int))) sa_nil) (sa_one (sa_ret (ea_tup (aa_cons (ea_tup (aa_cons (ea_ix (av 0) ea_int) (aa_cons (ea_ct ca_tuple (by rfl) T.m_tuple (by decide +kernel) (aa_cons (av 2) aa_nil)) aa_nil))) aa_nil)))))))))), rd__law_tidy_step n⟩, fn_ok T.F__law_tidy sc__law_tidy (len__law_tidy (n + 1)) fun cdv A outer s H E hr => ⟨_, a__law_tidy K (FF__law_tidy_step n), (sa_cons (sa_set (i := 1) sc__law_tidy.nd rfl (Or.inl rfl) (ea_tup aa_nil)) (sa_cons (sa_for PassesOwn.never rfl (ia_any (av 0)) (ga_name (i := 2) sc__law_tidy.nd rfl (Or.inl rfl)) (sa_one (sa_set (i := 1) sc__law_tidy.nd rfl (Or.inl rfl) (ea_op oa_add (av 1) (ea_call G_self__law_tidy_step hr (by rfl) T.g__law_tidy_step T.F__law_tidy_step.kp T.b__law_tidy_step (aa_cons (av 2) aa_nil)))))) (sa_one (sa_ret (av 1))))), rd__law_tidy n⟩⟩
theorem ok__law_tidy_step (T : Txt K mg) (G__law_flat : FnOk P w K mg base CX0 1 T.f__law_flat T.fd__law_flat ["kind", "bodies"] (spA K F__law_flat)) : FnOk P w K mg base CX0 42 T.f__law_tidy_step T.fd__law_tidy_step ["step"] (spA K (FF__law_tidy_step 40)) :=
  (okg__law_tidy_step T G__law_flat 40).1
theorem ok__law_tidy (T : Txt K mg) (G__law_flat : FnOk P w K mg base CX0 1 T.f__law_flat T.fd__law_flat ["kind", "bodies"] (spA K F__law_flat)) : FnOk P w K mg base CX0 42 T.f__law_tidy T.fd__law_tidy ["body"] (spA K (FF__law_tidy 40)) :=
  (okg__law_tidy_step T G__law_flat 40).2
theorem ok_law (T : Txt K mg) (G__law_source : FnOk P w K mg base CX0 1 T.f__law_source T.fd__law_source ["script"] (spA K Com.F__law_source)) (G__law_names : FnOk P w K mg base CX0 3 T.f__law_names T.fd__law_names ["source", "many", "taken"] (spA K Com.F__law_names)) (G__law_pick : FnOk P w K mg base CX0 1 T.f__law_pick T.fd__law_pick ["source", "many"] (spA K Com.F__law_pick)) (G__law_body : FnOk P w K mg base CX0 23 T.f__law_body T.fd__law_body ["source", "world", "depth"] (spA K (Com.FF__law_body 20))) (G__law_wrapped : FnOk P w K mg base CX0 2 T.f__law_wrapped T.fd__law_wrapped ["source", "body"] (spA K F__law_wrapped)) (G__law_same : FnOk P w K mg base CX0 41 T.f__law_same T.fd__law_same ["actual", "due"] (spA K (Com.F_same 40))) (G_tidy : FnOk P w K mg base CX0 44 T.f_tidy T.fd_tidy ["body"] (spA K (FF_tidy 40))) (G__law_tidy : FnOk P w K mg base CX0 42 T.f__law_tidy T.fd__law_tidy ["body"] (spA K (FF__law_tidy 40))) : FnOk P w K mg base CX0 45 T.f_law T.fd_law ["script"] (spA K F_law) :=
  fn_ok T.F_law sc_law Ab.len_law fun cdv A outer s H E hr => ⟨_, a_law K, (sa_cons (sa_set (i := 1) sc_law.nd rfl (Or.inl rfl) (ea_call (G__law_source.mono (k := 44) (by decide)) hr (by rfl) T.g__law_source T.F__law_source.kp T.b__law_source (aa_cons (av 0) aa_nil))) (sa_cons (sa_for PassesOwn.never rfl (ia_rng1 (by rfl) T.m_range (aa_cons (ea_op oa_add ea_int (ea_cb (ca_min rfl) (by rfl) T.m_min (by decide +kernel) (aa_cons ea_int (aa_cons (ea_op oa_div (ea_cb ca_len (by rfl) T.m_len (by decide +kernel) (aa_cons (av 0) aa_nil)) ea_int) aa_nil)))) aa_nil)) (ga_name (i := 2) sc_law.nd rfl (Or.inl rfl)) (sa_cons (sa_set (i := 3) sc_law.nd rfl (Or.inl rfl) (ea_disp (pa_pcons ea_str (ea_call (G__law_names.mono (k := 44) (by decide)) hr (by rfl) T.g__law_names T.F__law_names.kp T.b__law_names (aa_cons (av 1) (aa_cons (ea_op oa_add ea_int (ea_call (G__law_pick.mono (k := 44) (by decide)) hr (by rfl) T.g__law_pick T.F__law_pick.kp T.b__law_pick (aa_cons (av 1) (aa_cons ea_int aa_nil)))) (aa_cons (ea_lstD aa_nil) aa_nil)))) (pa_pcons ea_str ea_int (pa_pcons ea_str ea_int pa_pnil))))) (sa_cons (sa_dput hr (av 3) ea_str (ea_call (G__law_names.mono (k := 44) (by decide)) hr (by rfl) T.g__law_names T.F__law_names.kp T.b__law_names (aa_cons (av 1) (aa_cons (ea_op oa_add ea_int (ea_call (G__law_pick.mono (k := 44) (by decide)) hr (by rfl) T.g__law_pick T.F__law_pick.kp T.b__law_pick (aa_cons (av 1) (aa_cons ea_int aa_nil)))) (aa_cons (ea_lstD aa_nil) aa_nil))))) (sa_cons (sa_dput hr (av 3) ea_str (ea_lstD (aa_cons (ea_tup (aa_cons ea_str (aa_cons ea_int aa_nil))) (aa_cons (ea_tup (aa_cons ea_str (aa_cons ea_int aa_nil))) aa_nil)))) (sa_cons (sa_set (i := 4) sc_law.nd rfl (Or.inl rfl) (ea_op oa_add (ea_call (G__law_body.mono (k := 44) (by decide)) hr (by rfl) T.g__law_body T.F__law_body.kp T.b__law_body (aa_cons (av 1) (aa_cons (av 3) (aa_cons ea_int aa_nil)))) (ea_call (G__law_body.mono (k := 44) (by decide)) hr (by rfl) T.g__law_body T.F__law_body.kp T.b__law_body (aa_cons (av 1) (aa_cons (av 3) (aa_cons ea_int aa_nil)))))) (sa_cut (sa_if (ta_cmp (oa_eq hr) (ea_call (G__law_pick.mono (k := 44) (by decide)) hr (by rfl) T.g__law_pick T.F__law_pick.kp T.b__law_pick (aa_cons (av 1) (aa_cons ea_int aa_nil))) ea_int) (sa_one (sa_set (i := 4) sc_law.nd rfl (Or.inl rfl) (ea_call (G__law_wrapped.mono (k := 44) (by decide)) hr (by rfl) T.g__law_wrapped T.F__law_wrapped.kp T.b__law_wrapped (aa_cons (av 1) (aa_cons (av 4) aa_nil))))) sa_nil) (sa_cons (sa_if (ta_not (ta_tru (ea_call (G__law_same.mono (k := 44) (by decide)) hr (by rfl) T.g__law_same T.F__law_same.kp T.b__law_same (aa_cons (ea_call (G_tidy.mono (k := 44) (by decide)) hr (by rfl) T.g_tidy T.F_tidy.kp T.b_tidy (aa_cons (av 4) aa_nil)) (aa_cons (ea_call (G__law_tidy.mono (k := 44) (by decide)) hr (by rfl) T.g__law_tidy T.F__law_tidy.kp T.b__law_tidy (aa_cons (av 4) aa_nil)) aa_nil))))) (sa_one (sa_ret ea_bl)) sa_nil) (sa_gh sa_nil)))))))) (sa_one (sa_ret ea_bl)))), rd_law⟩
theorem all_ok (T : Txt K mg) : FnOk P w K mg base CX0 45 T.f_law T.fd_law ["script"] (spA K F_law) := by
  have G__law_source := ok__law_source (P := P) (w := w) (base := base) T 
  have G__law_pick := ok__law_pick (P := P) (w := w) (base := base) T 
  have G__law_name := ok__law_name (P := P) (w := w) (base := base) T G__law_pick
  have G__law_names := ok__law_names (P := P) (w := w) (base := base) T G__law_name
  have G__law_use := ok__law_use (P := P) (w := w) (base := base) T G__law_pick
  have G__law_letter := ok__law_letter (P := P) (w := w) (base := base) T G__law_pick
  have G__law_step := ok__law_step (P := P) (w := w) (base := base) T G__law_pick G__law_use G__law_letter
  have G__law_body := ok__law_body (P := P) (w := w) (base := base) T G__law_pick G__law_use G__law_letter
  have G__law_wrapped := ok__law_wrapped (P := P) (w := w) (base := base) T G__law_pick
  have G__law_same := ok__law_same (P := P) (w := w) (base := base) T 
  have G__is_one := ok__is_one (P := P) (w := w) (base := base) T 
  have G__loop_of := ok__loop_of (P := P) (w := w) (base := base) T G__is_one
  have G__unwrapped := ok__unwrapped (P := P) (w := w) (base := base) T G__is_one
  have G__choice_of := ok__choice_of (P := P) (w := w) (base := base) T G__unwrapped
  have G__both_of := ok__both_of (P := P) (w := w) (base := base) T G__unwrapped
  have G_tidy := ok_tidy (P := P) (w := w) (base := base) T G__loop_of G__choice_of G__both_of
  have G__tidy_step := ok__tidy_step (P := P) (w := w) (base := base) T G__loop_of G__choice_of G__both_of
  have G__law_flat := ok__law_flat (P := P) (w := w) (base := base) T 
  have G__law_tidy_step := ok__law_tidy_step (P := P) (w := w) (base := base) T G__law_flat
  have G__law_tidy := ok__law_tidy (P := P) (w := w) (base := base) T G__law_flat
  have G_law := ok_law (P := P) (w := w) (base := base) T G__law_source G__law_names G__law_pick G__law_body G__law_wrapped G__law_same G_tidy G__law_tidy
  exact G_law
theorem all_mk {K : PySem.W.Frag} {h : Heap} {mg : Str → Option Value} {fa : Addr} (X : K.In h) (Gn : h.Ns mainGlobals mg) (hfa : mg "law" = some (.ref fa))
    {f0 : Addr} {od0 an0 : Option Addr} {sl0 : Array (Option Value)} {oc0 kV0 dc0 pm0 cd0 ct0 : Value}
    {f1 : Addr} {od1 an1 : Option Addr} {sl1 : Array (Option Value)} {oc1 kV1 dc1 pm1 cd1 ct1 : Value}
    {f2 : Addr} {od2 an2 : Option Addr} {sl2 : Array (Option Value)} {oc2 kV2 dc2 pm2 cd2 ct2 : Value}
    {f3 : Addr} {od3 an3 : Option Addr} {sl3 : Array (Option Value)} {oc3 kV3 dc3 pm3 cd3 ct3 : Value}
    {f4 : Addr} {od4 an4 : Option Addr} {sl4 : Array (Option Value)} {oc4 kV4 dc4 pm4 cd4 ct4 : Value}
    {f5 : Addr} {od5 an5 : Option Addr} {sl5 : Array (Option Value)} {oc5 kV5 dc5 pm5 cd5 ct5 : Value}
    {f6 : Addr} {od6 an6 : Option Addr} {sl6 : Array (Option Value)} {oc6 kV6 dc6 pm6 cd6 ct6 : Value}
    {f7 : Addr} {od7 an7 : Option Addr} {sl7 : Array (Option Value)} {oc7 kV7 dc7 pm7 cd7 ct7 : Value}
    {f8 : Addr} {od8 an8 : Option Addr} {sl8 : Array (Option Value)} {oc8 kV8 dc8 pm8 cd8 ct8 : Value}
    {f9 : Addr} {od9 an9 : Option Addr} {sl9 : Array (Option Value)} {oc9 kV9 dc9 pm9 cd9 ct9 : Value}
    {f10 : Addr} {od10 an10 : Option Addr} {sl10 : Array (Option Value)} {oc10 kV10 dc10 pm10 cd10 ct10 : Value}
    {f11 : Addr} {od11 an11 : Option Addr} {sl11 : Array (Option Value)} {oc11 kV11 dc11 pm11 cd11 ct11 : Value}
    {f12 : Addr} {od12 an12 : Option Addr} {sl12 : Array (Option Value)} {oc12 kV12 dc12 pm12 cd12 ct12 : Value}
    {f13 : Addr} {od13 an13 : Option Addr} {sl13 : Array (Option Value)} {oc13 kV13 dc13 pm13 cd13 ct13 : Value}
    {f14 : Addr} {od14 an14 : Option Addr} {sl14 : Array (Option Value)} {oc14 kV14 dc14 pm14 cd14 ct14 : Value}
    {f15 : Addr} {od15 an15 : Option Addr} {sl15 : Array (Option Value)} {oc15 kV15 dc15 pm15 cd15 ct15 : Value}
    {f16 : Addr} {od16 an16 : Option Addr} {sl16 : Array (Option Value)} {oc16 kV16 dc16 pm16 cd16 ct16 : Value}
    {f17 : Addr} {od17 an17 : Option Addr} {sl17 : Array (Option Value)} {oc17 kV17 dc17 pm17 cd17 ct17 : Value}
    {f18 : Addr} {od18 an18 : Option Addr} {sl18 : Array (Option Value)} {oc18 kV18 dc18 pm18 cd18 ct18 : Value}
    {f19 : Addr} {od19 an19 : Option Addr} {sl19 : Array (Option Value)} {oc19 kV19 dc19 pm19 cd19 ct19 : Value}
    {f20 : Addr} {od20 an20 : Option Addr} {sl20 : Array (Option Value)} {oc20 kV20 dc20 pm20 cd20 ct20 : Value}
    (a0 : PySem.W.nsIn K mainGlobals "_law_source" = some (some (.ref f0)))
    (l0 : K.lookup f0 = some ⟨oc0, od0, .func (PySem.W.fnOf "_law_source" "_law_source" (defArgs s__law_source) (defBody s__law_source) (defScope s__law_source) .none kV0 dc0 pm0 an0 cd0 ct0), sl0⟩) (c0 : PySem.W.codeIn K cd0 "_law_source" = true) (k0 : PySem.W.keepIn K (.ref f0) = true)
    (a1 : PySem.W.nsIn K mainGlobals "_law_pick" = some (some (.ref f1)))
    (l1 : K.lookup f1 = some ⟨oc1, od1, .func (PySem.W.fnOf "_law_pick" "_law_pick" (defArgs s__law_pick) (defBody s__law_pick) (defScope s__law_pick) .none kV1 dc1 pm1 an1 cd1 ct1), sl1⟩) (c1 : PySem.W.codeIn K cd1 "_law_pick" = true) (k1 : PySem.W.keepIn K (.ref f1) = true)
    (a2 : PySem.W.nsIn K mainGlobals "_law_name" = some (some (.ref f2)))
    (l2 : K.lookup f2 = some ⟨oc2, od2, .func (PySem.W.fnOf "_law_name" "_law_name" (defArgs s__law_name) (defBody s__law_name) (defScope s__law_name) .none kV2 dc2 pm2 an2 cd2 ct2), sl2⟩) (c2 : PySem.W.codeIn K cd2 "_law_name" = true) (k2 : PySem.W.keepIn K (.ref f2) = true)
    (a3 : PySem.W.nsIn K mainGlobals "_law_names" = some (some (.ref f3)))
    (l3 : K.lookup f3 = some ⟨oc3, od3, .func (PySem.W.fnOf "_law_names" "_law_names" (defArgs s__law_names) (defBody s__law_names) (defScope s__law_names) .none kV3 dc3 pm3 an3 cd3 ct3), sl3⟩) (c3 : PySem.W.codeIn K cd3 "_law_names" = true) (k3 : PySem.W.keepIn K (.ref f3) = true)
    (a4 : PySem.W.nsIn K mainGlobals "_law_use" = some (some (.ref f4)))
    (l4 : K.lookup f4 = some ⟨oc4, od4, .func (PySem.W.fnOf "_law_use" "_law_use" (defArgs s__law_use) (defBody s__law_use) (defScope s__law_use) .none kV4 dc4 pm4 an4 cd4 ct4), sl4⟩) (c4 : PySem.W.codeIn K cd4 "_law_use" = true) (k4 : PySem.W.keepIn K (.ref f4) = true)
    (a5 : PySem.W.nsIn K mainGlobals "_law_letter" = some (some (.ref f5)))
    (l5 : K.lookup f5 = some ⟨oc5, od5, .func (PySem.W.fnOf "_law_letter" "_law_letter" (defArgs s__law_letter) (defBody s__law_letter) (defScope s__law_letter) .none kV5 dc5 pm5 an5 cd5 ct5), sl5⟩) (c5 : PySem.W.codeIn K cd5 "_law_letter" = true) (k5 : PySem.W.keepIn K (.ref f5) = true)
    (a6 : PySem.W.nsIn K mainGlobals "_law_step" = some (some (.ref f6)))
    (l6 : K.lookup f6 = some ⟨oc6, od6, .func (PySem.W.fnOf "_law_step" "_law_step" (defArgs s__law_step) (defBody s__law_step) (defScope s__law_step) .none kV6 dc6 pm6 an6 cd6 ct6), sl6⟩) (c6 : PySem.W.codeIn K cd6 "_law_step" = true) (k6 : PySem.W.keepIn K (.ref f6) = true)
    (a7 : PySem.W.nsIn K mainGlobals "_law_body" = some (some (.ref f7)))
    (l7 : K.lookup f7 = some ⟨oc7, od7, .func (PySem.W.fnOf "_law_body" "_law_body" (defArgs s__law_body) (defBody s__law_body) (defScope s__law_body) .none kV7 dc7 pm7 an7 cd7 ct7), sl7⟩) (c7 : PySem.W.codeIn K cd7 "_law_body" = true) (k7 : PySem.W.keepIn K (.ref f7) = true)
    (a8 : PySem.W.nsIn K mainGlobals "_law_wrapped" = some (some (.ref f8)))
    (l8 : K.lookup f8 = some ⟨oc8, od8, .func (PySem.W.fnOf "_law_wrapped" "_law_wrapped" (defArgs s__law_wrapped) (defBody s__law_wrapped) (defScope s__law_wrapped) .none kV8 dc8 pm8 an8 cd8 ct8), sl8⟩) (c8 : PySem.W.codeIn K cd8 "_law_wrapped" = true) (k8 : PySem.W.keepIn K (.ref f8) = true)
    (a9 : PySem.W.nsIn K mainGlobals "_law_same" = some (some (.ref f9)))
    (l9 : K.lookup f9 = some ⟨oc9, od9, .func (PySem.W.fnOf "_law_same" "_law_same" (defArgs s__law_same) (defBody s__law_same) (defScope s__law_same) .none kV9 dc9 pm9 an9 cd9 ct9), sl9⟩) (c9 : PySem.W.codeIn K cd9 "_law_same" = true) (k9 : PySem.W.keepIn K (.ref f9) = true)
    (a10 : PySem.W.nsIn K mainGlobals "_is_one" = some (some (.ref f10)))
    (l10 : K.lookup f10 = some ⟨oc10, od10, .func (PySem.W.fnOf "_is_one" "_is_one" (defArgs s__is_one) (defBody s__is_one) (defScope s__is_one) .none kV10 dc10 pm10 an10 cd10 ct10), sl10⟩) (c10 : PySem.W.codeIn K cd10 "_is_one" = true) (k10 : PySem.W.keepIn K (.ref f10) = true)
    (a11 : PySem.W.nsIn K mainGlobals "_loop_of" = some (some (.ref f11)))
    (l11 : K.lookup f11 = some ⟨oc11, od11, .func (PySem.W.fnOf "_loop_of" "_loop_of" (defArgs s__loop_of) (defBody s__loop_of) (defScope s__loop_of) .none kV11 dc11 pm11 an11 cd11 ct11), sl11⟩) (c11 : PySem.W.codeIn K cd11 "_loop_of" = true) (k11 : PySem.W.keepIn K (.ref f11) = true)
    (a12 : PySem.W.nsIn K mainGlobals "_unwrapped" = some (some (.ref f12)))
    (l12 : K.lookup f12 = some ⟨oc12, od12, .func (PySem.W.fnOf "_unwrapped" "_unwrapped" (defArgs s__unwrapped) (defBody s__unwrapped) (defScope s__unwrapped) .none kV12 dc12 pm12 an12 cd12 ct12), sl12⟩) (c12 : PySem.W.codeIn K cd12 "_unwrapped" = true) (k12 : PySem.W.keepIn K (.ref f12) = true)
    (a13 : PySem.W.nsIn K mainGlobals "_choice_of" = some (some (.ref f13)))
    (l13 : K.lookup f13 = some ⟨oc13, od13, .func (PySem.W.fnOf "_choice_of" "_choice_of" (defArgs s__choice_of) (defBody s__choice_of) (defScope s__choice_of) .none kV13 dc13 pm13 an13 cd13 ct13), sl13⟩) (c13 : PySem.W.codeIn K cd13 "_choice_of" = true) (k13 : PySem.W.keepIn K (.ref f13) = true)
    (a14 : PySem.W.nsIn K mainGlobals "_both_of" = some (some (.ref f14)))
    (l14 : K.lookup f14 = some ⟨oc14, od14, .func (PySem.W.fnOf "_both_of" "_both_of" (defArgs s__both_of) (defBody s__both_of) (defScope s__both_of) .none kV14 dc14 pm14 an14 cd14 ct14), sl14⟩) (c14 : PySem.W.codeIn K cd14 "_both_of" = true) (k14 : PySem.W.keepIn K (.ref f14) = true)
    (a15 : PySem.W.nsIn K mainGlobals "tidy" = some (some (.ref f15)))
    (l15 : K.lookup f15 = some ⟨oc15, od15, .func (PySem.W.fnOf "tidy" "tidy" (defArgs s_tidy) (defBody s_tidy) (defScope s_tidy) .none kV15 dc15 pm15 an15 cd15 ct15), sl15⟩) (c15 : PySem.W.codeIn K cd15 "tidy" = true) (k15 : PySem.W.keepIn K (.ref f15) = true)
    (a16 : PySem.W.nsIn K mainGlobals "_tidy_step" = some (some (.ref f16)))
    (l16 : K.lookup f16 = some ⟨oc16, od16, .func (PySem.W.fnOf "_tidy_step" "_tidy_step" (defArgs s__tidy_step) (defBody s__tidy_step) (defScope s__tidy_step) .none kV16 dc16 pm16 an16 cd16 ct16), sl16⟩) (c16 : PySem.W.codeIn K cd16 "_tidy_step" = true) (k16 : PySem.W.keepIn K (.ref f16) = true)
    (a17 : PySem.W.nsIn K mainGlobals "_law_flat" = some (some (.ref f17)))
    (l17 : K.lookup f17 = some ⟨oc17, od17, .func (PySem.W.fnOf "_law_flat" "_law_flat" (defArgs s__law_flat) (defBody s__law_flat) (defScope s__law_flat) .none kV17 dc17 pm17 an17 cd17 ct17), sl17⟩) (c17 : PySem.W.codeIn K cd17 "_law_flat" = true) (k17 : PySem.W.keepIn K (.ref f17) = true)
    (a18 : PySem.W.nsIn K mainGlobals "_law_tidy_step" = some (some (.ref f18)))
    (l18 : K.lookup f18 = some ⟨oc18, od18, .func (PySem.W.fnOf "_law_tidy_step" "_law_tidy_step" (defArgs s__law_tidy_step) (defBody s__law_tidy_step) (defScope s__law_tidy_step) .none kV18 dc18 pm18 an18 cd18 ct18), sl18⟩) (c18 : PySem.W.codeIn K cd18 "_law_tidy_step" = true) (k18 : PySem.W.keepIn K (.ref f18) = true)
    (a19 : PySem.W.nsIn K mainGlobals "_law_tidy" = some (some (.ref f19)))
    (l19 : K.lookup f19 = some ⟨oc19, od19, .func (PySem.W.fnOf "_law_tidy" "_law_tidy" (defArgs s__law_tidy) (defBody s__law_tidy) (defScope s__law_tidy) .none kV19 dc19 pm19 an19 cd19 ct19), sl19⟩) (c19 : PySem.W.codeIn K cd19 "_law_tidy" = true) (k19 : PySem.W.keepIn K (.ref f19) = true)
    (a20 : PySem.W.nsIn K mainGlobals "law" = some (some (.ref f20)))
    (l20 : K.lookup f20 = some ⟨oc20, od20, .func (PySem.W.fnOf "law" "law" (defArgs s_law) (defBody s_law) (defScope s_law) .none kV20 dc20 pm20 an20 cd20 ct20), sl20⟩) (c20 : PySem.W.codeIn K cd20 "law" = true) (k20 : PySem.W.keepIn K (.ref f20) = true)
    (z0 : PySem.W.nsIn K mainGlobals "bool" = some none)
    (z1 : PySem.W.nsIn K mainGlobals "int" = some none)
    (z2 : PySem.W.nsIn K mainGlobals "isinstance" = some none)
    (z3 : PySem.W.nsIn K mainGlobals "len" = some none)
    (z4 : PySem.W.nsIn K mainGlobals "list" = some none)
    (z5 : PySem.W.nsIn K mainGlobals "min" = some none)
    (z6 : PySem.W.nsIn K mainGlobals "range" = some none)
    (z7 : PySem.W.nsIn K mainGlobals "str" = some none)
    (z8 : PySem.W.nsIn K mainGlobals "tuple" = some none) :
    ∃ fd : FuncData, (∀ (s : Shared) (v : Value), BindsTo s fd ⟨[v], []⟩ [("script", v)]) ∧ ∀ (P : Program) (w : World) (base : Heap), FnOk P w K mg base CX0 45 fa fd ["script"] (spA K F_law) := by
  have e := hfa.symm.trans (PySem.W.mg_of X Gn a20)
  cases e
  have F0 := fun_mk (st := s__law_source) l0 c0 k0
  have F1 := fun_mk (st := s__law_pick) l1 c1 k1
  have F2 := fun_mk (st := s__law_name) l2 c2 k2
  have F3 := fun_mk (st := s__law_names) l3 c3 k3
  have F4 := fun_mk (st := s__law_use) l4 c4 k4
  have F5 := fun_mk (st := s__law_letter) l5 c5 k5
  have F6 := fun_mk (st := s__law_step) l6 c6 k6
  have F7 := fun_mk (st := s__law_body) l7 c7 k7
  have F8 := fun_mk (st := s__law_wrapped) l8 c8 k8
  have F9 := fun_mk (st := s__law_same) l9 c9 k9
  have F10 := fun_mk (st := s__is_one) l10 c10 k10
  have F11 := fun_mk (st := s__loop_of) l11 c11 k11
  have F12 := fun_mk (st := s__unwrapped) l12 c12 k12
  have F13 := fun_mk (st := s__choice_of) l13 c13 k13
  have F14 := fun_mk (st := s__both_of) l14 c14 k14
  have F15 := fun_mk (st := s_tidy) l15 c15 k15
  have F16 := fun_mk (st := s__tidy_step) l16 c16 k16
  have F17 := fun_mk (st := s__law_flat) l17 c17 k17
  have F18 := fun_mk (st := s__law_tidy_step) l18 c18 k18
  have F19 := fun_mk (st := s__law_tidy) l19 c19 k19
  have F20 := fun_mk (st := s_law) l20 c20 k20
  let T : Txt K mg := { m_bool := PySem.W.mg_none_of X Gn z0, m_int := PySem.W.mg_none_of X Gn z1, m_isinstance := PySem.W.mg_none_of X Gn z2, m_len := PySem.W.mg_none_of X Gn z3, m_list := PySem.W.mg_none_of X Gn z4, m_min := PySem.W.mg_none_of X Gn z5, m_range := PySem.W.mg_none_of X Gn z6, m_str := PySem.W.mg_none_of X Gn z7, m_tuple := PySem.W.mg_none_of X Gn z8, f__law_source := f0, fd__law_source := _, g__law_source := PySem.W.mg_of X Gn a0, F__law_source := F0, b__law_source := F0.binds (ps := ["script"]) fun _ _ _ _ _ _ us hl => (match us, hl with | [_], _ => rfl), f__law_pick := f1, fd__law_pick := _, g__law_pick := PySem.W.mg_of X Gn a1, F__law_pick := F1, b__law_pick := F1.binds (ps := ["source", "many"]) fun _ _ _ _ _ _ us hl => (match us, hl with | [_, _], _ => rfl), f__law_name := f2, fd__law_name := _, g__law_name := PySem.W.mg_of X Gn a2, F__law_name := F2, b__law_name := F2.binds (ps := ["source", "taken"]) fun _ _ _ _ _ _ us hl => (match us, hl with | [_, _], _ => rfl), f__law_names := f3, fd__law_names := _, g__law_names := PySem.W.mg_of X Gn a3, F__law_names := F3, b__law_names := F3.binds (ps := ["source", "many", "taken"]) fun _ _ _ _ _ _ us hl => (match us, hl with | [_, _, _], _ => rfl), f__law_use := f4, fd__law_use := _, g__law_use := PySem.W.mg_of X Gn a4, F__law_use := F4, b__law_use := F4.binds (ps := ["source", "world"]) fun _ _ _ _ _ _ us hl => (match us, hl with | [_, _], _ => rfl), f__law_letter := f5, fd__law_letter := _, g__law_letter := PySem.W.mg_of X Gn a5, F__law_letter := F5, b__law_letter := F5.binds (ps := ["source", "world"]) fun _ _ _ _ _ _ us hl => (match us, hl with | [_, _], _ => rfl), f__law_step := f6, fd__law_step := _, g__law_step := PySem.W.mg_of X Gn a6, F__law_step := F6, b__law_step := F6.binds (ps := ["source", "world", "depth"]) fun _ _ _ _ _ _ us hl => (match us, hl with | [_, _, _], _ => rfl), f__law_body := f7, fd__law_body := _, g__law_body := PySem.W.mg_of X Gn a7, F__law_body := F7, b__law_body := F7.binds (ps := ["source", "world", "depth"]) fun _ _ _ _ _ _ us hl => (match us, hl with | [_, _, _], _ => rfl), f__law_wrapped := f8, fd__law_wrapped := _, g__law_wrapped := PySem.W.mg_of X Gn a8, F__law_wrapped := F8, b__law_wrapped := F8.binds (ps := ["source", "body"]) fun _ _ _ _ _ _ us hl => (match us, hl with | [_, _], _ => rfl), f__law_same := f9, fd__law_same := _, g__law_same := PySem.W.mg_of X Gn a9, F__law_same := F9, b__law_same := F9.binds (ps := ["actual", "due"]) fun _ _ _ _ _ _ us hl => (match us, hl with | [_, _], _ => rfl), f__is_one := f10, fd__is_one := _, g__is_one := PySem.W.mg_of X Gn a10, F__is_one := F10, b__is_one := F10.binds (ps := ["body", "kind"]) fun _ _ _ _ _ _ us hl => (match us, hl with | [_, _], _ => rfl), f__loop_of := f11, fd__loop_of := _, g__loop_of := PySem.W.mg_of X Gn a11, F__loop_of := F11, b__loop_of := F11.binds (ps := ["body"]) fun _ _ _ _ _ _ us hl => (match us, hl with | [_], _ => rfl), f__unwrapped := f12, fd__unwrapped := _, g__unwrapped := PySem.W.mg_of X Gn a12, F__unwrapped := F12, b__unwrapped := F12.binds (ps := ["bodies", "kind"]) fun _ _ _ _ _ _ us hl => (match us, hl with | [_, _], _ => rfl), f__choice_of := f13, fd__choice_of := _, g__choice_of := PySem.W.mg_of X Gn a13, F__choice_of := F13, b__choice_of := F13.binds (ps := ["bodies"]) fun _ _ _ _ _ _ us hl => (match us, hl with | [_], _ => rfl), f__both_of := f14, fd__both_of := _, g__both_of := PySem.W.mg_of X Gn a14, F__both_of := F14, b__both_of := F14.binds (ps := ["bodies"]) fun _ _ _ _ _ _ us hl => (match us, hl with | [_], _ => rfl), f_tidy := f15, fd_tidy := _, g_tidy := PySem.W.mg_of X Gn a15, F_tidy := F15, b_tidy := F15.binds (ps := ["body"]) fun _ _ _ _ _ _ us hl => (match us, hl with | [_], _ => rfl), f__tidy_step := f16, fd__tidy_step := _, g__tidy_step := PySem.W.mg_of X Gn a16, F__tidy_step := F16, b__tidy_step := F16.binds (ps := ["step"]) fun _ _ _ _ _ _ us hl => (match us, hl with | [_], _ => rfl), f__law_flat := f17, fd__law_flat := _, g__law_flat := PySem.W.mg_of X Gn a17, F__law_flat := F17, b__law_flat := F17.binds (ps := ["kind", "bodies"]) fun _ _ _ _ _ _ us hl => (match us, hl with | [_, _], _ => rfl), f__law_tidy_step := f18, fd__law_tidy_step := _, g__law_tidy_step := PySem.W.mg_of X Gn a18, F__law_tidy_step := F18, b__law_tidy_step := F18.binds (ps := ["step"]) fun _ _ _ _ _ _ us hl => (match us, hl with | [_], _ => rfl), f__law_tidy := f19, fd__law_tidy := _, g__law_tidy := PySem.W.mg_of X Gn a19, F__law_tidy := F19, b__law_tidy := F19.binds (ps := ["body"]) fun _ _ _ _ _ _ us hl => (match us, hl with | [_], _ => rfl), f_law := fa, fd_law := _, g_law := PySem.W.mg_of X Gn a20, F_law := F20, b_law := F20.binds (ps := ["script"]) fun _ _ _ _ _ _ us hl => (match us, hl with | [_], _ => rfl) }
  exact ⟨_, fun s v => .of_eq rfl, fun P w base => all_ok T⟩
end

end K47
open PySem PySem.W PyProof.Rows
set_option maxHeartbeats 0 in
theorem PySem.Challenge.cw_pactloom_k47_tidied_bodies_holds : PySem.Challenge.rw_pactloom_k47_tidied_bodies.Holds := by
  w_on; o_law; k_head; (case hw => w_witness2)
  k_fill
  refine L2.walk_of (l := PySem.Challenge.rw_pactloom_k47_tidied_bodies) (n := 63) (k := 45) (x := "script") (CX := fun _ => L2.CX0) (sp := fun w => Ab.spA _ Ab.F_law) rfl (by decide) rfl ⟨rfl, by decide, by decide⟩ (fun w h Y => PySem.W.kIn_of Y) ?F (fun _ H a ns hl hO hS => Ab.law_start hl hS) (fun _ _ _ _ _ h => h)
  case F =>
    intro w mg fa h KX G hmg
    refine' Ab.fd_all (K47.all_mk KX G hmg ?a0 ?l0 ?c0 ?k0 ?a1 ?l1 ?c1 ?k1 ?a2 ?l2 ?c2 ?k2 ?a3 ?l3 ?c3 ?k3 ?a4 ?l4 ?c4 ?k4 ?a5 ?l5 ?c5 ?k5 ?a6 ?l6 ?c6 ?k6 ?a7 ?l7 ?c7 ?k7 ?a8 ?l8 ?c8 ?k8 ?a9 ?l9 ?c9 ?k9 ?a10 ?l10 ?c10 ?k10 ?a11 ?l11 ?c11 ?k11 ?a12 ?l12 ?c12 ?k12 ?a13 ?l13 ?c13 ?k13 ?a14 ?l14 ?c14 ?k14 ?a15 ?l15 ?c15 ?k15 ?a16 ?l16 ?c16 ?k16 ?a17 ?l17 ?c17 ?k17 ?a18 ?l18 ?c18 ?k18 ?a19 ?l19 ?c19 ?k19 ?a20 ?l20 ?c20 ?k20 ?z0 ?z1 ?z2 ?z3 ?z4 ?z5 ?z6 ?z7 ?z8)
    (case a0 => k_is)
    (case l0 => k_is)
    (case c0 => k_is)
    (case k0 => k_is)
    (case a1 => k_is)
    (case l1 => k_is)
    (case c1 => k_is)
    (case k1 => k_is)
    (case a2 => k_is)
    (case l2 => k_is)
    (case c2 => k_is)
    (case k2 => k_is)
    (case a3 => k_is)
    (case l3 => k_is)
    (case c3 => k_is)
    (case k3 => k_is)
    (case a4 => k_is)
    (case l4 => k_is)
    (case c4 => k_is)
    (case k4 => k_is)
    (case a5 => k_is)
    (case l5 => k_is)
    (case c5 => k_is)
    (case k5 => k_is)
    (case a6 => k_is)
    (case l6 => k_is)
    (case c6 => k_is)
    (case k6 => k_is)
    (case a7 => k_is)
    (case l7 => k_is)
    (case c7 => k_is)
    (case k7 => k_is)
    (case a8 => k_is)
    (case l8 => k_is)
    (case c8 => k_is)
    (case k8 => k_is)
    (case a9 => k_is)
    (case l9 => k_is)
    (case c9 => k_is)
    (case k9 => k_is)
    (case a10 => k_is)
    (case l10 => k_is)
    (case c10 => k_is)
    (case k10 => k_is)
    (case a11 => k_is)
    (case l11 => k_is)
    (case c11 => k_is)
    (case k11 => k_is)
    (case a12 => k_is)
    (case l12 => k_is)
    (case c12 => k_is)
    (case k12 => k_is)
    (case a13 => k_is)
    (case l13 => k_is)
    (case c13 => k_is)
    (case k13 => k_is)
    (case a14 => k_is)
    (case l14 => k_is)
    (case c14 => k_is)
    (case k14 => k_is)
    (case a15 => k_is)
    (case l15 => k_is)
    (case c15 => k_is)
    (case k15 => k_is)
    (case a16 => k_is)
    (case l16 => k_is)
    (case c16 => k_is)
    (case k16 => k_is)
    (case a17 => k_is)
    (case l17 => k_is)
    (case c17 => k_is)
    (case k17 => k_is)
    (case a18 => k_is)
    (case l18 => k_is)
    (case c18 => k_is)
    (case k18 => k_is)
    (case a19 => k_is)
    (case l19 => k_is)
    (case c19 => k_is)
    (case k19 => k_is)
    (case a20 => k_is)
    (case l20 => k_is)
    (case c20 => k_is)
    (case k20 => k_is)
    (case z0 => k_is)
    (case z1 => k_is)
    (case z2 => k_is)
    (case z3 => k_is)
    (case z4 => k_is)
    (case z5 => k_is)
    (case z6 => k_is)
    (case z7 => k_is)
    (case z8 => k_is)

