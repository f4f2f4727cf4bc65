import PyProof.Rows.All
import Wide.All
import OpenK.AllK
import Wide.FinOn
import PySem.Challenge.RW_pactloom_k02_any_text
import HandS.ForMost
import HandS.IsInst
import HandS.TupAny
import HandS.StrMore
import HandS.Codes
import HandS.Dict
import HandS.More
import HandS.Text
import HandS.FStr
import HandS.Exc
import HandS.Sort
import HandS.Zip0
import HandS.NoneIn
import HandS.List
import HandS.Conv
import HandS.Keys
import KE.KSortTupG
import HandS.WordsExc
import HandS.ExcInit
import HandS.ExcField
import HandS.TryOnly
import KE.KExcIs
import HandS.ExcIs
import HandS.HotCalls
set_option Elab.async false
set_option linter.all false
set_option maxRecDepth 100000
set_option maxHeartbeats 4000000
/-! Ab: readings over data instead of heaps: values that never change are data (PyData), what changes are cells by their number. -/
namespace Ab
open PySem L2

inductive AV where
  | d (x : PyData)
  | c (k : Nat)
  | r (v : V)

inductive Cell where
  | dead
  /-- a list of data; a list, a tuple of any things -/
  | ld (xs : List PyData)
  | lst (xs : List AV)
  | tup (xs : List AV)
  | dK (kvs : List (Key × PyData))
  | dT (kvs : List (List Key × PyData))
  | ins (C : Addr) (fs : List (Str × AV))

abbrev AD := List (Option AV)
abbrev AK := List Cell
abbrev AR := AV → AK → Prop
abbrev AE := AD → AK → AR → Prop
abbrev AT := AD → AK → (Bool → AK → Prop) → Prop
abbrev AA := AD → AK → (List AV → AK → Prop) → Prop

mutual
theorem dp_up {K : PySem.W.Frag} {B B' : Hp} (s : Same B B') : ∀ (d : PyData) (v : V), Dp K B v d → Dp K B' v d
  | .none, _, h => by cases h; exact .non
  | .bool b, _, h => by cases h; exact .bl b
  | .int i, _, h => by cases h; exact .int i
  | .str x, _, h => by cases h; exact .str x
  | .list ds, _, h => by
    cases h with
    | lst hs ha => exact .lst (s.seq hs) (dpa_up s ds _ ha)
  | .tuple ds, _, h => by
    cases h with
    | tup hs ha =>
      refine .tup ?_ (dpa_up s ds _ ha)
      rcases hs with (h | ⟨o, h⟩) | h
      · exact .inl (.inl (s _ _ h))
      · exact .inl (.inr ⟨o, s _ _ h⟩)
      · exact .inr h
  | .dict _, _, h => by cases h
theorem dpa_up {K : PySem.W.Frag} {B B' : Hp} (s : Same B B') : ∀ (ds : List PyData) (vs : List V), DpAll K B vs ds → DpAll K B' vs ds
  | [], _, h => by cases h; exact .nil
  | d :: ds, _, h => by
    cases h with
    | cons h1 h2 => exact .cons (dp_up s d _ h1) (dpa_up s ds _ h2)
end

variable {K : PySem.W.Frag} {B B' B2 H H' H2 : Hp} {ρ ρ' ρ2 : List Addr} {κ κ' : AK} {δ : AD} {σ : L2.St} {p : Addr} {k : Nat} {v x y z : V} {a b c : AV}

def Rep (K : PySem.W.Frag) (B : Hp) (ρ : List Addr) : AV → V → Prop
  | .d x, v => Dp K B v x
  | .c k, v => ∃ p, ρ[k]? = some p ∧ v = .ref p
  | .r u, v => v = u
abbrev Reps (K : PySem.W.Frag) (B : Hp) (ρ : List Addr) : List AV → List V → Prop := Paired (Rep K B ρ)
/-- entries with data -/
def DpKs {κ : Type} (K : PySem.W.Frag) (B : Hp) : List (κ × PyData) → List (κ × V) → Prop := Paired fun p q => p.1 = q.1 ∧ Dp K B q.2 p.2
theorem DpKs.up {κ : Type} (u : Same B B') {as : List (κ × PyData)} {vs : List (κ × V)} (h : DpKs K B as vs) : DpKs K B' as vs := Paired.mapP h fun _ _ r => ⟨r.1, dp_up u _ _ r.2⟩
def RepKs {κ : Type} (K : PySem.W.Frag) (B : Hp) (ρ : List Addr) : List (κ × AV) → List (κ × V) → Prop := Paired fun p q => p.1 = q.1 ∧ Rep K B ρ p.2 q.2

/-- a tuple -/
def IsT (o : HO) : Prop := ∃ ws, o = .tup ws
/-- from (B, ρ, H) to (B', ρ', H'): data stays data, cells keep their places, what is neither stays as it was -/
structure Up (B : Hp) (ρ : List Addr) (H : Hp) (B' : Hp) (ρ' : List Addr) (H' : Hp) : Prop where
  s : Same B B'
  p : ∀ (i : Nat) (a : Addr), ρ[i]? = some a → ρ'[i]? = some a
  f : ∀ p o, H p = some o → (B p = none ∨ IsT o) → p ∉ ρ → H' p = some o ∧ (B' p = none ∨ IsT o) ∧ p ∉ ρ'
theorem Up.refl : Up B ρ H B ρ H := ⟨Same.refl B, fun _ _ h => h, fun _ _ h1 h2 h3 => ⟨h1, h2, h3⟩⟩
theorem Up.trans (a : Up B ρ H B' ρ' H') (b : Up B' ρ' H' B2 ρ2 H2) : Up B ρ H B2 ρ2 H2 := ⟨a.s.trans b.s, fun i x h => b.p i x (a.p i x h), fun p o h1 h2 h3 => let ⟨e1, e2, e3⟩ := a.f p o h1 h2 h3; b.f p o e1 e2 e3⟩
/-- the same of the first n cells alone -/
structure UpN (n : Nat) (B : Hp) (ρ : List Addr) (H : Hp) (B' : Hp) (ρ' : List Addr) (H' : Hp) : Prop where
  s : Same B B'
  p : ∀ (i : Nat) (a : Addr), i < n → ρ[i]? = some a → ρ'[i]? = some a
  f : ∀ p o, H p = some o → (B p = none ∨ IsT o) → p ∉ ρ → H' p = some o ∧ (B' p = none ∨ IsT o) ∧ p ∉ ρ'
theorem Up.n {n : Nat} (a : Up B ρ H B' ρ' H') : UpN n B ρ H B' ρ' H' := ⟨a.s, fun i x _ h => a.p i x h, a.f⟩
theorem UpN.refl {n : Nat} : UpN n B ρ H B ρ H := Up.refl.n
theorem UpN.trans {n : Nat} (a : UpN n B ρ H B' ρ' H') (b : UpN n B' ρ' H' B2 ρ2 H2) : UpN n B ρ H B2 ρ2 H2 := ⟨a.s.trans b.s, fun i x hi h => b.p i x hi (a.p i x hi h), fun p o h1 h2 h3 => let ⟨e1, e2, e3⟩ := a.f p o h1 h2 h3; b.f p o e1 e2 e3⟩
theorem UpN.full {n : Nat} (a : UpN n B ρ H B' ρ' H') (h : ρ.length ≤ n) : Up B ρ H B' ρ' H' := ⟨a.s, fun i x e => a.p i x (Nat.lt_of_lt_of_le (List.getElem?_eq_some_iff.mp e).1 h) e, a.f⟩
/-- data and cells alone -/
structure Ug (B : Hp) (ρ : List Addr) (B' : Hp) (ρ' : List Addr) : Prop where
  s : Same B B'
  p : ∀ (i : Nat) (a : Addr), ρ[i]? = some a → ρ'[i]? = some a
theorem Ug.refl : Ug B ρ B ρ := ⟨Same.refl B, fun _ _ h => h⟩
theorem Up.g (u : Up B ρ H B' ρ' H') : Ug B ρ B' ρ' := ⟨u.s, u.p⟩
theorem Rep.up (u : Ug B ρ B' ρ') : ∀ {a : AV} {v : V}, Rep K B ρ a v → Rep K B' ρ' a v
  | .d x, _, h => dp_up u.s x _ h
  | .c k, _, ⟨p, h, e⟩ => ⟨p, u.p _ _ h, e⟩
  | .r _, _, h => h
theorem Reps.up (u : Ug B ρ B' ρ') {as : List AV} {vs : List V} (h : Reps K B ρ as vs) : Reps K B' ρ' as vs := Paired.mapP h fun _ _ r => r.up u
theorem RepKs.up {κ : Type} (u : Ug B ρ B' ρ') {as : List (κ × AV)} {vs : List (κ × V)} (h : RepKs K B ρ as vs) : RepKs K B' ρ' as vs := Paired.mapP h fun _ _ r => ⟨r.1, r.2.up u⟩

def CellOk (K : PySem.W.Frag) (B : Hp) (ρ : List Addr) (H : Hp) (p : Addr) : Cell → Prop
  | .dead => H p ≠ none
  | .ld xs => B p = none ∧ ∃ vs, DpAll K B vs xs ∧ H p = some (.lst vs)
  | .lst xs => B p = none ∧ ∃ vs, Reps K B ρ xs vs ∧ H p = some (.lst vs)
  | .tup xs => ∃ vs, Reps K B ρ xs vs ∧ H p = some (.tup vs)
  | .dK kvs => B p = none ∧ ∃ ws, DpKs K B kvs ws ∧ H p = some (.dK ws)
  | .dT kvs => B p = none ∧ ∃ ws, DpKs K B kvs ws ∧ H p = some (.dT ws)
  | .ins C fs => B p = none ∧ ∃ dx ws, RepKs K B ρ fs ws ∧ H p = some (.ins C dx ws)
theorem CellOk.nn {cl : Cell} (h : CellOk K B ρ H p cl) : H p ≠ none := by
  cases cl with
  | dead => exact h
  | ld xs => obtain ⟨_, _, _, e⟩ := h; rw [e]; simp
  | lst xs => obtain ⟨_, _, _, e⟩ := h; rw [e]; simp
  | tup xs => obtain ⟨_, _, e⟩ := h; rw [e]; simp
  | dK xs => obtain ⟨_, _, _, e⟩ := h; rw [e]; simp
  | dT xs => obtain ⟨_, _, _, e⟩ := h; rw [e]; simp
  | ins C xs => obtain ⟨_, _, _, _, e⟩ := h; rw [e]; simp
/-- the cell stays: its own object, and it is not in the base -/
theorem CellOk.up {cl : Cell} (u : Ug B ρ B' ρ') (h : CellOk K B ρ H p cl) (hb : B p = none → B' p = none ∨ ∃ ws, H p = some (.tup ws)) (hh : ∀ o, H p = some o → H' p = some o) : CellOk K B' ρ' H' p cl := by
  cases cl with
  | dead =>
    show H' p ≠ none
    cases e : H p with
    | none => exact absurd e h
    | some o => rw [hh o e]; simp
  | ld xs => obtain ⟨n, vs, r, e⟩ := h; exact ⟨(hb n).elim id fun ⟨ws, z⟩ => (by rw [e] at z; cases z), vs, dpa_up u.s _ _ r, hh _ e⟩
  | lst xs => obtain ⟨n, vs, r, e⟩ := h; exact ⟨(hb n).elim id fun ⟨ws, z⟩ => (by rw [e] at z; cases z), vs, Reps.up u r, hh _ e⟩
  | tup xs => obtain ⟨vs, r, e⟩ := h; exact ⟨vs, Reps.up u r, hh _ e⟩
  | dK xs => obtain ⟨n, vs, r, e⟩ := h; exact ⟨(hb n).elim id fun ⟨ws, z⟩ => (by rw [e] at z; cases z), vs, DpKs.up u.s r, hh _ e⟩
  | dT xs => obtain ⟨n, vs, r, e⟩ := h; exact ⟨(hb n).elim id fun ⟨ws, z⟩ => (by rw [e] at z; cases z), vs, DpKs.up u.s r, hh _ e⟩
  | ins C xs => obtain ⟨n, dx, vs, r, e⟩ := h; exact ⟨(hb n).elim id fun ⟨ws, z⟩ => (by rw [e] at z; cases z), dx, vs, RepKs.up u r, hh _ e⟩

/-- what is written, and a predicate of states that every later state keeps -/
structure Frg where
  K : PySem.W.Frag
  n : Nat
  Z : Hp → List Addr → Hp → Prop
  up : ∀ B ρ H B' ρ' H', UpN n B ρ H B' ρ' H' → Z B ρ H → Z B' ρ' H'
instance : CoeOut Frg PySem.W.Frag := ⟨Frg.K⟩
abbrev Frg.of (K : PySem.W.Frag) : Frg := ⟨K, 0, fun _ _ _ => True, fun _ _ _ _ _ _ _ _ => True.intro⟩
variable {K : Frg}
structure G (K : Frg) (B : Hp) (ρ : List Addr) (κ : AK) (H : Hp) : Prop where
  ex : Same B H
  len : ρ.length = κ.length
  inj : ∀ (i j : Nat) (p : Addr), ρ[i]? = some p → ρ[j]? = some p → i = j
  at' : ∀ (k : Nat) (p : Addr) (c : Cell), ρ[k]? = some p → κ[k]? = some c → CellOk K B ρ H p c
  z : K.Z B ρ H
structure S (K : PySem.W.Frag) (B : Hp) (ρ : List Addr) (δ : AD) (σ : L2.St) : Prop where
  len : δ.length = σ.length
  at' : ∀ (i : Nat) (a : AV), δ[i]? = some (some a) → ∃ v, σ[i]? = some (some v) ∧ Rep K B ρ a v
theorem S.up (u : Ug B ρ B' ρ') (s : S K B ρ δ σ) : S K B' ρ' δ σ := ⟨s.len, fun i a h => let ⟨v, e, r⟩ := s.at' i a h; ⟨v, e, r.up u⟩⟩
theorem S.set {i : Nat} (s : S K B ρ δ σ) (r : Rep K B ρ a v) : S K B ρ (δ.set i (some a)) (σ.set i (some v)) := by
  refine ⟨by rw [List.length_set, List.length_set]; exact s.len, fun j b h => ?_⟩
  by_cases e : i = j
  · subst e
    have hl : i < δ.length := by
      have := (List.getElem?_eq_some_iff.mp h).1
      rw [List.length_set] at this
      exact this
    rw [List.getElem?_set_self hl] at h
    cases h
    exact ⟨v, List.getElem?_set_self (s.len ▸ hl), r⟩
  · rw [List.getElem?_set_ne e] at h
    obtain ⟨w, e2, r2⟩ := s.at' j b h
    exact ⟨w, by rw [List.getElem?_set_ne e]; exact e2, r2⟩
theorem S.clr {i : Nat} (s : S K B ρ δ σ) {u : Option V} : S K B ρ (δ.set i none) (σ.set i u) := by
  refine ⟨by rw [List.length_set, List.length_set]; exact s.len, fun j b h => ?_⟩
  by_cases e : i = j
  · subst e
    have hl : i < δ.length := by
      have := (List.getElem?_eq_some_iff.mp h).1
      rw [List.length_set] at this
      exact this
    rw [List.getElem?_set_self hl] at h
    cases h
  · rw [List.getElem?_set_ne e] at h
    obtain ⟨w, e2, r2⟩ := s.at' j b h
    exact ⟨w, by rw [List.getElem?_set_ne e]; exact e2, r2⟩

theorem get_app {α : Type} {l : List α} {m : List α} {i : Nat} {a : α} (h : l[i]? = some a) : (l ++ m)[i]? = some a := by
  rw [List.getElem?_append_left (List.getElem?_eq_some_iff.mp h).1]; exact h
theorem get_snoc {α : Type} {l : List α} {i : Nat} {x a : α} (h : (l ++ [x])[i]? = some a) : (i < l.length ∧ l[i]? = some a) ∨ (i = l.length ∧ a = x) := by
  by_cases hl : i < l.length
  · rw [List.getElem?_append_left hl] at h; exact .inl ⟨hl, h⟩
  · have hb := (List.getElem?_eq_some_iff.mp h).1
    rw [List.length_append] at hb
    have e : i = l.length := by
      have : ([x] : List α).length = 1 := rfl
      omega
    subst e
    rw [List.getElem?_append_right (Nat.le_refl _)] at h
    simp at h
    exact .inr ⟨rfl, h.symm⟩
theorem up_snoc : Ug B ρ B (ρ ++ [p]) := ⟨Same.refl B, fun _ _ h => get_app h⟩
theorem G.fresh (g : G K B ρ κ H) (n : H p = none) : B p = none := g.ex.free n
theorem G.nin (g : G K B ρ κ H) (n : H p = none) {i : Nat} {q : Addr} (h : ρ[i]? = some q) : q ≠ p := fun e => by
  subst e
  have hi : i < κ.length := by rw [← g.len]; exact (List.getElem?_eq_some_iff.mp h).1
  exact (g.at' i q _ h (List.getElem?_eq_getElem hi)).nn n
theorem same_upd {o : HO} (h : H p = none) : Same H (upd H p o) := fun b x e => by
  rw [upd_ne (ne_of_none e h)]; exact e
theorem G.allocUp (g : G K B ρ κ H) (n : H p = none) {o : HO} : Up B ρ H B (ρ ++ [p]) (upd H p o) := ⟨Same.refl B, fun _ _ h => get_app h, fun q o' h1 h2 h3 => by
  have hq := ne_of_none h1 n
  rw [upd_ne hq]
  refine ⟨h1, h2, fun z => ?_⟩
  rcases List.mem_append.mp z with z | z
  · exact h3 z
  · exact hq (by simpa using z)⟩
/-- a new cell -/
theorem G.alloc (g : G K B ρ κ H) (n : H p = none) {o : HO} {cl : Cell} (hc : CellOk K B ρ (upd H p o) p cl) : G K B (ρ ++ [p]) (κ ++ [cl]) (upd H p o) := by
  refine ⟨fun b u e => same_upd n b u (g.ex b u e), by rw [List.length_append, List.length_append, g.len] <;> rfl, fun i j q h1 h2 => ?_, fun i q c h1 h2 => ?_, K.up _ _ _ _ _ _ (g.allocUp n).n g.z⟩
  · rcases get_snoc h1 with ⟨l1, e1⟩ | ⟨l1, e1⟩
    · rcases get_snoc h2 with ⟨l2, e2⟩ | ⟨l2, e2⟩
      · exact g.inj i j q e1 e2
      · subst e2; exact absurd rfl (g.nin n e1)
    · rcases get_snoc h2 with ⟨l2, e2⟩ | ⟨l2, e2⟩
      · subst e1; exact absurd rfl (g.nin n e2)
      · rw [l1, l2]
  · rcases get_snoc h1 with ⟨l1, e1⟩ | ⟨l1, e1⟩
    · rw [List.getElem?_append_left (g.len ▸ l1)] at h2
      have hq := g.nin n e1
      exact (g.at' i q c e1 h2).up up_snoc Or.inl fun o' e => by rw [upd_ne hq]; exact e
    · subst e1
      rcases get_snoc h2 with ⟨l2, e2⟩ | ⟨l2, e2⟩
      · rw [l1, g.len] at l2; exact absurd l2 (Nat.lt_irrefl _)
      · subst e2; exact hc.up up_snoc Or.inl fun _ e => e
theorem rep_new (g : G K B ρ κ H) : Rep K B (ρ ++ [p]) (.c κ.length) (.ref p) := ⟨p, by rw [← g.len]; simp, rfl⟩
/-- new data in the base -/
theorem G.data (g : G K B ρ κ H) (n : H p = none) {o : HO} : Up B ρ H (upd B p o) ρ (upd H p o) ∧ G K (upd B p o) ρ κ (upd H p o) := by
  have nb := g.fresh n
  have u : Up B ρ H (upd B p o) ρ (upd H p o) := ⟨same_upd nb, fun _ _ h => h, fun q o' h1 h2 h3 => by
    have hq := ne_of_none h1 n
    rw [upd_ne hq, upd_ne hq]; exact ⟨h1, h2, h3⟩⟩
  refine ⟨u, ⟨fun b x e => ?_, g.len, g.inj, fun i q c h1 h2 => ?_, K.up _ _ _ _ _ _ u.n g.z⟩⟩
  · by_cases hb : b = p
    · subst hb; rw [upd_same] at e ⊢; exact e
    · rw [upd_ne hb] at e ⊢; exact g.ex b x e
  · have hq := g.nin n h1
    exact (g.at' i q c h1 h2).up u.g (fun z => .inl (by rw [upd_ne hq]; exact z)) fun o' e => by rw [upd_ne hq]; exact e
theorem mem_of_get {α : Type} {l : List α} {i : Nat} {a : α} (h : l[i]? = some a) : a ∈ l := List.mem_of_getElem? h
theorem G.writeUp (hp : ρ[k]? = some p) {o : HO} : Up B ρ H B ρ (upd H p o) := ⟨Same.refl B, fun _ _ h => h, fun q o' h1 h2 h3 => by
  have hq : q ≠ p := fun e => h3 (e ▸ mem_of_get hp)
  rw [upd_ne hq]; exact ⟨h1, h2, h3⟩⟩
/-- a cell changes -/
theorem G.write (g : G K B ρ κ H) (hp : ρ[k]? = some p) (hb : B p = none) {o : HO} {cl : Cell} (hc : CellOk K B ρ (upd H p o) p cl) : G K B ρ (κ.set k cl) (upd H p o) := by
  refine ⟨fun b x e => ?_, by rw [List.length_set]; exact g.len, g.inj, fun i q c h1 h2 => ?_, K.up _ _ _ _ _ _ (G.writeUp hp).n g.z⟩
  · have : b ≠ p := ne_of_none e hb
    rw [upd_ne this]; exact g.ex b x e
  · by_cases e : k = i
    · subst e
      rw [hp] at h1; cases h1
      have hl : k < κ.length := by
        have := (List.getElem?_eq_some_iff.mp h2).1
        rw [List.length_set] at this; exact this
      rw [List.getElem?_set_self hl] at h2
      cases h2; exact hc
    · rw [List.getElem?_set_ne e] at h2
      have hq : q ≠ p := fun z => by subst z; exact e (g.inj k i q hp h1)
      exact (g.at' i q c h1 h2).up Ug.refl Or.inl fun o' eo => by rw [upd_ne hq]; exact eo
theorem G.cell (g : G K B ρ κ H) {cl : Cell} (h : κ[k]? = some cl) : ∃ p, ρ[k]? = some p ∧ CellOk K B ρ H p cl := by
  have hl : k < ρ.length := by rw [g.len]; exact (List.getElem?_eq_some_iff.mp h).1
  exact ⟨_, List.getElem?_eq_getElem hl, g.at' k _ cl (List.getElem?_eq_getElem hl) h⟩

theorem Reps.of_all {K : PySem.W.Frag} : ∀ {ds : List PyData} {vs : List V}, Reps K B ρ (ds.map .d) vs → DpAll K B vs ds
  | [], _, h => by cases h; exact .nil
  | d :: ds, _, h => by
    cases h with
    | cons h1 h2 => exact .cons h1 (Reps.of_all h2)
theorem Reps.all {K : PySem.W.Frag} : ∀ {ds : List PyData} {vs : List V}, DpAll K B vs ds → Reps K B ρ (ds.map .d) vs
  | [], _, h => by cases h; exact .nil
  | d :: ds, _, h => by
    cases h with
    | cons h1 h2 => exact .cons h1 (Reps.all h2)
theorem dpa_len {K : PySem.W.Frag} : ∀ {ds : List PyData} {vs : List V}, DpAll K B vs ds → vs.length = ds.length
  | [], _, h => by cases h; rfl
  | d :: ds, _, h => by
    cases h with
    | cons h1 h2 => rw [List.length_cons, List.length_cons, dpa_len h2]
theorem dpa_get {K : PySem.W.Frag} : ∀ {ds : List PyData} {vs : List V} {i : Nat} {d : PyData}, DpAll K B vs ds → ds[i]? = some d → ∃ v, vs[i]? = some v ∧ Dp K B v d
  | [], _, _, _, _, e => by simp at e
  | d :: ds, _, i, d', h, e => by
    cases h with
    | cons h1 h2 =>
      cases i with
      | zero => simp at e; subst e; exact ⟨_, rfl, h1⟩
      | succ i =>
        obtain ⟨v, e1, r⟩ := dpa_get h2 (by simpa using e)
        exact ⟨v, by simpa using e1, r⟩
theorem Reps.get {K : PySem.W.Frag} : ∀ {as : List AV} {vs : List V} {i : Nat} {a : AV}, Reps K B ρ as vs → as[i]? = some a → ∃ v, vs[i]? = some v ∧ Rep K B ρ a v
  | _, _, _, _, .nil, e => by simp at e
  | _, _, 0, _, .cons r _, e => by simp at e; subst e; exact ⟨_, rfl, r⟩
  | _, _, i + 1, x, .cons _ t, e => by
    obtain ⟨u, h1, h2⟩ := Reps.get (i := i) (a := x) t (by simpa using e)
    exact ⟨u, by simpa using h1, h2⟩
theorem Reps.snoc {K : PySem.W.Frag} {as : List AV} {vs : List V} (h : Reps K B ρ as vs) (r : Rep K B ρ a v) : Reps K B ρ (as ++ [a]) (vs ++ [v]) := Paired.snoc h r
theorem Reps.len {K : PySem.W.Frag} {as : List AV} {vs : List V} (h : Reps K B ρ as vs) : as.length = vs.length := Paired.length h
theorem Reps.set {K : PySem.W.Frag} : ∀ {as : List AV} {vs : List V} (i : Nat), Reps K B ρ as vs → Rep K B ρ a v → Reps K B ρ (as.set i a) (vs.set i v)
  | _, _, _, .nil, _ => .nil
  | _, _, 0, .cons _ t, r => .cons r t
  | _, _, i + 1, .cons q t, r => .cons q (Reps.set i t r)

/-! ### readings over data -/
/-- what is wanted behind -/
abbrev Nx (K : Frg) (B : Hp) (ρ : List Addr) (H : Hp) (R : AR) (Q : VK) : Prop := ∀ B' ρ' κ' H' a v, Up B ρ H B' ρ' H' → G K B' ρ' κ' H' → Rep K B' ρ' a v → R a κ' → Q v H'
theorem Nx.at0 {R : AR} {Q : VK} (q : Nx K B ρ H R Q) (g : G K B ρ κ H) (r : Rep K B ρ a v) (h : R a κ) : Q v H := q _ _ _ _ _ _ Up.refl g r h
theorem Nx.later {R : AR} {Q : VK} (q : Nx K B ρ H R Q) (u : Up B ρ H B' ρ' H') : Nx K B' ρ' H' R Q := fun _ _ _ _ _ _ u2 g r h => q _ _ _ _ _ _ (u.trans u2) g r h
def SE (K : Frg) (t : TE) (e : AE) : Prop := ∀ B ρ δ κ σ H (R : AR) (Q : VK), S K B ρ δ σ → G K B ρ κ H → e δ κ R → Nx K B ρ H R Q → t σ H Q
def ST (K : Frg) (t : TT) (e : AT) : Prop := ∀ B ρ δ κ σ H (R : Bool → AK → Prop) (Q : Bool → Hp → Prop), S K B ρ δ σ → G K B ρ κ H → e δ κ R →
  (∀ B' ρ' κ' H' b, Up B ρ H B' ρ' H' → G K B' ρ' κ' H' → R b κ' → Q b H') → t σ H Q
def SA (K : Frg) (t : TA) (e : AA) : Prop := ∀ B ρ δ κ σ H (R : List AV → AK → Prop) (Q : List V → Hp → Prop), S K B ρ δ σ → G K B ρ κ H → e δ κ R →
  (∀ B' ρ' κ' H' as vs, Up B ρ H B' ρ' H' → G K B' ρ' κ' H' → Reps K B' ρ' as vs → R as κ' → Q vs H') → t σ H Q
structure PEa (K : Frg) (X : Cx) (e : Expr) (t : TE) (f : AE) : Prop where
  pe : PE X e t
  sd : SE K t f
structure PTa (K : Frg) (X : Cx) (e : Expr) (t : TT) (f : AT) : Prop where
  pt : PT X e t
  sd : ST K t f
structure PWa (K : Frg) (X : Cx) (e : Expr) (t : TT) (f : AT) : Prop where
  pw : PW X e t
  sd : ST K t f
theorem PWa.pt {K : Frg} {X : Cx} {e : Expr} {t : TT} {f : AT} (h : PWa K X e t f) : PTa K X e t f := ⟨h.pw.pt, h.sd⟩
structure PAa (K : Frg) (X : Cx) (es : List Expr) (t : TA) (f : AA) : Prop where
  pa : PA X es t
  sd : SA K t f

/-! ### names, constants -/
def aVar (i : Nat) : AE := fun δ κ R => match δ[i]? with
  | some (some a) => R a κ
  | _ => False
def aC (a : AV) : AE := fun _ κ R => R a κ
theorem se_var {i : Nat} : SE K (tVar i) (aVar i) := fun B ρ δ κ σ H R Q s g h q => by
  unfold aVar at h
  split at h
  · rename_i a e
    obtain ⟨v, e1, r⟩ := s.at' i a e
    exact ⟨v, e1, q.at0 g r h⟩
  · exact h.elim
theorem se_c {v : V} {a : AV} (hr : ∀ B ρ, Rep K B ρ a v) : SE K (tC v) (aC a) := fun B ρ δ κ σ H R Q s g h q => q.at0 g (hr B ρ) h
section
variable {X : Cx} {e e2 : Expr} {t u : TE} {f f2 : AE} {pos : Pos}
theorem av (i : Nat) {x : Str} {pos : Pos} (hN : X.N[i]? = some x := by rfl) (hv : Vis X.env.scope x := by first | exact Or.inl rfl | exact Or.inr (Or.inl rfl) | exact Or.inr (Or.inr rfl)) (hd : (x == ("__debug__" : Str)) = false := by decide)
    (hcd : (x == ("__classdict__" : Str)) = false := by decide) : PEa K X (.Name x pos) (tVar i) (aVar i) := ⟨pv i hN hv hd hcd, se_var⟩
theorem ea_int {i : Int} {q : Pos} {j} : PEa K X (.Constant (.int i) j q) (tC (.int i)) (aC (.d (.int i))) := ⟨pe_int, se_c fun _ _ => .int i⟩
theorem ea_str {x : Str} {q : Pos} {j} : PEa K X (.Constant (.str x) j q) (tC (.str x)) (aC (.d (.str x))) := ⟨pe_str, se_c fun _ _ => .str x⟩
theorem ea_bl {x : Bool} {q : Pos} {j} : PEa K X (.Constant (.bool x) j q) (tC (.bl x)) (aC (.d (.bool x))) := ⟨pe_bl, se_c fun _ _ => .bl x⟩
theorem ea_non {q : Pos} {j} : PEa K X (.Constant .none j q) (tC .non) (aC (.d .none)) := ⟨pe_non, se_c fun _ _ => .non⟩
/-- a module's constant -/
theorem ea_glob {x : Str} {v : V} {u : Value} {d : PyData} {pos : Pos} (hg : Gl X x) (hm : X.mg x = some u) (r : RelV v u) (hd : ∀ B, Dp K B v d) (hdb : (x == ("__debug__" : Str)) = false := by decide) : PEa K X (.Name x pos) (tC v) (aC (.d d)) := ⟨pe_glob hg hm r hdb, se_c fun B _ => hd B⟩
/-- a built-in class as a value -/
theorem ea_ty {x : Str} {T : String} {pos : Pos} (hg : Gl X x) (hm : X.mg x = none) (hv : bootBuiltins x = some (.type T)) (hn : x ≠ "__name__" := by decide) (hdb : (x == ("__debug__" : Str)) = false := by decide) : PEa K X (.Name x pos) (tC (.ty T)) (aC (.r (.ty T))) := ⟨pe_bltn hg hm hv rfl hn hdb, se_c fun _ _ => rfl⟩
end
end Ab

namespace Ab
open PySem L2
variable {K : Frg} {B H : Hp} {ρ : List Addr} {κ : AK}
theorem G.plain (g : G K B ρ κ H) : G (Frg.of K.K) B ρ κ H := ⟨g.ex, g.len, g.inj, g.at', True.intro⟩
theorem G.zone (g : G (Frg.of K.K) B ρ κ H) (z : K.Z B ρ H) : G K B ρ κ H := ⟨g.ex, g.len, g.inj, g.at', z⟩
end Ab
set_option Elab.async false
set_option linter.all false
set_option maxRecDepth 100000
set_option maxHeartbeats 4000000
/-! Ab2: operators, comparisons, subscripts, built-in calls, methods -/
namespace Ab
open PySem L2
variable {K : Frg} {B B' B2 H H' H2 : Hp} {ρ ρ' ρ2 : List Addr} {κ κ' : AK} {δ : AD} {σ : L2.St} {p : Addr} {k : Nat} {v x y z : V} {a b c : AV}

abbrev AO := AV → AV → AK → AR → Prop
def SR (K : Frg) (r : R2) (f : AO) : Prop := ∀ B ρ κ H x y a b (R : AR) (Q : VK), G K B ρ κ H → Rep K B ρ a x → Rep K B ρ b y → f a b κ R → Nx K B ρ H R Q → r x y H Q
def SU (K : Frg) (r : V → Hp → VK → Prop) (f : AV → AK → AR → Prop) : Prop := ∀ B ρ κ H x a (R : AR) (Q : VK), G K B ρ κ H → Rep K B ρ a x → f a κ R → Nx K B ρ H R Q → r x H Q
def SL (K : Frg) (r : List V → Hp → VK → Prop) (f : List AV → AK → AR → Prop) : Prop := ∀ B ρ κ H xs as (R : AR) (Q : VK), G K B ρ κ H → Reps K B ρ as xs → f as κ R → Nx K B ρ H R Q → r xs H Q
def SM (K : Frg) (T : String) (r : V → List V → Hp → VK → Prop) (f : AV → List AV → AK → AR → Prop) : Prop := ∀ B ρ κ H x xs a as (R : AR) (Q : VK), G K B ρ κ H → Rep K B ρ a x → Reps K B ρ as xs → f a as κ R → Nx K B ρ H R Q → tyV K T x H ∧ r x xs H Q

def aOp (f : AO) (ea eb : AE) : AE := fun δ κ R => ea δ κ fun a κ1 => eb δ κ1 fun b κ2 => f a b κ2 R
def aUn (f : AV → AK → AR → Prop) (ea : AE) : AE := fun δ κ R => ea δ κ fun a κ1 => f a κ1 R
theorem se_op {r : R2} {f : AO} {ta tb : TE} {ea eb : AE} (hr : SR K r f) (ha : SE K ta ea) (hb : SE K tb eb) : SE K (tOp r ta tb) (aOp f ea eb) := fun B ρ δ κ σ H R Q s g h q =>
  ha B ρ δ κ σ H _ _ s g h fun B1 ρ1 κ1 H1 a x u1 g1 r1 h1 => hb B1 ρ1 δ κ1 σ H1 _ _ (s.up u1.g) g1 h1 fun B2 ρ2 κ2 H2 b y u2 g2 r2 h2 =>
    hr B2 ρ2 κ2 H2 x y a b R Q g2 (r1.up u2.g) r2 h2 fun B3 ρ3 κ3 H3 c z u3 g3 r3 h3 => q _ _ _ _ _ _ ((u1.trans u2).trans u3) g3 r3 h3
theorem se_un {r : V → Hp → VK → Prop} {f : AV → AK → AR → Prop} {ta : TE} {ea : AE} (hr : SU K r f) (ha : SE K ta ea) : SE K (tUn r ta) (aUn f ea) := fun B ρ δ κ σ H R Q s g h q =>
  ha B ρ δ κ σ H _ _ s g h fun B1 ρ1 κ1 H1 a x u1 g1 r1 h1 => hr B1 ρ1 κ1 H1 x a R Q g1 r1 h1 fun B3 ρ3 κ3 H3 c z u3 g3 r3 h3 => q _ _ _ _ _ _ (u1.trans u3) g3 r3 h3

theorem opr_or {X : Cx} {f : Value → Value → Sem Value} {r r' : R2} (h : OpR X f r) (h' : OpR X f r') : OpR X f (fun x y H Q => r x y H Q ∨ r' x y H Q) := fun pins s σ H x y v u Q I rx ry q => q.elim (h pins s σ H x y v u Q I rx ry) (h' pins s σ H x y v u Q I rx ry)
theorem callr_or {X : Cx} {f : Value} {r r' : List V → Hp → VK → Prop} (h : CallR X f r) (h' : CallR X f r') : CallR X f (fun xs H Q => r xs H Q ∨ r' xs H Q) := fun pins s σ H xs us Q I rx q => q.elim (h pins s σ H xs us Q I rx) (h' pins s σ H xs us Q I rx)

structure OpA (K : Frg) (X : Cx) (f : Value → Value → Sem Value) (r : R2) (g : AO) : Prop where
  op : OpR X f r
  sd : SR K r g
section
variable {X : Cx} {e e2 : Expr} {t u : TE} {f f2 : AE} {pos : Pos}
theorem ea_op {op : Operator} {r : R2} {g : AO} (ho : OpA K X (binaryOp op) r g) (h1 : PEa K X e t f) (h2 : PEa K X e2 u f2) : PEa K X (.BinOp e op e2 pos) (tOp r t u) (aOp g f f2) := ⟨pe_op ho.op h1.pe h2.pe, se_op ho.sd h1.sd h2.sd⟩
theorem ea_cmp {op : CmpOp} {r : R2} {g : AO} (ho : OpA K X (compareOp op) r g) (h1 : PEa K X e t f) (h2 : PEa K X e2 u f2) (hm : behindInMarks op e2 = false := by first | exact nomark _ | rfl) : PEa K X (.Compare e [op] [e2] pos) (tOp r t u) (aOp g f f2) := ⟨pe_cmpR ho.op h1.pe h2.pe hm, se_op ho.sd h1.sd h2.sd⟩
theorem ea_un {op : UnaryOp} {r : V → Hp → VK → Prop} {g : AV → AK → AR → Prop} (ho : UnR X (unaryOp op) r) (hs : SU K r g) (h1 : PEa K X e t f) : PEa K X (.UnaryOp op e pos) (tUn r t) (aUn g f) := ⟨pe_un ho h1.pe, se_un hs h1.sd⟩

/-! ### numbers, texts -/
def aAdd : AO := fun a b κ R => match a, b with
  | .d (.int i), .d (.int j) => R (.d (.int (i + j))) κ
  | .d (.str s), .d (.str t) => s.length + t.length ≤ sizeLine ∧ R (.d (.str (s ++ t))) κ
  | .d (.tuple xs), .d (.tuple ys) => xs.length + ys.length ≤ sizeLine ∧ R (.d (.tuple (xs ++ ys))) κ
  | _, _ => False
theorem rp_int {K : PySem.W.Frag} (i : Int) : Rep K B ρ (.d (.int i)) (.int i) := Dp.int i
theorem rp_str {K : PySem.W.Frag} (i : Str) : Rep K B ρ (.d (.str i)) (.str i) := Dp.str i
theorem rp_bl {K : PySem.W.Frag} (i : Bool) : Rep K B ρ (.d (.bool i)) (.bl i) := Dp.bl i
theorem rp_non {K : PySem.W.Frag} : Rep K B ρ (.d .none) .non := Dp.non
theorem Rep.int {K : PySem.W.Frag} {i : Int} (h : Rep K B ρ (.d (.int i)) v) : v = .int i := by cases h; rfl
theorem Rep.str {K : PySem.W.Frag} {i : Str} (h : Rep K B ρ (.d (.str i)) v) : v = .str i := by cases h; rfl
theorem Rep.bool {K : PySem.W.Frag} {i : Bool} (h : Rep K B ρ (.d (.bool i)) v) : v = .bl i := by cases h; rfl
theorem Rep.non {K : PySem.W.Frag} (h : Rep K B ρ (.d .none) v) : v = .non := by cases h; rfl
theorem Rep.list {K : PySem.W.Frag} {ds : List PyData} (h : Rep K B ρ (.d (.list ds)) v) : ∃ p xs, v = .ref p ∧ SqL K B p xs ∧ DpAll K B xs ds := by
  cases h with
  | lst hs ha => exact ⟨_, _, rfl, hs, ha⟩
theorem Rep.tuple {K : PySem.W.Frag} {ds : List PyData} (h : Rep K B ρ (.d (.tuple ds)) v) : ∃ p xs, v = .ref p ∧ SqT K B p xs ∧ DpAll K B xs ds := by
  cases h with
  | tup hs ha => exact ⟨_, _, rfl, hs, ha⟩
theorem sqt_up {K : PySem.W.Frag} (s : Same B B') {xs : List V} (h : SqT K B p xs) : SqT K B' p xs := by
  rcases h with (h | ⟨o, h⟩) | h
  · exact .inl (.inl (s _ _ h))
  · exact .inl (.inr ⟨o, s _ _ h⟩)
  · exact .inr h
theorem dpa_app {K : PySem.W.Frag} : ∀ {ds es : List PyData} {vs us : List V}, DpAll K B vs ds → DpAll K B us es → DpAll K B (vs ++ us) (ds ++ es)
  | [], _, _, _, h, h2 => by cases h; exact h2
  | d :: ds, _, _, _, h, h2 => by
    cases h with
    | cons a b => exact .cons a (dpa_app b h2)
theorem of_listG (g : G K B ρ κ H) {ds : List PyData} (h : Rep K B ρ (.d (.list ds)) v) : ∃ p xs, v = .ref p ∧ SqL K H p xs ∧ DpAll K B xs ds := by
  obtain ⟨p, xs, e, h1, h2⟩ := h.list; exact ⟨p, xs, e, g.ex.seq h1, h2⟩
theorem of_tupG (g : G K B ρ κ H) {ds : List PyData} (h : Rep K B ρ (.d (.tuple ds)) v) : ∃ p xs, v = .ref p ∧ SqT K H p xs ∧ DpAll K B xs ds := by
  obtain ⟨p, xs, e, h1, h2⟩ := h.tuple; exact ⟨p, xs, e, sqt_up g.ex h1, h2⟩
theorem new_tup (g : G K B ρ κ H) (n : H p = none) {ds : List PyData} {vs : List V} (h : DpAll K B vs ds) : Up B ρ H (upd B p (.tup vs)) ρ (upd H p (.tup vs)) ∧ G K (upd B p (.tup vs)) ρ κ (upd H p (.tup vs)) ∧ Rep K (upd B p (.tup vs)) ρ (.d (.tuple ds)) (.ref p) := by
  obtain ⟨u, g'⟩ := g.data n (o := .tup vs)
  exact ⟨u, g', .tup (.inl (.inl upd_same)) (dpa_up u.s _ _ h)⟩
theorem new_lst (g : G K B ρ κ H) (n : H p = none) {ds : List PyData} {vs : List V} (h : DpAll K B vs ds) : Up B ρ H (upd B p (.lst vs)) ρ (upd H p (.lst vs)) ∧ G K (upd B p (.lst vs)) ρ κ (upd H p (.lst vs)) ∧ Rep K (upd B p (.lst vs)) ρ (.d (.list ds)) (.ref p) := by
  obtain ⟨u, g'⟩ := g.data n (o := .lst vs)
  exact ⟨u, g', .lst (.inl (.inl upd_same)) (dpa_up u.s _ _ h)⟩
/-- a new list of data as a cell -/
theorem new_ld (g : G K B ρ κ H) (n : H p = none) {as : List PyData} {vs : List V} (h : DpAll K B vs as) : Up B ρ H B (ρ ++ [p]) (upd H p (.lst vs)) ∧ G K B (ρ ++ [p]) (κ ++ [.ld as]) (upd H p (.lst vs)) ∧ Rep K B (ρ ++ [p]) (.c κ.length) (.ref p) :=
  ⟨g.allocUp n, g.alloc n (show CellOk K B ρ _ p (.ld as) from ⟨g.fresh n, vs, h, upd_same⟩), rep_new g⟩
/-- a new list as a cell -/
theorem new_cell (g : G K B ρ κ H) (n : H p = none) {as : List AV} {vs : List V} (h : Reps K B ρ as vs) : Up B ρ H B (ρ ++ [p]) (upd H p (.lst vs)) ∧ G K B (ρ ++ [p]) (κ ++ [.lst as]) (upd H p (.lst vs)) ∧ Rep K B (ρ ++ [p]) (.c κ.length) (.ref p) :=
  ⟨g.allocUp n, g.alloc n ⟨g.fresh n, vs, h, upd_same⟩, rep_new g⟩
theorem new_tcell (g : G K B ρ κ H) (n : H p = none) {as : List AV} {vs : List V} (h : Reps K B ρ as vs) : Up B ρ H B (ρ ++ [p]) (upd H p (.tup vs)) ∧ G K B (ρ ++ [p]) (κ ++ [.tup as]) (upd H p (.tup vs)) ∧ Rep K B (ρ ++ [p]) (.c κ.length) (.ref p) :=
  ⟨g.allocUp n, g.alloc n ⟨vs, h, upd_same⟩, rep_new g⟩
theorem ne_nil_of {K : PySem.W.Frag} {ds : List PyData} {vs : List V} (h : DpAll K B vs ds) (n : ds ≠ []) : vs ≠ [] := fun e => by
  subst e
  have := dpa_len h
  cases ds with
  | nil => exact n rfl
  | cons _ _ => simp at this


def rAddA (K : PySem.W.Frag) : R2 := fun x y H Q => rI0 (fun i j => .int (i + j)) x y H Q ∨ ((fun x y H Q => ∃ i j, x = .str i ∧ y = .str j ∧ i.length + j.length ≤ sizeLine ∧ Q (.str (i ++ j)) H) : R2) x y H Q ∨ rCatA K x y H Q
theorem oa_add (hK : X.K = K := by rfl) : OpA K X (binaryOp .Add) (rAddA K) aAdd := by
  obtain ⟨K, Kn, KZ, Ku⟩ := K
  change X.K = K at hK
  subst hK
  refine ⟨opr_or op_add (opr_or op_add_str op_catA), ?_⟩
  intro B ρ κ H x y a b R Q g rx ry h q
  unfold aAdd at h
  split at h
  · rename_i i j
    exact .inl ⟨i, j, rx.int, ry.int, q.at0 g (rp_int _) h⟩
  · rename_i s t
    exact .inr (.inl ⟨s, t, rx.str, ry.str, h.1, q.at0 g (rp_str _) h.2⟩)
  · rename_i xs ys
    obtain ⟨p, vs, rfl, s1, d1⟩ := of_tupG g rx
    obtain ⟨p', vs', rfl, s2, d2⟩ := of_tupG g ry
    have e1 := dpa_len d1
    have e2 := dpa_len d2
    obtain ⟨h1, h2⟩ : xs.length + ys.length ≤ sizeLine ∧ R (.d (.tuple (xs ++ ys))) κ := h
    refine .inr (.inr ⟨_, _, vs, vs', rfl, rfl, s1, s2, by omega, fun z => ?_, fun _ z => ?_, fun _ _ p hp => ?_⟩)
    · subst z
      cases xs with
      | nil => exact q.at0 g ry h2
      | cons _ _ => simp at e1
    · subst z
      cases ys with
      | nil => rw [List.append_nil] at h2; exact q.at0 g rx h2
      | cons _ _ => simp at e2
    · obtain ⟨u, g', r⟩ := new_tup g hp (dpa_app d1 d2)
      exact q _ _ _ _ _ _ u g' r h2
  · exact h.elim
/-- numbers in, a number out -/
def aI (C : Int → Int → Prop) (f : Int → Int → Int) : AO := fun a b κ R => match a, b with
  | .d (.int i), .d (.int j) => C i j ∧ R (.d (.int (f i j))) κ
  | _, _ => False
def aI0 (f : Int → Int → Int) : AO := fun a b κ R => match a, b with
  | .d (.int i), .d (.int j) => R (.d (.int (f i j))) κ
  | _, _ => False
theorem sr_I {C : Int → Int → Prop} {f : Int → Int → Int} : SR K (rI C fun i j => .int (f i j)) (aI C f) := by
  intro B ρ κ H x y a b R Q g rx ry h q
  unfold aI at h
  split at h
  · exact ⟨_, _, rx.int, ry.int, h.1, q.at0 g (rp_int _) h.2⟩
  · exact h.elim
theorem sr_I0 {f : Int → Int → Int} : SR K (rI0 fun i j => .int (f i j)) (aI0 f) := by
  intro B ρ κ H x y a b R Q g rx ry h q
  unfold aI0 at h
  split at h
  · exact ⟨_, _, rx.int, ry.int, q.at0 g (rp_int _) h⟩
  · exact h.elim
abbrev aSub : AO := aI0 fun i j => i - j
abbrev aMul : AO := aI CMul fun i j => i * j
abbrev aMod : AO := aI (fun _ j => 0 < j) fun i j => i % j
abbrev aDiv : AO := aI CDiv fun i j => i / j
abbrev aPow : AO := aI CPow fun i j => i ^ j.toNat
theorem oa_sub : OpA K X (binaryOp .Sub) (rI0 fun i j => .int (i - j)) aSub := ⟨op_sub, sr_I0⟩
theorem oa_mul : OpA K X (binaryOp .Mult) (rI CMul fun i j => .int (i * j)) aMul := ⟨op_mul, sr_I⟩
theorem oa_mod : OpA K X (binaryOp .Mod) (rI (fun _ j => 0 < j) fun i j => .int (i % j)) aMod := ⟨op_mod, sr_I⟩
theorem oa_div : OpA K X (binaryOp .FloorDiv) (rI CDiv fun i j => .int (i / j)) aDiv := ⟨op_fdiv, sr_I⟩
theorem oa_pow : OpA K X (binaryOp .Pow) (rI CPow fun i j => .int (i ^ j.toNat)) aPow := ⟨op_pow, sr_I⟩
def aCmpI (f : Int → Int → Bool) : AO := fun a b κ R => match a, b with
  | .d (.int i), .d (.int j) => R (.d (.bool (f i j))) κ
  | _, _ => False
theorem sr_cmpI {f : Int → Int → Bool} : SR K (rI0 fun i j => .bl (f i j)) (aCmpI f) := by
  intro B ρ κ H x y a b R Q g rx ry h q
  unfold aCmpI at h
  split at h
  · exact ⟨_, _, rx.int, ry.int, q.at0 g (rp_bl _) h⟩
  · exact h.elim
abbrev aLt : AO := aCmpI fun i j => decide (i < j)
abbrev aLe : AO := aCmpI fun i j => decide (i ≤ j)
abbrev aGt : AO := aCmpI fun i j => decide (j < i)
abbrev aGe : AO := aCmpI fun i j => decide (j ≤ i)
theorem oa_lt : OpA K X (compareOp .Lt) (rI0 fun i j => .bl (decide (i < j))) aLt := ⟨op_lt, sr_cmpI⟩
theorem oa_le : OpA K X (compareOp .LtE) (rI0 fun i j => .bl (decide (i ≤ j))) aLe := ⟨op_le, sr_cmpI⟩
theorem oa_gt : OpA K X (compareOp .Gt) (rI0 fun i j => .bl (decide (j < i))) aGt := ⟨op_gt, sr_cmpI⟩
theorem oa_ge : OpA K X (compareOp .GtE) (rI0 fun i j => .bl (decide (j ≤ i))) aGe := ⟨op_ge, sr_cmpI⟩

/-! ### == -/
def aEqB (n : Bool → Bool) : AO := fun a b κ R => match a, b with
  | .d (.int i), .d (.int j) => R (.d (.bool (n (decide (i = j))))) κ
  | .d (.str i), .d (.str j) => R (.d (.bool (n (decide (i = j))))) κ
  | .d (.bool i), .d (.bool j) => R (.d (.bool (n (decide (i = j))))) κ
  | .d x, .d y => SeqAt.shaped x = true ∧ SeqAt.shaped y = true ∧ R (.d (.bool (n (PyData.eqv x y)))) κ
  | _, _ => False
abbrev aEq : AO := aEqB id
abbrev aNe : AO := aEqB not
theorem dec_inj {α β : Type} [DecidableEq α] [DecidableEq β] (f : α → β) (hf : ∀ a b, f a = f b → a = b) (a b : α) : decide (f a = f b) = decide (a = b) := by
  by_cases h : a = b
  · subst h; simp
  · rw [decide_eq_false h, decide_eq_false (fun z => h (hf _ _ z))]
theorem dp_G (g : G K B ρ κ H) {d : PyData} (h : Rep K B ρ (.d d) v) : Dp K H v d := dp_up g.ex d v h
def rEqA (K : PySem.W.Frag) : R2 := fun x y H Q => rEq x y H Q ∨ rEqD K x y H Q
def rNeA (K : PySem.W.Frag) : R2 := fun x y H Q => rNe x y H Q ∨ rNeD K x y H Q
theorem oa_eq {l : Nat} (hr : Room l X.A) (hK : X.K = K := by rfl) : OpA K X (compareOp .Eq) (rEqA K) aEq := by
  obtain ⟨K, Kn, KZ, Ku⟩ := K
  change X.K = K at hK
  subst hK
  refine ⟨opr_or op_eq (op_eqD hr.units), ?_⟩
  intro B ρ κ H x y a b R Q g rx ry h q
  have h : aEqB _ a b κ R := h
  unfold aEqB at h
  split at h
  · cases rx.int; cases ry.int
    refine .inl ⟨rfl, ?_⟩
    rw [dec_inj V.int fun _ _ e => V.int.inj e]
    exact q.at0 g (rp_bl _) h
  · cases rx.str; cases ry.str
    refine .inl ⟨rfl, ?_⟩
    rw [dec_inj V.str fun _ _ e => V.str.inj e]
    exact q.at0 g (rp_bl _) h
  · cases rx.bool; cases ry.bool
    refine .inl ⟨rfl, ?_⟩
    rw [dec_inj V.bl fun _ _ e => V.bl.inj e]
    exact q.at0 g (rp_bl _) h
  · exact .inr ⟨_, _, dp_G g rx, dp_G g ry, h.1, h.2.1, q.at0 g (rp_bl _) h.2.2⟩
  · exact h.elim
theorem oa_ne {l : Nat} (hr : Room l X.A) (hK : X.K = K := by rfl) : OpA K X (compareOp .NotEq) (rNeA K) aNe := by
  obtain ⟨K, Kn, KZ, Ku⟩ := K
  change X.K = K at hK
  subst hK
  refine ⟨opr_or op_ne (op_neD hr.units), ?_⟩
  intro B ρ κ H x y a b R Q g rx ry h q
  have h : aEqB _ a b κ R := h
  unfold aEqB at h
  split at h
  · cases rx.int; cases ry.int
    refine .inl ⟨rfl, ?_⟩
    rw [dec_inj V.int fun _ _ e => V.int.inj e]
    exact q.at0 g (rp_bl _) h
  · cases rx.str; cases ry.str
    refine .inl ⟨rfl, ?_⟩
    rw [dec_inj V.str fun _ _ e => V.str.inj e]
    exact q.at0 g (rp_bl _) h
  · cases rx.bool; cases ry.bool
    refine .inl ⟨rfl, ?_⟩
    rw [dec_inj V.bl fun _ _ e => V.bl.inj e]
    exact q.at0 g (rp_bl _) h
  · exact .inr ⟨_, _, dp_G g rx, dp_G g ry, h.1, h.2.1, q.at0 g (rp_bl _) h.2.2⟩
  · exact h.elim
/-- is None, is not None -/
def aIsN (n : Bool → Bool) : AO := fun a b κ R => match a, b with
  | .d .none, .d .none => R (.d (.bool (n true))) κ
  | .d _, .d .none => R (.d (.bool (n false))) κ
  | .c _, .d .none => R (.d (.bool (n false))) κ
  | _, _ => False
theorem sr_isN {n : Bool → Bool} : SR K (fun x y H Q => y = .non ∧ Q (.bl (n (decide (x = .non)))) H) (aIsN n) := by
  intro B ρ κ H x y a b R Q g rx ry h q
  unfold aIsN at h
  split at h
  · cases rx.non
    exact ⟨ry.non, q.at0 g (rp_bl _) h⟩
  · rename_i d hd
    refine ⟨ry.non, ?_⟩
    have e : x ≠ .non := by
      intro e; subst e
      have rx' : Dp K B .non d := rx
      cases rx' with
      | non => exact hd rfl
    rw [decide_eq_false e]
    exact q.at0 g (rp_bl _) h
  · obtain ⟨p, _, rfl⟩ := rx
    exact ⟨ry.non, q.at0 g (rp_bl _) h⟩
  · exact h.elim
theorem oa_is : OpA K X (compareOp .Is) (fun x y H Q => y = .non ∧ Q (.bl (decide (x = .non))) H) (aIsN id) := ⟨op_isN, sr_isN (n := id)⟩
theorem oa_isnot : OpA K X (compareOp .IsNot) (fun x y H Q => y = .non ∧ Q (.bl (!decide (x = .non))) H) (aIsN not) := ⟨op_notN, sr_isN (n := not)⟩

/-! ### in -/
def flatD : PyData → Bool
  | .none => true | .bool _ => true | .int _ => true | .str _ => true | _ => false
def eqF : PyData → PyData → Bool
  | .none, .none => true
  | .bool a, .bool b => a == b
  | .bool a, .int b => (if a then 1 else 0) == b
  | .int a, .bool b => a == (if b then 1 else 0)
  | .int a, .int b => a == b
  | .str a, .str b => a == b
  | _, _ => false
def inD (x : PyData) (xs : List PyData) : Bool := xs.any fun y => eqF y x
theorem dp_flat {d : PyData} (h : Dp K B v d) (f : flatD d = true) : flatV v = true ∧ ∀ {w : V} {e : PyData}, Dp K B w e → flatD e = true → eqV v w = eqF d e := by
  cases h <;> first
    | exact ⟨rfl, fun hw hf => by cases hw <;> first | rfl | exact absurd (show false = true from hf) Bool.false_ne_true⟩
    | exact absurd (show false = true from f) Bool.false_ne_true
theorem dpa_flat : ∀ {ds : List PyData} {vs : List V}, DpAll K B vs ds → ds.all flatD = true → vs.all flatV = true
  | [], _, h, _ => by cases h; rfl
  | d :: ds, _, h, f => by
    cases h with
    | cons h1 h2 =>
      rw [List.all_cons, Bool.and_eq_true] at f ⊢
      exact ⟨(dp_flat h1 f.1).1, dpa_flat h2 f.2⟩
theorem inV_D {d : PyData} (h : Dp K B v d) (f : flatD d = true) : ∀ {ds : List PyData} {vs : List V}, DpAll K B vs ds → ds.all flatD = true → inV v vs = inD d ds
  | [], _, h2, _ => by cases h2; rfl
  | e :: ds, _, h2, f2 => by
    cases h2 with
    | cons h1 h3 =>
      rw [List.all_cons, Bool.and_eq_true] at f2
      show (eqV _ v || inV v _) = (eqF e d || inD d ds)
      rw [inV_D h f h3 f2.2, (dp_flat h1 f2.1).2 h f]
/-- one sign in a text; a flat thing in a list or tuple of flat things -/
def aIn (n : Bool → Bool) : AO := fun a b κ R => match a, b with
  | .d (.str s), .d (.str t) => ∃ c, s.cps.toList = [c] ∧ R (.d (.bool (n (decide (c ∈ t.cps.toList))))) κ
  | .d x, .d (.tuple ys) => flatD x = true ∧ ys.all flatD = true ∧ R (.d (.bool (n (inD x ys)))) κ
  | .d x, .d (.list ys) => flatD x = true ∧ ys.all flatD = true ∧ R (.d (.bool (n (inD x ys)))) κ
  | .d x, .c k => match κ[k]? with
    | some (.ld ys) => flatD x = true ∧ ys.all flatD = true ∧ R (.d (.bool (n (inD x ys)))) κ
    | _ => False
  | _, _ => False
def rInA (K : PySem.W.Frag) (b : Bool) : R2 := fun x y H Q => ((fun x y H Q => ∃ (c : Nat) (z : Str), x = .str ⟨#[c]⟩ ∧ y = .str z ∧ Q (.bl (if b then !decide (c ∈ z.cps.toList) else decide (c ∈ z.cps.toList))) H) : R2) x y H Q ∨ rIn K b x y H Q
theorem str_one {s : Str} {c : Nat} (h : s.cps.toList = [c]) : s = ⟨#[c]⟩ := by
  obtain ⟨a⟩ := s
  congr 1
  exact Array.toList_inj.mp h
theorem sr_in {nb : Bool} {n : Bool → Bool} (hn : ∀ b, (if nb then !b else b) = n b) : SR K (rInA K nb) (aIn n) := by
  intro B ρ κ H x y a b R Q g rx ry h q
  unfold aIn at h
  split at h
  · rename_i s t
    obtain ⟨c, e, h⟩ := h
    cases rx.str; cases ry.str
    refine .inl ⟨c, t, by rw [str_one e], rfl, ?_⟩
    rw [hn]
    exact q.at0 g (rp_bl _) h
  · rename_i d ys
    obtain ⟨p, vs, rfl, s1, d1⟩ := of_tupG g ry
    obtain ⟨f1, f2, h⟩ := h
    refine .inr ⟨p, vs, rfl, .inr s1, (dp_flat rx f1).1, dpa_flat d1 f2, ?_⟩
    rw [hn, inV_D rx f1 d1 f2]
    exact q.at0 g (rp_bl _) h
  · rename_i d ys
    obtain ⟨p, vs, rfl, s1, d1⟩ := of_listG g ry
    obtain ⟨f1, f2, h⟩ := h
    refine .inr ⟨p, vs, rfl, .inl s1, (dp_flat rx f1).1, dpa_flat d1 f2, ?_⟩
    rw [hn, inV_D rx f1 d1 f2]
    exact q.at0 g (rp_bl _) h
  · rename_i d k
    obtain ⟨p, hp, rfl⟩ := ry
    split at h
    · rename_i ys ek
      obtain ⟨f1, f2, h⟩ := h
      obtain ⟨p', hp', _, vs, d1, eH⟩ := g.cell ek
      rw [hp] at hp'; cases hp'
      refine .inr ⟨p, vs, rfl, .inl (.inl (.inl eH)), (dp_flat rx f1).1, dpa_flat d1 f2, ?_⟩
      rw [hn, inV_D rx f1 d1 f2]
      exact q.at0 g (rp_bl _) h
    · exact h.elim
  · exact h.elim
theorem oa_in (hK : X.K = K := by rfl) : OpA K X (compareOp .In) (rInA K false) (aIn id) := by
  obtain ⟨K, Kn, KZ, Ku⟩ := K
  change X.K = K at hK
  subst hK
  exact ⟨opr_or (by intro pins s σ H x y v u Q I rx ry h; exact op_in_sign pins s σ H x y v u Q I rx ry h) op_in_seq, sr_in fun b => by cases b <;> rfl⟩
theorem oa_notin (hK : X.K = K := by rfl) : OpA K X (compareOp .NotIn) (rInA K true) (aIn not) := by
  obtain ⟨K, Kn, KZ, Ku⟩ := K
  change X.K = K at hK
  subst hK
  exact ⟨opr_or (by intro pins s σ H x y v u Q I rx ry h; exact op_notIn_sign pins s σ H x y v u Q I rx ry h) op_notIn_seq, sr_in fun b => by cases b <;> rfl⟩
end
end Ab
set_option Elab.async false
set_option linter.all false
set_option maxRecDepth 100000
set_option maxHeartbeats 4000000
/-! Ab3: subscripts, slices, built-in calls, methods, displays, and, or, not, tests -/
namespace Ab
open PySem L2
variable {K : Frg} {B B' B2 H H' H2 : Hp} {ρ ρ' ρ2 : List Addr} {κ κ' : AK} {δ : AD} {σ : L2.St} {p : Addr} {k : Nat} {v x y z : V} {a b c : AV}
variable {X : Cx} {e e2 : Expr} {t u : TE} {f f2 : AE} {pos : Pos}

/-! ### a[i] -/
def aIx : AO := fun a b κ R => match a, b with
  | .d (.list xs), .d (.int i) => ∃ w, atI xs i = some w ∧ R (.d w) κ
  | .d (.tuple xs), .d (.int i) => ∃ w, atI xs i = some w ∧ R (.d w) κ
  | .d (.str s), .d (.int i) => ∃ c, s.length ≤ sizeLine ∧ atI s.cps.toList i = some c ∧ R (.d (.str ⟨#[c]⟩)) κ
  | .c k, .d (.int i) => match κ[k]? with
    | some (.ld xs) => ∃ w, atI xs i = some w ∧ R (.d w) κ
    | some (.lst xs) => ∃ w, atI xs i = some w ∧ R w κ
    | some (.tup xs) => ∃ w, atI xs i = some w ∧ R w κ
    | _ => False
  | _, _ => False
theorem atI_iff {α : Type} {xs : List α} {i : Int} {w : α} (h : atI xs i = some w) : ∃ j, ixN xs.length i = some j ∧ xs[j]? = some w := by
  unfold atI at h
  cases e : ixN xs.length i with
  | none => rw [e] at h; cases h
  | some j => rw [e] at h; exact ⟨j, rfl, h⟩
theorem atI_mk {α : Type} {xs : List α} {i : Int} {j : Nat} {w : α} (h : ixN xs.length i = some j) (h2 : xs[j]? = some w) : atI xs i = some w := by
  unfold atI; rw [h]; exact h2
theorem dpa_at {ds : List PyData} {vs : List V} {i : Int} {w : PyData} (h : DpAll K B vs ds) (e : atI ds i = some w) : ∃ v, atI vs i = some v ∧ Dp K B v w := by
  obtain ⟨j, h1, h2⟩ := atI_iff e
  obtain ⟨v, h3, h4⟩ := dpa_get h h2
  exact ⟨v, atI_mk (by rw [dpa_len h]; exact h1) h3, h4⟩
theorem reps_at {as : List AV} {vs : List V} {i : Int} {w : AV} (h : Reps K B ρ as vs) (e : atI as i = some w) : ∃ v, atI vs i = some v ∧ Rep K B ρ w v := by
  obtain ⟨j, h1, h2⟩ := atI_iff e
  obtain ⟨v, h3, h4⟩ := h.get h2
  exact ⟨v, atI_mk (by rw [← h.len]; exact h1) h3, h4⟩
theorem sr_ix : SR K (rIx K) aIx := by
  intro B ρ κ H x y a b R Q g rx ry h q
  unfold aIx at h
  split at h
  · obtain ⟨w, e, h⟩ := h
    obtain ⟨p, vs, rfl, s1, d1⟩ := of_listG g rx
    obtain ⟨v, e1, r1⟩ := dpa_at d1 e
    cases ry.int
    exact .inl ⟨p, vs, _, v, rfl, rfl, s1, e1, q.at0 (a := .d w) g r1 h⟩
  · obtain ⟨w, e, h⟩ := h
    obtain ⟨p, vs, rfl, s1, d1⟩ := of_tupG g rx
    obtain ⟨v, e1, r1⟩ := dpa_at d1 e
    cases ry.int
    exact .inr (.inl ⟨p, vs, _, v, rfl, rfl, s1, e1, q.at0 (a := .d w) g r1 h⟩)
  · obtain ⟨c, l, e, h⟩ := h
    cases rx.str; cases ry.int
    exact .inr (.inr ⟨_, _, c, rfl, rfl, l, e, q.at0 g (rp_str _) h⟩)
  · rename_i k i
    cases ry.int
    obtain ⟨p, hp, rfl⟩ := rx
    split at h
    · rename_i xs ek
      obtain ⟨w, e, h⟩ := h
      obtain ⟨p', hp', _, vs, r, eH⟩ := g.cell ek
      rw [hp] at hp'; cases hp'
      obtain ⟨v, e1, r1⟩ := dpa_at r e
      exact .inl ⟨p, vs, _, v, rfl, rfl, .inl (.inl eH), e1, q.at0 (a := .d w) g r1 h⟩
    · rename_i xs ek
      obtain ⟨w, e, h⟩ := h
      obtain ⟨p', hp', _, vs, r, eH⟩ := g.cell ek
      rw [hp] at hp'; cases hp'
      obtain ⟨v, e1, r1⟩ := reps_at r e
      exact .inl ⟨p, vs, _, v, rfl, rfl, .inl (.inl eH), e1, q.at0 g r1 h⟩
    · rename_i xs ek
      obtain ⟨w, e, h⟩ := h
      obtain ⟨p', hp', vs, r, eH⟩ := g.cell ek
      rw [hp] at hp'; cases hp'
      obtain ⟨v, e1, r1⟩ := reps_at r e
      exact .inr (.inl ⟨p, vs, _, v, rfl, rfl, .inl (.inl eH), e1, q.at0 g r1 h⟩)
    · exact h.elim
  · exact h.elim
theorem ea_ix (h1 : PEa K X e t f) (h2 : PEa K X e2 u f2) (hs : PlainIx e2 := by exact fun _ _ => rfl) (hK : X.K = K := by rfl) : PEa K X (.Subscript e e2 pos) (tOp (rIx K) t u) (aOp aIx f f2) := by
  obtain ⟨K, Kn, KZ, Ku⟩ := K
  change X.K = K at hK
  subst hK
  exact ⟨pe_ix ix_seq h1.pe h2.pe hs, se_op sr_ix h1.sd h2.sd⟩

/-! ### slices -/
abbrev AOp := AD → AK → (Option Int → AK → Prop) → Prop
def aNoPart : AOp := fun _ κ R => R none κ
def aPart (f : AE) : AOp := fun δ κ R => f δ κ fun a κ1 => match a with
  | .d (.int i) => R (some i) κ1
  | _ => False
def SO (K : Frg) (t : TO) (e : AOp) : Prop := ∀ B ρ δ κ σ H (R : Option Int → AK → Prop) (Q : Option Int → Hp → Prop), S K B ρ δ σ → G K B ρ κ H → e δ κ R →
  (∀ B' ρ' κ' H' o, Up B ρ H B' ρ' H' → G K B' ρ' κ' H' → R o κ' → Q o H') → t σ H Q
structure POa (K : Frg) (X : Cx) (e : Option Expr) (t : TO) (f : AOp) : Prop where
  po : PO X e t
  sd : SO K t f
theorem oa_none : POa K X none tNoPart aNoPart := ⟨po_none, fun B ρ δ κ σ H R Q s g h q => q _ _ _ _ _ Up.refl g h⟩
theorem oa_some (h : PEa K X e t f) : POa K X (some e) (tPart t) (aPart f) := ⟨po_some h.pe, fun B ρ δ κ σ H R Q s g hh q =>
  h.sd B ρ δ κ σ H _ _ s g hh fun B1 ρ1 κ1 H1 a x u1 g1 r1 h1 => by
    split at h1
    · exact ⟨_, r1.int, q _ _ _ _ _ u1 g1 h1⟩
    · exact h1.elim⟩
def cutD {α : Type} (xs : List α) (lo hi : Option Int) : List α := (xs.drop (HT.sIx xs.length 0 lo)).take (HT.sIx xs.length xs.length hi - HT.sIx xs.length 0 lo)
def aSl (f : AE) (l h : AOp) : AE := fun δ κ R => f δ κ fun a κ1 => l δ κ1 fun lo κ2 => h δ κ2 fun hi κ3 => match a with
  | .d (.str s) => s.length ≤ sizeLine ∧ R (.d (.str (cutS s lo hi))) κ3
  | .d (.list xs) => R (.d (.list (cutD xs lo hi))) κ3
  | .c k => match κ3[k]? with
    | some (.ld xs) => R (.c κ3.length) (κ3 ++ [.ld (cutD xs lo hi)])
    | some (.lst xs) => R (.c κ3.length) (κ3 ++ [.lst (cutD xs lo hi)])
    | _ => False
  | _ => False
def rSlG (K : PySem.W.Frag) : V → Option Int → Option Int → Hp → VK → Prop := fun x lo hi H Q => rSlS x lo hi H Q ∨ rSlL K x lo hi H Q
theorem sl_or {r r' : V → Option Int → Option Int → Hp → VK → Prop} (h : SlR X r) (h' : SlR X r') : SlR X (fun x lo hi H Q => r x lo hi H Q ∨ r' x lo hi H Q) := by
  intro pins s σ H x v vl vu lo hi sl Q I rx hs pl pu q
  rcases q with q | q
  · exact h pins s σ H x v vl vu lo hi sl Q I rx hs pl pu q
  · exact h' pins s σ H x v vl vu lo hi sl Q I rx hs pl pu q
theorem dpa_take : ∀ {ds : List PyData} {vs : List V} (n : Nat), DpAll K B vs ds → DpAll K B (vs.take n) (ds.take n)
  | [], _, n, h => by cases h; simp; exact .nil
  | d :: ds, _, n, h => by
    cases h with
    | cons h1 h2 =>
      cases n with
      | zero => exact .nil
      | succ n => exact .cons h1 (dpa_take n h2)
theorem dpa_drop : ∀ {ds : List PyData} {vs : List V} (n : Nat), DpAll K B vs ds → DpAll K B (vs.drop n) (ds.drop n)
  | [], _, n, h => by cases h; simp; exact .nil
  | d :: ds, _, n, h => by
    cases h with
    | cons h1 h2 =>
      cases n with
      | zero => exact .cons h1 h2
      | succ n => exact dpa_drop n h2
theorem Reps.take : ∀ {ds : List AV} {vs : List V} (n : Nat), Reps K B ρ ds vs → Reps K B ρ (ds.take n) (vs.take n)
  | _, _, 0, _ => .nil
  | _, _, _ + 1, .nil => .nil
  | _, _, n + 1, .cons r t => .cons r (Reps.take n t)
theorem Reps.drop : ∀ {ds : List AV} {vs : List V} (n : Nat), Reps K B ρ ds vs → Reps K B ρ (ds.drop n) (vs.drop n)
  | _, _, 0, r => r
  | _, _, _ + 1, .nil => .nil
  | _, _, n + 1, .cons _ t => Reps.drop n t
theorem dpa_cut {ds : List PyData} {vs : List V} (h : DpAll K B vs ds) (lo hi : Option Int) : DpAll K B (cutV vs lo hi) (cutD ds lo hi) := by
  unfold cutV cutD
  rw [dpa_len h]
  exact dpa_take _ (dpa_drop _ h)
theorem Reps.cut {ds : List AV} {vs : List V} (h : Reps K B ρ ds vs) (lo hi : Option Int) : Reps K B ρ (cutD ds lo hi) (cutV vs lo hi) := by
  unfold cutV cutD
  rw [← h.len]
  exact Reps.take _ (Reps.drop _ h)
theorem ea_slice {lo hi : Option Expr} {p2 : Pos} {tl th : TO} {fl fh : AOp} (h1 : PEa K X e t f) (hl : POa K X lo tl fl) (hh : POa K X hi th fh) (hK : X.K = K := by rfl) :
    PEa K X (.Subscript e (.Slice lo hi none p2) pos) (tSl (rSlG K) t tl th) (aSl f fl fh) := by
  obtain ⟨K, Kn, KZ, Ku⟩ := K
  change X.K = K at hK
  subst hK
  refine ⟨pe_slice (sl_or sl_str sl_list) h1.pe hl.po hh.po, fun B ρ δ κ σ H R Q s g h q => ?_⟩
  refine h1.sd B ρ δ κ σ H _ _ s g h fun B1 ρ1 κ1 H1 a x u1 g1 r1 h1 => ?_
  refine hl.sd B1 ρ1 δ κ1 σ H1 _ _ (s.up u1.g) g1 h1 fun B2 ρ2 κ2 H2 lo u2 g2 h2 => ?_
  refine hh.sd B2 ρ2 δ κ2 σ H2 _ _ (s.up (u1.trans u2).g) g2 h2 fun B3 ρ3 κ3 H3 hi u3 g3 h3 => ?_
  have r3 := r1.up (u2.trans u3).g
  have q3 := q.later ((u1.trans u2).trans u3)
  split at h3
  · cases r3.str
    exact .inl ⟨_, rfl, h3.1, q3.at0 g3 (rp_str _) h3.2⟩
  · rename_i xs
    obtain ⟨p, vs, rfl, s1, d1⟩ := of_listG g3 r3
    refine .inr ⟨p, vs, rfl, s1, fun p' hp' => ?_⟩
    obtain ⟨u4, g4, r4⟩ := new_lst g3 hp' (dpa_cut d1 lo hi)
    exact q3 _ _ _ _ _ _ u4 g4 r4 h3
  · rename_i k
    obtain ⟨p, hp, rfl⟩ := r3
    split at h3
    · rename_i xs ek
      obtain ⟨p', hp', _, vs, r, eH⟩ := g3.cell ek
      rw [hp] at hp'; cases hp'
      refine .inr ⟨p, vs, rfl, .inl (.inl eH), fun p' hp' => ?_⟩
      obtain ⟨u4, g4, r4⟩ := new_ld g3 hp' (dpa_cut r lo hi)
      exact q3 _ _ _ _ _ _ u4 g4 r4 h3
    · rename_i xs ek
      obtain ⟨p', hp', _, vs, r, eH⟩ := g3.cell ek
      rw [hp] at hp'; cases hp'
      refine .inr ⟨p, vs, rfl, .inl (.inl eH), fun p' hp' => ?_⟩
      obtain ⟨u4, g4, r4⟩ := new_cell g3 hp' (r.cut lo hi)
      exact q3 _ _ _ _ _ _ u4 g4 r4 h3
    · exact h3.elim
  · exact h3.elim

/-! ### argument lists, displays -/
def aNil : AA := fun _ κ R => R [] κ
def aCons (f : AE) (g : AA) : AA := fun δ κ R => f δ κ fun a κ1 => g δ κ1 fun as κ2 => R (a :: as) κ2
variable {es : List Expr} {ta : TA} {fa : AA}
theorem aa_nil : PAa K X [] tNil aNil := ⟨pa_nil, fun B ρ δ κ σ H R Q s g h q => q _ _ _ _ _ _ Up.refl g .nil h⟩
theorem aa_cons (h1 : PEa K X e t f) (h2 : PAa K X es ta fa) (hs : starEach (e :: es) X.env = (false, eval e X.env) :: starEach es X.env := by rfl) : PAa K X (e :: es) (tCons t ta) (aCons f fa) :=
  ⟨pa_cons h1.pe h2.pa hs, fun B ρ δ κ σ H R Q s g h q => h1.sd B ρ δ κ σ H _ _ s g h fun B1 ρ1 κ1 H1 a x u1 g1 r1 k1 => h2.sd B1 ρ1 δ κ1 σ H1 _ _ (s.up u1.g) g1 k1 fun B2 ρ2 κ2 H2 as xs u2 g2 r2 k2 =>
    q _ _ _ _ _ _ (u1.trans u2) g2 (.cons (r1.up u2.g) r2) k2⟩
def allD : List AV → Option (List PyData)
  | [] => some []
  | .d x :: r => match allD r with
    | some xs => some (x :: xs)
    | none => none
  | _ :: _ => none
theorem allD_eq : ∀ {as : List AV} {ds : List PyData}, allD as = some ds → as = ds.map .d
  | [], _, h => by cases h; rfl
  | .d x :: r, ds, h => by
    unfold allD at h
    split at h
    · rename_i xs e
      cases h
      rw [allD_eq e]; rfl
    · cases h
  | .c _ :: _, _, h => by cases h
  | .r _ :: _, _, h => by cases h
theorem allD_map : ∀ (ds : List PyData), allD (ds.map .d) = some ds
  | [] => rfl
  | d :: ds => by
    show (match allD (ds.map .d) with | some xs => some (d :: xs) | none => none) = _
    rw [allD_map ds]
def aTup (g : AA) : AE := fun δ κ R => g δ κ fun as κ1 => match allD as with
  | some ds => as.length ≤ sizeLine ∧ R (.d (.tuple ds)) κ1
  | none => as.length ≤ sizeLine ∧ R (.c κ1.length) (κ1 ++ [.tup as])
/-- a display that never changes, one that may change -/
def aLstD (g : AA) : AE := fun δ κ R => g δ κ fun as κ1 => match allD as with
  | some ds => as.length ≤ sizeLine ∧ R (.d (.list ds)) κ1
  | none => False
def aLst (g : AA) : AE := fun δ κ R => g δ κ fun as κ1 => match allD as with
  | some ds => as.length ≤ sizeLine ∧ R (.c κ1.length) (κ1 ++ [.ld ds])
  | none => as.length ≤ sizeLine ∧ R (.c κ1.length) (κ1 ++ [.lst as])
theorem ea_tup {x1} (h : PAa K X es ta fa) : PEa K X (.Tuple es x1 pos) (tTup ta) (aTup fa) := by
  refine ⟨pe_tup h.pa, fun B ρ δ κ σ H R Q s g hh q => h.sd B ρ δ κ σ H _ _ s g hh fun B1 ρ1 κ1 H1 as xs u1 g1 r1 h1 => ?_⟩
  split at h1
  · rename_i ds e
    obtain rfl := allD_eq e
    refine ⟨by rw [← r1.len]; exact h1.1, fun p hp => ?_⟩
    obtain ⟨u2, g2, r2⟩ := new_tup g1 hp (Reps.of_all r1)
    exact q _ _ _ _ _ _ (u1.trans u2) g2 r2 h1.2
  · refine ⟨by rw [← r1.len]; exact h1.1, fun p hp => ?_⟩
    obtain ⟨u2, g2, r2⟩ := new_tcell g1 hp r1
    exact q _ _ _ _ _ _ (u1.trans u2) g2 r2 h1.2
theorem ea_lstD (h : PAa K X es ta fa) : PEa K X (.List es pos) (tLst ta) (aLstD fa) := by
  refine ⟨pe_lst h.pa, fun B ρ δ κ σ H R Q s g hh q => h.sd B ρ δ κ σ H _ _ s g hh fun B1 ρ1 κ1 H1 as xs u1 g1 r1 h1 => ?_⟩
  split at h1
  · rename_i ds e
    obtain rfl := allD_eq e
    refine ⟨by rw [← r1.len]; exact h1.1, fun p hp => ?_⟩
    obtain ⟨u2, g2, r2⟩ := new_lst g1 hp (Reps.of_all r1)
    exact q _ _ _ _ _ _ (u1.trans u2) g2 r2 h1.2
  · exact h1.elim
theorem ea_lst (h : PAa K X es ta fa) : PEa K X (.List es pos) (tLst ta) (aLst fa) := by
  refine ⟨pe_lst h.pa, fun B ρ δ κ σ H R Q s g hh q => h.sd B ρ δ κ σ H _ _ s g hh fun B1 ρ1 κ1 H1 as xs u1 g1 r1 h1 => ?_⟩
  split at h1
  · rename_i ds e
    obtain rfl := allD_eq e
    refine ⟨by rw [← r1.len]; exact h1.1, fun p hp => ?_⟩
    obtain ⟨u2, g2, r2⟩ := new_ld g1 hp (Reps.of_all r1)
    exact q _ _ _ _ _ _ (u1.trans u2) g2 r2 h1.2
  · refine ⟨by rw [← r1.len]; exact h1.1, fun p hp => ?_⟩
    obtain ⟨u2, g2, r2⟩ := new_cell g1 hp r1
    exact q _ _ _ _ _ _ (u1.trans u2) g2 r2 h1.2

/-! ### built-in calls -/
def aCB (f : List AV → AK → AR → Prop) (g : AA) : AE := fun δ κ R => g δ κ fun as κ1 => f as κ1 R
theorem se_cb {r : List V → Hp → VK → Prop} {f : List AV → AK → AR → Prop} (hr : SL K r f) (h : SA K ta fa) : SE K (tCB r ta) (aCB f fa) := fun B ρ δ κ σ H R Q s g hh q =>
  h B ρ δ κ σ H _ _ s g hh fun B1 ρ1 κ1 H1 as xs u1 g1 r1 h1 => hr _ _ _ _ _ _ _ _ g1 r1 h1 (q.later u1)
structure CallA (K : Frg) (X : Cx) (f : Value) (r : List V → Hp → VK → Prop) (g : List AV → AK → AR → Prop) : Prop where
  c : CallR X f r
  sd : SL K r g
theorem ea_cb {id : String} {x : Str} {q pos : Pos} {r : List V → Hp → VK → Prop} {g : List AV → AK → AR → Prop} (hc : CallA K X (.builtin id) r g) (hg : Gl X x) (hm : X.mg x = none) (hv : bootBuiltins x = some (.builtin id)) (ha : PAa K X (e :: es) ta fa) (hn : x ≠ "__name__" := by decide) (hdb : (x == ("__debug__" : Str)) = false := by decide)
    (he : starEach (e :: es) X.env = (false, eval e X.env) :: starEach es X.env := by rfl) (hpl : (backTo pos (starEach es X.env)).any (·.1) = false := by rfl) : PEa K X (.Call (.Name x q) (e :: es) [] pos) (tCB r ta) (aCB g fa) :=
  ⟨pe_callB hc.c hg hm hv ha.pa hn hdb he hpl, se_cb hc.sd ha.sd⟩
theorem ea_ct {T : String} {x : Str} {q pos : Pos} {r : List V → Hp → VK → Prop} {g : List AV → AK → AR → Prop} (hc : CallA K X (.type T) r g) (hg : Gl X x) (hm : X.mg x = none) (hv : bootBuiltins x = some (.type T)) (ha : PAa K X (e :: es) ta fa) (hn : x ≠ "__name__" := by decide) (hdb : (x == ("__debug__" : Str)) = false := by decide)
    (he : starEach (e :: es) X.env = (false, eval e X.env) :: starEach es X.env := by rfl) (hpl : (backTo pos (starEach es X.env)).any (·.1) = false := by rfl) : PEa K X (.Call (.Name x q) (e :: es) [] pos) (tCB r ta) (aCB g fa) :=
  ⟨pe_callTy hc.c hg hm hv ha.pa hn hdb he hpl, se_cb hc.sd ha.sd⟩
/-- len -/
def aLen : List AV → AK → AR → Prop := fun as κ R => match as with
  | [.d (.str s)] => s.length ≤ sizeLine ∧ R (.d (.int s.length)) κ
  | [.d (.list xs)] => R (.d (.int xs.length)) κ
  | [.d (.tuple xs)] => R (.d (.int xs.length)) κ
  | [.c k] => match κ[k]? with
    | some (.ld xs) => R (.d (.int xs.length)) κ
    | some (.lst xs) => R (.d (.int xs.length)) κ
    | some (.tup xs) => R (.d (.int xs.length)) κ
    | _ => False
  | _ => False
def rLenA (K : PySem.W.Frag) : List V → Hp → VK → Prop := fun xs H Q => (∃ p ys, xs = [.ref p] ∧ (SqL K H p ys ∨ SqT K H p ys) ∧ Q (.int ys.length) H) ∨ (∃ z, xs = [.str z] ∧ z.length ≤ sizeLine ∧ Q (.int z.length) H)
theorem reps1 {as : AV} {xs : List V} (h : Reps K B ρ [as] xs) : ∃ x, xs = [x] ∧ Rep K B ρ as x := by
  cases h with
  | cons h1 h2 => cases h2; exact ⟨_, rfl, h1⟩
theorem reps2 {a1 a2 : AV} {xs : List V} (h : Reps K B ρ [a1, a2] xs) : ∃ x y, xs = [x, y] ∧ Rep K B ρ a1 x ∧ Rep K B ρ a2 y := by
  cases h with
  | cons h1 h2 =>
    obtain ⟨y, rfl, r⟩ := reps1 h2
    exact ⟨_, _, rfl, h1, r⟩
theorem ca_len (hK : X.K = K := by rfl) : CallA K X (.builtin "len") (rLenA K) aLen := by
  obtain ⟨K, Kn, KZ, Ku⟩ := K
  change X.K = K at hK
  subst hK
  refine ⟨callr_or call_len_seq call_len_str, fun B ρ κ H xs as R Q g rs h q => ?_⟩
  unfold aLen at h
  split at h
  · obtain ⟨x, rfl, r⟩ := reps1 rs
    cases r.str
    exact .inr ⟨_, rfl, h.1, q.at0 g (rp_int _) h.2⟩
  · obtain ⟨x, rfl, r⟩ := reps1 rs
    obtain ⟨p, vs, rfl, s1, d1⟩ := of_listG g r
    exact .inl ⟨p, vs, rfl, .inl s1, q.at0 g (rp_int _) (by rw [dpa_len d1]; exact h)⟩
  · obtain ⟨x, rfl, r⟩ := reps1 rs
    obtain ⟨p, vs, rfl, s1, d1⟩ := of_tupG g r
    exact .inl ⟨p, vs, rfl, .inr s1, q.at0 g (rp_int _) (by rw [dpa_len d1]; exact h)⟩
  · obtain ⟨x, rfl, r⟩ := reps1 rs
    obtain ⟨p, hp, rfl⟩ := r
    split at h
    · rename_i xs ek
      obtain ⟨p', hp', _, vs, r, eH⟩ := g.cell ek
      rw [hp] at hp'; cases hp'
      exact .inl ⟨p, vs, rfl, .inl (.inl (.inl eH)), q.at0 g (rp_int _) (by rw [dpa_len r]; exact h)⟩
    · rename_i xs ek
      obtain ⟨p', hp', _, vs, r, eH⟩ := g.cell ek
      rw [hp] at hp'; cases hp'
      exact .inl ⟨p, vs, rfl, .inl (.inl (.inl eH)), q.at0 g (rp_int _) (by rw [← r.len]; exact h)⟩
    · rename_i xs ek
      obtain ⟨p', hp', vs, r, eH⟩ := g.cell ek
      rw [hp] at hp'; cases hp'
      exact .inl ⟨p, vs, rfl, .inr (.inl (.inl eH)), q.at0 g (rp_int _) (by rw [← r.len]; exact h)⟩
    · exact h.elim
  · exact h.elim
/-- int(n) -/
def aIntOf : List AV → AK → AR → Prop := fun as κ R => match as with
  | [.d (.int i)] => R (.d (.int i)) κ
  | [.d (.bool b)] => R (.d (.int (if b then 1 else 0))) κ
  | _ => False
theorem ca_int : CallA K X (.type "int") (fun xs H Q => (∃ i, xs = [.int i] ∧ Q (.int i) H) ∨ ∃ k, xs = [.bl k] ∧ Q (.int (if k then 1 else 0)) H) aIntOf := by
  refine ⟨call_int1, fun B ρ κ H xs as R Q g rs h q => ?_⟩
  unfold aIntOf at h
  split at h
  · obtain ⟨x, rfl, r⟩ := reps1 rs
    exact .inl ⟨_, by rw [r.int], q.at0 g (rp_int _) h⟩
  · obtain ⟨x, rfl, r⟩ := reps1 rs
    exact .inr ⟨_, by rw [r.bool], q.at0 g (rp_int _) h⟩
  · exact h.elim
/-- str(n) -/
def aStrOf : List AV → AK → AR → Prop := fun as κ R => match as with
  | [.d (.int i)] => i.natAbs.log2 < 1920 ∧ R (.d (.str (toString i))) κ
  | _ => False
theorem ca_str : CallA K X (.type "str") (fun xs H Q => ∃ i, xs = [.int i] ∧ i.natAbs.log2 < 1920 ∧ Q (.str (toString i)) H) aStrOf := by
  refine ⟨call_str_int, fun B ρ κ H xs as R Q g rs h q => ?_⟩
  unfold aStrOf at h
  split at h
  · obtain ⟨x, rfl, r⟩ := reps1 rs
    exact ⟨_, by rw [r.int], h.1, q.at0 g (rp_str _) h.2⟩
  · exact h.elim
/-- list(x): a new list that may change, one that never does -/
def aListOf (mu : Bool) : List AV → AK → AR → Prop := fun as κ R => match as with
  | [.d (.list xs)] => if mu then R (.c κ.length) (κ ++ [.ld xs]) else R (.d (.list xs)) κ
  | [.d (.tuple xs)] => if mu then R (.c κ.length) (κ ++ [.ld xs]) else R (.d (.list xs)) κ
  | [.c k] => match κ[k]? with
    | some (.ld xs) => if mu then R (.c κ.length) (κ ++ [.ld xs]) else R (.d (.list xs)) κ
    | some (.lst xs) => R (.c κ.length) (κ ++ [.lst xs])
    | some (.tup xs) => R (.c κ.length) (κ ++ [.lst xs])
    | _ => False
  | _ => False
theorem ca_list (mu : Bool) (hK : X.K = K := by rfl) : CallA K X (.type "list") (fun xs H Q => ∃ p ys, xs = [.ref p] ∧ (SqL K H p ys ∨ SqT K H p ys) ∧ ∀ l, H l = none → Q (.ref l) (upd H l (.lst ys))) (aListOf mu) := by
  obtain ⟨K, Kn, KZ, Ku⟩ := K
  change X.K = K at hK
  subst hK
  refine ⟨call_list_of, fun B ρ κ H xs as R Q g rs h q => ?_⟩
  have key : ∀ {ds : List PyData} {vs : List V}, DpAll X.K B vs ds → (if mu then R (.c κ.length) (κ ++ [.ld ds]) else R (.d (.list ds)) κ) → ∀ l, H l = none → Q (.ref l) (upd H l (.lst vs)) := by
    intro ds vs d1 h l hl
    cases mu with
    | true =>
      obtain ⟨u2, g2, r2⟩ := new_ld g hl d1
      exact q _ _ _ _ _ _ u2 g2 r2 h
    | false =>
      obtain ⟨u2, g2, r2⟩ := new_lst g hl d1
      exact q _ _ _ _ _ _ u2 g2 r2 h
  unfold aListOf at h
  split at h
  · obtain ⟨x, rfl, r⟩ := reps1 rs
    obtain ⟨p, vs, rfl, s1, d1⟩ := of_listG g r
    exact ⟨p, vs, rfl, .inl s1, key d1 h⟩
  · obtain ⟨x, rfl, r⟩ := reps1 rs
    obtain ⟨p, vs, rfl, s1, d1⟩ := of_tupG g r
    exact ⟨p, vs, rfl, .inr s1, key d1 h⟩
  · obtain ⟨x, rfl, r⟩ := reps1 rs
    obtain ⟨p, hp, rfl⟩ := r
    split at h
    · rename_i xs ek
      obtain ⟨p', hp', _, vs, r, eH⟩ := g.cell ek
      rw [hp] at hp'; cases hp'
      exact ⟨p, vs, rfl, .inl (.inl (.inl eH)), key r h⟩
    · rename_i xs ek
      obtain ⟨p', hp', _, vs, r, eH⟩ := g.cell ek
      rw [hp] at hp'; cases hp'
      refine ⟨p, vs, rfl, .inl (.inl (.inl eH)), fun l hl => ?_⟩
      obtain ⟨u2, g2, r2⟩ := new_cell g hl r
      exact q _ _ _ _ _ _ u2 g2 r2 h
    · rename_i xs ek
      obtain ⟨p', hp', vs, r, eH⟩ := g.cell ek
      rw [hp] at hp'; cases hp'
      refine ⟨p, vs, rfl, .inr (.inl (.inl eH)), fun l hl => ?_⟩
      obtain ⟨u2, g2, r2⟩ := new_cell g hl r
      exact q _ _ _ _ _ _ u2 g2 r2 h
    · exact h.elim
  · exact h.elim
/-- isinstance(x, T), T a built-in class -/
def tyN : PyData → String
  | .none => "NoneType" | .bool _ => "bool" | .int _ => "int" | .str _ => "str" | .list _ => "list" | .tuple _ => "tuple" | .dict _ => "dict"
def aIsi : List AV → AK → AR → Prop := fun as κ R => match as with
  | [.d x, .r (.ty T)] => ∃ r, kitB (tyN x) T = some r ∧ R (.d (.bool r)) κ
  | [.c k, .r (.ty T)] => match κ[k]? with
    | some (.ld _) => ∃ r, kitB "list" T = some r ∧ R (.d (.bool r)) κ
    | some (.lst _) => ∃ r, kitB "list" T = some r ∧ R (.d (.bool r)) κ
    | some (.tup _) => ∃ r, kitB "tuple" T = some r ∧ R (.d (.bool r)) κ
    | _ => False
  | _ => False
theorem tyx_of {d : PyData} (h : Dp K H v d) : TyX K H v (.type (tyN d)) := by
  cases h with
  | non => exact .base .non
  | bl b => exact .base (.bl b)
  | int i => exact .base (.int i)
  | str x => exact .base (.str x)
  | lst hs ha =>
    rcases hs with (h | ⟨o, h⟩) | ⟨o, its, n, h, h2, _⟩
    · exact .base (.lst h)
    · exact .base (.frz h)
    · exact .kList h h2
  | tup hs ha =>
    rcases hs with (h | ⟨o, h⟩) | ⟨o, its, n, h, h2, _⟩
    · exact .base (.tup h)
    · exact .fTuple h
    · exact .kTuple h h2
theorem ca_isi (hK : X.K = K := by rfl) : CallA K X (.builtin "isinstance") (rIsi K) aIsi := by
  obtain ⟨K, Kn, KZ, Ku⟩ := K
  change X.K = K at hK
  subst hK
  refine ⟨call_isi, fun B ρ κ H xs as R Q g rs h q => ?_⟩
  unfold aIsi at h
  split at h
  · obtain ⟨x, y, rfl, r1, r2⟩ := reps2 rs
    obtain ⟨r, e, h⟩ := h
    obtain rfl := (show y = _ from r2)
    exact ⟨x, _, _, _, r, rfl, .ty _, tyx_of (dp_G g r1), kit_ty e, q.at0 g (rp_bl _) h⟩
  · obtain ⟨x, y, rfl, r1, r2⟩ := reps2 rs
    obtain rfl := (show y = _ from r2)
    obtain ⟨p, hp, rfl⟩ := r1
    split at h
    · rename_i xs ek
      obtain ⟨r, e, h⟩ := h
      obtain ⟨p', hp', _, vs, _, eH⟩ := g.cell ek
      rw [hp] at hp'; cases hp'
      exact ⟨_, _, _, _, r, rfl, .ty _, .base (.lst eH), kit_ty e, q.at0 g (rp_bl _) h⟩
    · rename_i xs ek
      obtain ⟨r, e, h⟩ := h
      obtain ⟨p', hp', _, vs, _, eH⟩ := g.cell ek
      rw [hp] at hp'; cases hp'
      exact ⟨_, _, _, _, r, rfl, .ty _, .base (.lst eH), kit_ty e, q.at0 g (rp_bl _) h⟩
    · rename_i xs ek
      obtain ⟨r, e, h⟩ := h
      obtain ⟨p', hp', vs, _, eH⟩ := g.cell ek
      rw [hp] at hp'; cases hp'
      exact ⟨_, _, _, _, r, rfl, .ty _, .base (.tup eH), kit_ty e, q.at0 g (rp_bl _) h⟩
    · exact h.elim
  · exact h.elim

/-! ### methods of built-in classes -/
def tyA (T : String) (a : AV) (κ : AK) : Prop := match a with
  | .d (.str _) => T = "str"
  | .d (.list _) => T = "list"
  | .c k => match κ[k]? with
    | some (.ld _) => T = "list"
    | some (.lst _) => T = "list"
    | some (.dK _) => T = "dict"
    | some (.dT _) => T = "dict"
    | _ => False
  | _ => False
theorem tyA_ok {T : String} (g : G K B ρ κ H) (r : Rep K B ρ a x) (h : tyA T a κ) : tyV K T x H := by
  unfold tyA at h
  split at h
  · rw [r.str]; exact h
  · obtain ⟨p, vs, rfl, s1, d1⟩ := of_listG g r
    exact .inl ⟨h, vs, s1⟩
  · obtain ⟨p, hp, rfl⟩ := r
    split at h
    · rename_i xs ek
      obtain ⟨p', hp', _, vs, _, eH⟩ := g.cell ek
      rw [hp] at hp'; cases hp'
      exact .inl ⟨h, vs, .inl (.inl eH)⟩
    · rename_i xs ek
      obtain ⟨p', hp', _, vs, _, eH⟩ := g.cell ek
      rw [hp] at hp'; cases hp'
      exact .inl ⟨h, vs, .inl (.inl eH)⟩
    · rename_i xs ek
      obtain ⟨p', hp', _, vs, _, eH⟩ := g.cell ek
      rw [hp] at hp'; cases hp'
      exact .inr (.inr (.inl ⟨h, .inl ⟨vs, eH⟩⟩))
    · rename_i xs ek
      obtain ⟨p', hp', _, vs, _, eH⟩ := g.cell ek
      rw [hp] at hp'; cases hp'
      exact .inr (.inr (.inl ⟨h, .inr ⟨vs, eH⟩⟩))
    · exact h.elim
  · exact h.elim
structure MtA (K : Frg) (X : Cx) (id : String) (r : V → List V → Hp → VK → Prop) (g : AV → List AV → AK → AR → Prop) : Prop where
  m : MtR X id r
  sd : ∀ B ρ κ H x xs a as (R : AR) (Q : VK), G K B ρ κ H → Rep K B ρ a x → Reps K B ρ as xs → g a as κ R → Nx K B ρ H R Q → r x xs H Q
def aBM (T : String) (g : AV → List AV → AK → AR → Prop) (f : AE) (fa : AA) : AE := fun δ κ R => f δ κ fun a κ1 => tyA T a κ1 ∧ fa δ κ1 fun as κ2 => g a as κ2 R
def aBM0 (T : String) (g : AV → List AV → AK → AR → Prop) (f : AE) : AE := fun δ κ R => f δ κ fun a κ1 => tyA T a κ1 ∧ g a [] κ1 R
theorem ea_bm {T id : String} {name : Str} {apos cpos : Pos} {r : V → List V → Hp → VK → Prop} {g : AV → List AV → AK → AR → Prop} (hm : MtA K X id r g) (pa : PlainAttrs T) (slot : Slot T name id) (hty : typeOf (.builtin id) = pure (.type "method_descriptor")) (ho : PEa K X e2 t f) (ha : PAa K X (e :: es) ta fa)
    (hbase : attributeBase e2 name X.env (eval e2 X.env) = eval e2 X.env := by rfl)
    (hfew : ((backTo cpos (starEach (e :: es) X.env)).all (fun x => !x.1) && (backToKw cpos (keywordEach [] X.env)).all (fun x => x.1.isSome)
      && decide ((e :: es).length + ([] : List Keyword).length + (if ([] : List Keyword).isEmpty then 0 else 1) < 30)) = true := by rfl)
    (hline : (apos.endLine == cpos.line) = true := by rfl) (hs : starEach (e :: es) X.env = (false, eval e X.env) :: starEach es X.env := by rfl) (hplain : (backTo cpos (starEach es X.env)).any (·.1) = false := by rfl) (hK : X.K = K := by rfl) :
    PEa K X (.Call (.Attribute e2 name apos) (e :: es) [] cpos) (tBM K T r t ta) (aBM T g f fa) := by
  obtain ⟨K, Kn, KZ, Ku⟩ := K
  change X.K = K at hK
  subst hK
  exact ⟨pe_bm pa slot hty hm.m ho.pe ha.pa hbase hfew hline hs hplain, fun B ρ δ κ σ H R Q s gg h q => ho.sd B ρ δ κ σ H _ _ s gg h fun B1 ρ1 κ1 H1 a x u1 g1 r1 h1 =>
    ⟨tyA_ok g1 r1 h1.1, ha.sd B1 ρ1 δ κ1 σ H1 _ _ (s.up u1.g) g1 h1.2 fun B2 ρ2 κ2 H2 as xs u2 g2 r2 h2 => hm.sd _ _ _ _ _ _ _ _ _ _ g2 (r1.up u2.g) r2 h2 (q.later (u1.trans u2))⟩⟩
theorem ea_bm0 {T id : String} {name : Str} {apos cpos : Pos} {r : V → List V → Hp → VK → Prop} {g : AV → List AV → AK → AR → Prop} (hm : MtA K X id r g) (pa : PlainAttrs T) (slot : Slot T name id) (hty : typeOf (.builtin id) = pure (.type "method_descriptor")) (ho : PEa K X e2 t f)
    (hbase : attributeBase e2 name X.env (eval e2 X.env) = eval e2 X.env := by rfl) (hline : (apos.endLine == cpos.line) = true := by rfl) (hK : X.K = K := by rfl) : PEa K X (.Call (.Attribute e2 name apos) [] [] cpos) (tBM0 K T r t) (aBM0 T g f) := by
  obtain ⟨K, Kn, KZ, Ku⟩ := K
  change X.K = K at hK
  subst hK
  exact ⟨pe_bm0 pa slot hty hm.m ho.pe hbase hline, fun B ρ δ κ σ H R Q s gg h q => ho.sd B ρ δ κ σ H _ _ s gg h fun B1 ρ1 κ1 H1 a x u1 g1 r1 h1 =>
    ⟨tyA_ok g1 r1 h1.1, hm.sd _ _ _ _ _ _ _ _ _ _ g1 r1 .nil h1.2 (q.later u1)⟩⟩
/-- a list cell: where it stands, and how it changes -/
theorem G.lstAt (g : G K B ρ κ H) {xs : List AV} (hp : ρ[k]? = some p) (ek : κ[k]? = some (.lst xs)) : ∃ vs, Reps K B ρ xs vs ∧ H p = some (.lst vs) ∧
    ∀ xs' vs', Reps K B ρ xs' vs' → Up B ρ H B ρ (upd H p (.lst vs')) ∧ G K B ρ (κ.set k (.lst xs')) (upd H p (.lst vs')) := by
  obtain ⟨p', hp', hb, vs, r, eH⟩ := g.cell ek
  rw [hp] at hp'; cases hp'
  refine ⟨vs, r, eH, fun xs' vs' r' => ⟨G.writeUp hp, ?_⟩⟩
  have hc : CellOk K B ρ (upd H p (.lst vs')) p (.lst xs') := ⟨hb, vs', r', upd_same⟩
  exact g.write hp hb hc
theorem G.ldAt (g : G K B ρ κ H) {xs : List PyData} (hp : ρ[k]? = some p) (ek : κ[k]? = some (.ld xs)) : ∃ vs, DpAll K B vs xs ∧ H p = some (.lst vs) ∧
    ∀ xs' vs', DpAll K B vs' xs' → Up B ρ H B ρ (upd H p (.lst vs')) ∧ G K B ρ (κ.set k (.ld xs')) (upd H p (.lst vs')) := by
  obtain ⟨p', hp', hb, vs, r, eH⟩ := g.cell ek
  rw [hp] at hp'; cases hp'
  refine ⟨vs, r, eH, fun xs' vs' r' => ⟨G.writeUp hp, ?_⟩⟩
  have hc : CellOk K B ρ (upd H p (.lst vs')) p (.ld xs') := ⟨hb, vs', r', upd_same⟩
  exact g.write hp hb hc
/-- xs.append(y) -/
def aAppend : AV → List AV → AK → AR → Prop := fun a as κ R => match a, as with
  | .c k, [y] => match κ[k]?, y with
    | some (.ld xs), .d z => xs.length < sizeLine ∧ R (.d .none) (κ.set k (.ld (xs ++ [z])))
    | some (.lst xs), y => xs.length < sizeLine ∧ R (.d .none) (κ.set k (.lst (xs ++ [y])))
    | _, _ => False
  | _, _ => False
theorem ma_append : MtA K X "list.append" rAppend aAppend := by
  refine ⟨mt_append, fun B ρ κ H x xs a as R Q g rx rs h q => ?_⟩
  unfold aAppend at h
  split at h
  · obtain ⟨p, hp, rfl⟩ := rx
    obtain ⟨y, rfl, ry⟩ := reps1 rs
    split at h
    · rename_i xs z ek
      obtain ⟨vs, r, eH, wr⟩ := g.ldAt hp ek
      obtain ⟨u2, g2⟩ := wr _ _ (dpa_app r (.cons ry .nil))
      refine ⟨p, vs, y, rfl, rfl, eH, by rw [dpa_len r]; exact h.1, q _ _ _ _ _ _ u2 g2 rp_non h.2⟩
    · rename_i xs y' ek
      obtain ⟨vs, r, eH, wr⟩ := g.lstAt hp ek
      obtain ⟨u2, g2⟩ := wr _ _ (r.snoc ry)
      refine ⟨p, vs, y, rfl, rfl, eH, by rw [← r.len]; exact h.1, q _ _ _ _ _ _ u2 g2 rp_non h.2⟩
    · exact h.elim
  · exact h.elim
/-- s.startswith(x, i) -/
def aStarts3 : AV → List AV → AK → AR → Prop := fun a as κ R => match a, as with
  | .d (.str s), [.d (.str t), .d (.int i)] => R (.d (.bool (Txt.startswith3 s t i))) κ
  | _, _ => False
theorem ma_starts3 : MtA K X "str.startswith" (fun x xs H Q => ∃ (a b : Str) (i : Int), x = .str a ∧ xs = [.str b, .int i] ∧ Q (.bl (Txt.startswith3 a b i)) H) aStarts3 := by
  refine ⟨mt_startswith3, fun B ρ κ H x xs a as R Q g rx rs h q => ?_⟩
  unfold aStarts3 at h
  split at h
  · obtain ⟨y, z, rfl, r1, r2⟩ := reps2 rs
    cases rx.str; cases r1.str; cases r2.int
    exact ⟨_, _, _, rfl, rfl, q.at0 g (rp_bl _) h⟩
  · exact h.elim

/-! ### tests -/
variable {tA tB' : TT} {pA pB : AT}
/-- a choice by a truth -/
def bsel (b : Bool) (A C : Prop) : Prop := match b with
  | true => A
  | false => C
theorem bsel_i {b : Bool} {A C : Prop} (h1 : b = true → A) (h0 : b = false → C) : bsel b A C := by
  cases b with
  | true => exact h1 rfl
  | false => exact h0 rfl
def aB (f : AE) : AT := fun δ κ R => f δ κ fun a κ1 => match a with
  | .d (.bool b) => R b κ1
  | _ => False
theorem st_B (h : SE K t f) : ST K (tB t) (aB f) := fun B ρ δ κ σ H R Q s g hh q => h B ρ δ κ σ H _ _ s g hh fun B1 ρ1 κ1 H1 a x u1 g1 r1 h1 => by
  split at h1
  · exact ⟨_, r1.bool, q _ _ _ _ _ u1 g1 h1⟩
  · exact h1.elim
theorem ta_cmp {op : CmpOp} {r : R2} {g : AO} (ho : OpA K X (compareOp op) r g) (h1 : PEa K X e t f) (h2 : PEa K X e2 u f2) (hm : behindInMarks op e2 = false := by first | exact nomark _ | rfl) : PTa K X (.Compare e [op] [e2] pos) (tTest (tOp r t u)) (aB (aOp g f f2)) :=
  ⟨pt_cmpR ho.op h1.pe h2.pe hm, st_B (se_op ho.sd h1.sd h2.sd)⟩
/-- truth of anything -/
def aTru (f : AE) : AT := fun δ κ R => f δ κ fun a κ1 => match a with
  | .d (.bool b) => R b κ1
  | .d .none => R false κ1
  | .d (.int i) => R (i != 0) κ1
  | .d (.str s) => s.length ≤ sizeLine ∧ R ((s.length : Int) != 0) κ1
  | .d (.list xs) => R (!xs.isEmpty) κ1
  | .d (.tuple xs) => R (!xs.isEmpty) κ1
  | .c k => match κ1[k]? with
    | some (.ld xs) => R (!xs.isEmpty) κ1
    | some (.lst xs) => R (!xs.isEmpty) κ1
    | _ => False
  | _ => False
theorem emp_dpa {ds : List PyData} {vs : List V} (h : DpAll K B vs ds) : (!vs.isEmpty) = !ds.isEmpty := by
  cases ds with
  | nil => cases h; rfl
  | cons _ _ => cases h; rfl
theorem emp_reps {ds : List AV} {vs : List V} (h : Reps K B ρ ds vs) : (!vs.isEmpty) = !ds.isEmpty := by
  cases h <;> rfl
theorem ta_tru (h : PEa K X e t f) (he : ∀ whole, isTrue e X.env whole = (do let v ← whole; standAt e.pos; holding [v] (truthy v)) := by intro _; rfl) (hK : X.K = K := by rfl) : PTa K X e (fun σ H Q => t σ H fun x H' => ∃ k, TruV K x H' k ∧ Q k H') (aTru f) := by
  obtain ⟨K, Kn, KZ, Ku⟩ := K
  change X.K = K at hK
  subst hK
  refine ⟨pt_truth h.pe he, fun B ρ δ κ σ H R Q s g hh q => h.sd B ρ δ κ σ H _ _ s g hh fun B1 ρ1 κ1 H1 a x u1 g1 r1 h1 => ?_⟩
  split at h1
  · rw [r1.bool]; exact ⟨_, rfl, q _ _ _ _ _ u1 g1 h1⟩
  · rw [r1.non]; exact ⟨_, rfl, q _ _ _ _ _ u1 g1 h1⟩
  · rw [r1.int]; exact ⟨_, rfl, q _ _ _ _ _ u1 g1 h1⟩
  · rw [r1.str]; exact ⟨_, ⟨h1.1, rfl⟩, q _ _ _ _ _ u1 g1 h1.2⟩
  · obtain ⟨p, vs, rfl, s1, d1⟩ := of_listG g1 r1
    exact ⟨_, .inl ⟨vs, s1, rfl⟩, q _ _ _ _ _ u1 g1 (by rw [emp_dpa d1]; exact h1)⟩
  · obtain ⟨p, vs, rfl, s1, d1⟩ := of_tupG g1 r1
    exact ⟨_, .inr (.inl ⟨vs, s1, rfl⟩), q _ _ _ _ _ u1 g1 (by rw [emp_dpa d1]; exact h1)⟩
  · obtain ⟨p, hp, rfl⟩ := r1
    split at h1
    · rename_i xs ek
      obtain ⟨p', hp', _, vs, r, eH⟩ := g1.cell ek
      rw [hp] at hp'; cases hp'
      exact ⟨_, .inl ⟨vs, .inl (.inl eH), rfl⟩, q _ _ _ _ _ u1 g1 (by rw [emp_dpa r]; exact h1)⟩
    · rename_i xs ek
      obtain ⟨p', hp', _, vs, r, eH⟩ := g1.cell ek
      rw [hp] at hp'; cases hp'
      exact ⟨_, .inl ⟨vs, .inl (.inl eH), rfl⟩, q _ _ _ _ _ u1 g1 (by rw [emp_reps r]; exact h1)⟩
    · exact h1.elim
  · exact h1.elim
def aAnd (p q : AT) : AT := fun δ κ R => p δ κ fun c κ1 => bsel c (q δ κ1 R) (R false κ1)
def aOr (p q : AT) : AT := fun δ κ R => p δ κ fun c κ1 => bsel c (R true κ1) (q δ κ1 R)
def aNot (p : AT) : AT := fun δ κ R => p δ κ fun c κ1 => R (!c) κ1
variable {e' : Expr} {rs : List Expr}
theorem wa_1 {op : BoolOp} (ho : op = .And ∨ op = .Or) (h : PTa K X e tA pA) : PWa K X (.BoolOp op [e] pos) tA pA := by
  rcases ho with rfl | rfl
  · exact ⟨pw_and1 h.pt, h.sd⟩
  · exact ⟨pw_or1 h.pt, h.sd⟩
theorem wa_and1 (h : PTa K X e tA pA) : PWa K X (.BoolOp .And [e] pos) tA pA := ⟨pw_and1 h.pt, h.sd⟩
theorem wa_or1 (h : PTa K X e tA pA) : PWa K X (.BoolOp .Or [e] pos) tA pA := ⟨pw_or1 h.pt, h.sd⟩
theorem wa_and (h : PTa K X e tA pA) (h2 : PWa K X (.BoolOp .And (e' :: rs) pos) tB' pB) : PWa K X (.BoolOp .And (e :: e' :: rs) pos) (tAnd tA tB') (aAnd pA pB) :=
  ⟨pw_and h.pt h2.pw, fun B ρ δ κ σ H R Q s g hh q => h.sd B ρ δ κ σ H _ _ s g hh fun B1 ρ1 κ1 H1 c u1 g1 h1 => by
    cases c with
    | true => exact iteT (h2.sd B1 ρ1 δ κ1 σ H1 R Q (s.up u1.g) g1 h1 fun B2 ρ2 κ2 H2 b u2 g2 k2 => q _ _ _ _ _ (u1.trans u2) g2 k2)
    | false => exact iteF (q _ _ _ _ _ u1 g1 h1)⟩
theorem wa_or (h : PTa K X e tA pA) (h2 : PWa K X (.BoolOp .Or (e' :: rs) pos) tB' pB) : PWa K X (.BoolOp .Or (e :: e' :: rs) pos) (tOr tA tB') (aOr pA pB) :=
  ⟨pw_or h.pt h2.pw, fun B ρ δ κ σ H R Q s g hh q => h.sd B ρ δ κ σ H _ _ s g hh fun B1 ρ1 κ1 H1 c u1 g1 h1 => by
    cases c with
    | true => exact iteT (q _ _ _ _ _ u1 g1 h1)
    | false => exact iteF (h2.sd B1 ρ1 δ κ1 σ H1 R Q (s.up u1.g) g1 h1 fun B2 ρ2 κ2 H2 b u2 g2 k2 => q _ _ _ _ _ (u1.trans u2) g2 k2)⟩
theorem ta_not (h : PTa K X e tA pA) : PTa K X (.UnaryOp .Not e pos) (tNot tA) (aNot pA) := ⟨pt_not h.pt, fun B ρ δ κ σ H R Q s g hh q => h.sd B ρ δ κ σ H _ _ s g hh fun B1 ρ1 κ1 H1 c u1 g1 h1 => q _ _ _ _ _ u1 g1 h1⟩
/-- as values -/
def aAndV (p q : AE) : AE := fun δ κ R => p δ κ fun a κ1 => match a with
  | .d (.bool b) => bsel b (q δ κ1 R) (R (.d (.bool false)) κ1)
  | _ => False
def aOrV (p q : AE) : AE := fun δ κ R => p δ κ fun a κ1 => match a with
  | .d (.bool b) => bsel b (R (.d (.bool true)) κ1) (q δ κ1 R)
  | _ => False
def aNotV (p : AE) : AE := fun δ κ R => p δ κ fun a κ1 => match a with
  | .d (.bool b) => R (.d (.bool (!b))) κ1
  | _ => False
theorem ea_one {op : BoolOp} (h : PEa K X e t f) : PEa K X (.BoolOp op [e] pos) t f := ⟨pe_one h.pe, h.sd⟩
theorem ea_and (h : PEa K X e t f) (h2 : PEa K X (.BoolOp .And (e' :: rs) pos) u f2) : PEa K X (.BoolOp .And (e :: e' :: rs) pos) (tAndV t u) (aAndV f f2) :=
  ⟨pe_and h.pe h2.pe, fun B ρ δ κ σ H R Q s g hh q => h.sd B ρ δ κ σ H _ _ s g hh fun B1 ρ1 κ1 H1 a x u1 g1 r1 h1 => by
    split at h1
    · rename_i c
      refine ⟨_, r1.bool, ?_⟩
      cases c with
      | true => exact iteT (h2.sd B1 ρ1 δ κ1 σ H1 R Q (s.up u1.g) g1 h1 (q.later u1))
      | false => exact iteF (q _ _ _ _ _ _ u1 g1 (rp_bl _) h1)
    · exact h1.elim⟩
theorem ea_or (h : PEa K X e t f) (h2 : PEa K X (.BoolOp .Or (e' :: rs) pos) u f2) : PEa K X (.BoolOp .Or (e :: e' :: rs) pos) (tOrV t u) (aOrV f f2) :=
  ⟨pe_or h.pe h2.pe, fun B ρ δ κ σ H R Q s g hh q => h.sd B ρ δ κ σ H _ _ s g hh fun B1 ρ1 κ1 H1 a x u1 g1 r1 h1 => by
    split at h1
    · rename_i c
      refine ⟨_, r1.bool, ?_⟩
      cases c with
      | true => exact iteT (q _ _ _ _ _ _ u1 g1 (rp_bl _) h1)
      | false => exact iteF (h2.sd B1 ρ1 δ κ1 σ H1 R Q (s.up u1.g) g1 h1 (q.later u1))
    · exact h1.elim⟩
theorem ea_not (h : PEa K X e t f) : PEa K X (.UnaryOp .Not e pos) (tNotV t) (aNotV f) :=
  ⟨pe_not h.pe, fun B ρ δ κ σ H R Q s g hh q => h.sd B ρ δ κ σ H _ _ s g hh fun B1 ρ1 κ1 H1 a x u1 g1 r1 h1 => by
    split at h1
    · exact ⟨_, r1.bool, q _ _ _ _ _ _ u1 g1 (rp_bl _) h1⟩
    · exact h1.elim⟩
def aIf (p : AT) (a b : AE) : AE := fun δ κ R => p δ κ fun c κ1 => bsel c (a δ κ1 R) (b δ κ1 R)
theorem ea_if {c : Expr} (hc : PTa K X c tA pA) (h : PEa K X e t f) (h2 : PEa K X e2 u f2) : PEa K X (.IfExp c e e2 pos) (tIf tA t u) (aIf pA f f2) :=
  ⟨pe_ifExp hc.pt h.pe h2.pe, fun B ρ δ κ σ H R Q s g hh q => hc.sd B ρ δ κ σ H _ _ s g hh fun B1 ρ1 κ1 H1 c u1 g1 h1 => by
    cases c with
    | true => exact iteT (h.sd B1 ρ1 δ κ1 σ H1 R Q (s.up u1.g) g1 h1 (q.later u1))
    | false => exact iteF (h2.sd B1 ρ1 δ κ1 σ H1 R Q (s.up u1.g) g1 h1 (q.later u1))⟩
/-- -n -/
def aNeg : AV → AK → AR → Prop := fun a κ R => match a with
  | .d (.int i) => R (.d (.int (-i))) κ
  | _ => False
theorem ea_neg (h : PEa K X e t f) : PEa K X (.UnaryOp .USub e pos) (tUn (rU fun i => .int (-i)) t) (aUn aNeg f) := ea_un un_neg (fun B ρ κ H x a R Q g rx h q => by
  unfold aNeg at h
  split at h
  · exact ⟨_, rx.int, q.at0 g (rp_int _) h⟩
  · exact h.elim) h
end Ab
set_option Elab.async false
set_option linter.all false
set_option maxRecDepth 100000
set_option maxHeartbeats 4000000
/-! Ab4: statements, targets, what is walked, loops, comprehensions -/
namespace Ab
open PySem L2
variable {K : Frg} {B B' B2 H H' H2 : Hp} {ρ ρ' ρ2 : List Addr} {κ κ' : AK} {δ : AD} {σ : L2.St} {p : Addr} {k : Nat} {v x y z : V} {a b c : AV}
variable {X : Cx} {e e2 : Expr} {t u : TE} {f f2 : AE} {pos : Pos}

theorem UpN.mono {n m : Nat} (w : UpN m B ρ H B' ρ' H') (h : n ≤ m) : UpN n B ρ H B' ρ' H' := ⟨w.s, fun i a hi e => w.p i a (Nat.lt_of_lt_of_le hi h) e, w.f⟩
structure AEnds where
  /-- the cells that stand at the entry -/
  n : Nat
  nx : AD → AK → Prop
  rt : AR
  bk : AD → AK → Prop := fun _ _ => False
  ct : AD → AK → Prop := fun _ _ => False
abbrev AS := AEnds → AD → AK → Prop
/-- a way on -/
abbrev ImpN (K : Frg) (n : Nat) (B : Hp) (ρ : List Addr) (H : Hp) (P : AD → AK → Prop) (Q : L2.St → Hp → Prop) : Prop := ∀ B' ρ' κ' H' δ' σ', UpN n B ρ H B' ρ' H' → G K B' ρ' κ' H' → S K B' ρ' δ' σ' → n ≤ κ'.length → P δ' κ' → Q σ' H'
abbrev ImpR (K : Frg) (n : Nat) (B : Hp) (ρ : List Addr) (H : Hp) (P : AR) (Q : VK) : Prop := ∀ B' ρ' κ' H' a v, UpN n B ρ H B' ρ' H' → G K B' ρ' κ' H' → Rep K B' ρ' a v → n ≤ κ'.length → P a κ' → Q v H'
structure Imp (K : Frg) (B : Hp) (ρ : List Addr) (H : Hp) (A : AEnds) (D : Ends) : Prop where
  nx : ImpN K A.n B ρ H A.nx D.nx
  rt : ImpR K A.n B ρ H A.rt D.rt
  bk : ImpN K A.n B ρ H A.bk D.bk
  ct : ImpN K A.n B ρ H A.ct D.ct
  kn : K.n ≤ A.n
theorem Imp.later {A : AEnds} {D : Ends} (i : Imp K B ρ H A D) (w : UpN A.n B ρ H B' ρ' H') : Imp K B' ρ' H' A D :=
  ⟨fun _ _ _ _ _ _ w2 g s l h => i.nx _ _ _ _ _ _ (w.trans w2) g s l h, fun _ _ _ _ _ _ w2 g s l h => i.rt _ _ _ _ _ _ (w.trans w2) g s l h,
   fun _ _ _ _ _ _ w2 g s l h => i.bk _ _ _ _ _ _ (w.trans w2) g s l h, fun _ _ _ _ _ _ w2 g s l h => i.ct _ _ _ _ _ _ (w.trans w2) g s l h, i.kn⟩
theorem Imp.nxTo {A : AEnds} {D : Ends} (i : Imp K B ρ H A D) {P : AD → AK → Prop} {Q : L2.St → Hp → Prop} (h : ImpN K A.n B ρ H P Q) : Imp K B ρ H { A with nx := P } { D with nx := Q } := ⟨h, i.rt, i.bk, i.ct, i.kn⟩
def SS (K : Frg) (t : TS) (f : AS) : Prop := ∀ B ρ δ κ σ H (A : AEnds) (D : Ends), S K B ρ δ σ → G K B ρ κ H → A.n ≤ κ.length → f A δ κ → Imp K B ρ H A D → t D σ H
structure PSa (K : Frg) (X : Cx) (st : Stmt) (t : TS) (f : AS) : Prop where
  ps : PS X st t
  sd : SS K t f
structure PSsa (K : Frg) (X : Cx) (sts : List Stmt) (t : TS) (f : AS) : Prop where
  ps : PSs X sts t
  sd : SS K t f
theorem Up.len (w : Up B ρ H B' ρ' H') (g : G K B ρ κ H) (g' : G K B' ρ' κ' H') : κ.length ≤ κ'.length := by
  rw [← g.len, ← g'.len]
  by_cases h : ρ.length = 0
  · omega
  · have h1 : ρ.length - 1 < ρ.length := by omega
    have := (List.getElem?_eq_some_iff.mp (w.p _ _ (List.getElem?_eq_getElem h1))).1
    omega

/-! ### blocks, simple statements -/
def aNext : AS := fun A δ κ => A.nx δ κ
def aSeq (f g : AS) : AS := fun A δ κ => f { A with nx := g A } δ κ
def aDrop (f : AE) : AS := fun A δ κ => f δ κ fun _ κ1 => A.nx δ κ1
def aRet (f : AE) : AS := fun A δ κ => f δ κ A.rt
def aRetN : AS := fun A _ κ => A.rt (.d .none) κ
def aBrk : AS := fun A δ κ => A.bk δ κ
def aCont : AS := fun A δ κ => A.ct δ κ
def aNever : AS := fun _ _ _ => False
def aIfS (p : AT) (f g : AS) : AS := fun A δ κ => p δ κ fun b κ1 => bsel b (f A δ κ1) (g A δ κ1)
variable {st : Stmt} {rest : List Stmt} {t1 t2 : TS} {f1 g1 : AS} {tc : TT} {pc : AT}
theorem sa_nil : PSsa K X [] tNext aNext := ⟨pss_nil, fun B ρ δ κ σ H A D s g l h i => i.nx _ _ _ _ _ _ UpN.refl g s l h⟩
theorem sa_cons (h1 : PSa K X st t1 f1) (h2 : PSsa K X rest t2 g1) : PSsa K X (st :: rest) (tSeq t1 t2) (aSeq f1 g1) :=
  ⟨pss_cons h1.ps h2.ps, fun B ρ δ κ σ H A D s g l h i => h1.sd B ρ δ κ σ H { A with nx := g1 A } { D with nx := t2 D } s g l h (i.nxTo fun B' ρ' κ' H' δ' σ' w g' s' l' h' => h2.sd _ _ _ _ _ _ _ _ s' g' l' h' (i.later w))⟩
/-- a word between a statement and the rest -/
def aCut (f g : AS) : AS := fun A δ κ => ∃ M : AD → AK → Prop, f { A with nx := M } δ κ ∧ ∀ δ' κ', M δ' κ' → A.n ≤ κ'.length → g A δ' κ'
theorem sa_cut (h1 : PSa K X st t1 f1) (h2 : PSsa K X rest t2 g1) : PSsa K X (st :: rest) (tSeq t1 t2) (aCut f1 g1) :=
  ⟨pss_cons h1.ps h2.ps, fun B ρ δ κ σ H A D s g l ⟨M, h, hM⟩ i => h1.sd B ρ δ κ σ H { A with nx := M } { D with nx := t2 D } s g l h (i.nxTo fun B' ρ' κ' H' δ' σ' w g' s' l' h' => h2.sd _ _ _ _ _ _ _ _ s' g' l' (hM _ _ h' l') (i.later w))⟩
theorem sa_one (h1 : PSa K X st t1 f1) : PSsa K X [st] t1 f1 := ⟨pss_one h1.ps, h1.sd⟩
theorem sa_pass : PSa K X (.Pass pos) tNext aNext := ⟨ps_pass, (sa_nil (X := X)).sd⟩
theorem sa_brk : PSa K X (.Break pos) tBreak aBrk := ⟨ps_break, fun B ρ δ κ σ H A D s g l h i => i.bk _ _ _ _ _ _ UpN.refl g s l h⟩
theorem sa_cont : PSa K X (.Continue pos) tCont aCont := ⟨ps_continue, fun B ρ δ κ σ H A D s g l h i => i.ct _ _ _ _ _ _ UpN.refl g s l h⟩
theorem sa_nevers {sts : List Stmt} : PSsa K X sts tNever aNever := ⟨pss_never, fun B ρ δ κ σ H A D s g l h i => h.elim⟩
theorem sa_never : PSa K X st tNever aNever := ⟨ps_never, fun B ρ δ κ σ H A D s g l h i => h.elim⟩
theorem sa_drop (h : PEa K X e t f) (hs : swapsWith e none pos.line X.env = pure false := by rfl) : PSa K X (.Expr e pos) (tDrop t) (aDrop f) :=
  ⟨ps_expr h.pe hs, fun B ρ δ κ σ H A D s g l hh i => h.sd B ρ δ κ σ H _ _ s g hh fun B' ρ' κ' H' a v w g' r h' => i.nx _ _ _ _ _ _ w.n g' (s.up w.g) (Nat.le_trans l (w.len g g')) h'⟩
theorem sa_ret (h : PEa K X e t f) : PSa K X (.Return (some e) pos) (tRet t) (aRet f) :=
  ⟨ps_ret h.pe, fun B ρ δ κ σ H A D s g l hh i => h.sd B ρ δ κ σ H _ _ s g hh fun B' ρ' κ' H' a v w g' r h' => i.rt _ _ _ _ _ _ w.n g' r (Nat.le_trans l (w.len g g')) h'⟩
theorem sa_retN : PSa K X (.Return none pos) tRetN aRetN := ⟨ps_retN, fun B ρ δ κ σ H A D s g l hh i => i.rt _ _ _ _ _ _ UpN.refl g rp_non l hh⟩
theorem sa_if {c : Expr} {bt bf : List Stmt} {u1 u2 : TS} {k1 k2 : AS} (hc : PTa K X c tc pc) (h1 : PSsa K X bt u1 k1) (h2 : PSsa K X bf u2 k2) : PSa K X (.If c bt bf pos) (tIfS tc u1 u2) (aIfS pc k1 k2) :=
  ⟨ps_if hc.pt h1.ps h2.ps, fun B ρ δ κ σ H A D s g l hh i => hc.sd B ρ δ κ σ H _ _ s g hh fun B' ρ' κ' H' b w g' h' => by
    have l' := Nat.le_trans l (w.len g g')
    cases b with
    | true => exact iteT (h1.sd _ _ _ _ _ _ _ _ (s.up w.g) g' l' h' (i.later w.n))
    | false => exact iteF (h2.sd _ _ _ _ _ _ _ _ (s.up w.g) g' l' h' (i.later w.n))⟩

variable {K : PySem.W.Frag}
/-! ### another description of the same: what is frozen, what is forgotten -/
def GhS (K : PySem.W.Frag) (n : Nat) (δ : AD) (κ : AK) (δ' : AD) (κ' : AK) : Prop := n ≤ κ'.length ∧ ∀ B ρ σ H, S K B ρ δ σ → G (Frg.of K) B ρ κ H → ∃ B' ρ', UpN n B ρ H B' ρ' H ∧ S K B' ρ' δ' σ ∧ G (Frg.of K) B' ρ' κ' H
def aGh (K : PySem.W.Frag) (f : AS) : AS := fun A δ κ => ∃ δ' κ', GhS K A.n δ κ δ' κ' ∧ f A δ' κ'
theorem ss_gh {K : Frg} {t : TS} {f : AS} (h : SS K t f) : SS K t (aGh K f) := fun B ρ δ κ σ H A D s g l ⟨δ', κ', ⟨l', gh⟩, hf⟩ i => by
  obtain ⟨B', ρ', w, s', g'⟩ := gh B ρ σ H s g.plain
  exact h B' ρ' δ' κ' σ H A D s' (g'.zone (K.up _ _ _ _ _ _ (w.mono i.kn) g.z)) l' hf (i.later w)
theorem sa_gh {K : Frg} {sts : List Stmt} (h : PSsa K X sts t1 f1) : PSsa K X sts t1 (aGh K f1) := ⟨h.ps, ss_gh h.sd⟩
theorem sa_gh1 {K : Frg} (h : PSa K X st t1 f1) : PSa K X st t1 (aGh K f1) := ⟨h.ps, ss_gh h.sd⟩
theorem GhS.refl {n : Nat} (l : n ≤ κ.length) : GhS K n δ κ δ κ := ⟨l, fun B ρ σ H s g => ⟨B, ρ, UpN.refl, s, g⟩⟩
theorem GhS.trans {n : Nat} {δ' δ2 : AD} {κ' κ2 : AK} (a : GhS K n δ κ δ' κ') (b : GhS K n δ' κ' δ2 κ2) : GhS K n δ κ δ2 κ2 := ⟨b.1, fun B ρ σ H s g => by
  obtain ⟨B', ρ', w, s', g'⟩ := a.2 B ρ σ H s g
  obtain ⟨B2, ρ2, w2, s2, g2⟩ := b.2 B' ρ' σ H s' g'
  exact ⟨B2, ρ2, w.trans w2, s2, g2⟩⟩
/-- slots forgotten -/
theorem GhS.forget {n : Nat} {δ' : AD} (l : n ≤ κ.length) (hl : δ'.length = δ.length) (h : ∀ (i : Nat) (a : AV), δ'[i]? = some (some a) → δ[i]? = some (some a)) : GhS K n δ κ δ' κ :=
  ⟨l, fun B ρ σ H s g => ⟨B, ρ, UpN.refl, ⟨hl.trans s.len, fun i a e => s.at' i a (h i a e)⟩, g⟩⟩
/-- c k is the datum x from now on -/
def fzA (k : Nat) (x : PyData) : AV → AV
  | .c j => if j = k then .d x else .c j
  | a => a
theorem Rep.fz {q : PyData} (u : Ug B ρ B' ρ) (hk : ∀ p, ρ[k]? = some p → Dp K B' (.ref p) q) {a : AV} {v : V} (r : Rep K B ρ a v) : Rep K B' ρ (fzA k q a) v := by
  cases a with
  | d x => exact Rep.up u r
  | r w => exact r
  | c j =>
    show Rep K B' ρ (if j = k then .d q else .c j) v
    by_cases e : j = k
    · rw [if_pos e]
      obtain ⟨p, hp, rfl⟩ := r
      subst e
      exact hk p hp
    · rw [if_neg e]
      exact Rep.up u r
def fzC (k : Nat) (x : PyData) : Cell → Cell
  | .lst xs => .lst (xs.map (fzA k x))
  | .tup xs => .tup (xs.map (fzA k x))
  | .ins C fs => .ins C (fs.map fun p => (p.1, fzA k x p.2))
  | c => c
theorem Reps.fz {q : PyData} (u : Ug B ρ B' ρ) (hk : ∀ p, ρ[k]? = some p → Dp K B' (.ref p) q) : ∀ {as : List AV} {vs : List V}, Reps K B ρ as vs → Reps K B' ρ (as.map (fzA k q)) vs
  | _, _, .nil => .nil
  | _, _, .cons h1 h2 => .cons (h1.fz u hk) (Reps.fz u hk h2)
theorem RepKs.fz {ι : Type} {q : PyData} (u : Ug B ρ B' ρ) (hk : ∀ p, ρ[k]? = some p → Dp K B' (.ref p) q) : ∀ {as : List (ι × AV)} {vs : List (ι × V)}, RepKs K B ρ as vs → RepKs K B' ρ (as.map fun p => (p.1, fzA k q p.2)) vs
  | _, _, .nil => .nil
  | _, _, .cons h1 h2 => .cons ⟨h1.1, h1.2.fz u hk⟩ (RepKs.fz u hk h2)
/-- the list at k is frozen -/
theorem freeze_core (g : G (Frg.of K) B ρ κ H) {xs : List PyData} (ek : κ[k]? = some (.ld xs)) : ∃ B' p, ρ[k]? = some p ∧ Up B ρ H B' ρ H ∧ Dp K B' (.ref p) (.list xs) ∧ G (Frg.of K) B' ρ ((κ.set k .dead).map (fzC k (.list xs))) H := by
  obtain ⟨p, hp, hb, vs, d, eH⟩ := g.cell ek
  have hsame : Same B (upd B p (.lst vs)) := same_upd hb
  have hB : (upd B p (.lst vs)) p = some (.lst vs) := upd_same
  have u : Up B ρ H (upd B p (.lst vs)) ρ H := ⟨hsame, fun _ _ h => h, fun q o h1 h2 h3 => by
    have hq : q ≠ p := fun e => h3 (e ▸ mem_of_get hp)
    rw [upd_ne hq]; exact ⟨h1, h2, h3⟩⟩
  have dd : Dp K (upd B p (.lst vs)) (.ref p) (.list xs) := .lst (.inl (.inl hB)) (dpa_up hsame _ _ d)
  have hk : ∀ q, ρ[k]? = some q → Dp K (upd B p (.lst vs)) (.ref q) (.list xs) := fun q hq => by rw [hp] at hq; cases hq; exact dd
  refine ⟨_, p, hp, u, dd, ⟨fun b o e => ?_, by simp [g.len], g.inj, fun i q c h1 h2 => ?_, True.intro⟩⟩
  · by_cases hbp : b = p
    · subst hbp; rw [upd_same] at e; rw [eH]; exact e
    · rw [upd_ne hbp] at e; exact g.ex b o e
  · rw [List.getElem?_map] at h2
    by_cases e : k = i
    · subst e
      rw [hp] at h1; cases h1
      rw [List.getElem?_set_self (List.getElem?_eq_some_iff.mp ek).1] at h2
      cases h2
      show H p ≠ none
      rw [eH]; simp
    · rw [List.getElem?_set_ne e] at h2
      have hq : q ≠ p := fun z => by subst z; exact e (g.inj k i q hp h1)
      obtain ⟨c0, hc0, rfl⟩ := Option.map_eq_some_iff.mp h2
      have ok := g.at' i q c0 h1 hc0
      have hbq : ∀ {z}, B q = z → upd B p (.lst vs) q = z := fun h => by rw [upd_ne hq]; exact h
      cases c0 with
      | dead => exact ok
      | ld ys => obtain ⟨n, ws, r, e⟩ := ok; exact ⟨hbq n, ws, dpa_up hsame _ _ r, e⟩
      | lst ys => obtain ⟨n, ws, r, e⟩ := ok; exact ⟨hbq n, ws, Reps.fz u.g hk r, e⟩
      | tup ys => obtain ⟨ws, r, e⟩ := ok; exact ⟨ws, Reps.fz u.g hk r, e⟩
      | dK ys => obtain ⟨n, ws, r, e⟩ := ok; exact ⟨hbq n, ws, DpKs.up hsame r, e⟩
      | dT ys => obtain ⟨n, ws, r, e⟩ := ok; exact ⟨hbq n, ws, DpKs.up hsame r, e⟩
      | ins C ys => obtain ⟨n, dx, ws, r, e⟩ := ok; exact ⟨hbq n, dx, ws, RepKs.fz u.g hk r, e⟩
theorem GhS.freeze {n : Nat} (l : n ≤ κ.length) (k : Nat) (xs : List PyData) (ek : κ[k]? = some (.ld xs)) : GhS K n δ κ (δ.map (Option.map (fzA k (.list xs)))) ((κ.set k .dead).map (fzC k (.list xs))) := by
  refine ⟨by simpa using l, fun B ρ σ H s g => ?_⟩
  obtain ⟨B', p, hp, u, dd, g'⟩ := freeze_core g ek
  refine ⟨B', ρ, u.n, ⟨by simpa using s.len, fun i a e => ?_⟩, g'⟩
  rw [List.getElem?_map] at e
  obtain ⟨o, ho, e⟩ := Option.map_eq_some_iff.mp e
  obtain ⟨a0, rfl, rfl⟩ := Option.map_eq_some_iff.mp e
  obtain ⟨v, e1, r⟩ := s.at' i a0 ho
  exact ⟨v, e1, r.fz u.g fun q hq => by rw [hp] at hq; cases hq; exact dd⟩
/-- references below n -/
def okA (n : Nat) : AV → Bool
  | .c k => decide (k < n)
  | _ => true
def okC (n : Nat) : Cell → Bool
  | .lst xs => xs.all (okA n)
  | .tup xs => xs.all (okA n)
  | .ins _ fs => fs.all fun p => okA n p.2
  | _ => true
theorem Rep.cut {m : Nat} (h : okA m a = true) (r : Rep K B ρ a v) : Rep K B (ρ.take m) a v := by
  cases a with
  | d x => exact r
  | r w => exact r
  | c j =>
    obtain ⟨p, hp, e⟩ := r
    have hj : j < m := of_decide_eq_true h
    exact ⟨p, by rw [List.getElem?_take_of_lt hj]; exact hp, e⟩
theorem Reps.cutR {m : Nat} : ∀ {as : List AV} {vs : List V}, as.all (okA m) = true → Reps K B ρ as vs → Reps K B (ρ.take m) as vs
  | _, _, _, .nil => .nil
  | _, _, h, .cons h1 h2 => by
    rw [List.all_cons, Bool.and_eq_true] at h
    exact .cons (h1.cut h.1) (Reps.cutR h.2 h2)
theorem RepKs.cutR {ι : Type} {m : Nat} : ∀ {as : List (ι × AV)} {vs : List (ι × V)}, (as.all fun p => okA m p.2) = true → RepKs K B ρ as vs → RepKs K B (ρ.take m) as vs
  | _, _, _, .nil => .nil
  | _, _, h, .cons h1 h2 => by
    rw [List.all_cons, Bool.and_eq_true] at h
    exact .cons ⟨h1.1, h1.2.cut h.1⟩ (RepKs.cutR h.2 h2)
theorem G.take (g : G (Frg.of K) B ρ κ H) (m : Nat) (h : (κ.take m).all (okC m) = true) : G (Frg.of K) B (ρ.take m) (κ.take m) H := by
  refine ⟨g.ex, by rw [List.length_take, List.length_take, g.len], fun i j p h1 h2 => ?_, fun i p c h1 h2 => ?_, True.intro⟩
  · have e1 : ρ[i]? = some p := by
      have := (List.getElem?_eq_some_iff.mp h1).1
      rw [List.length_take] at this
      rw [List.getElem?_take_of_lt (by omega)] at h1; exact h1
    have e2 : ρ[j]? = some p := by
      have := (List.getElem?_eq_some_iff.mp h2).1
      rw [List.length_take] at this
      rw [List.getElem?_take_of_lt (by omega)] at h2; exact h2
    exact g.inj i j p e1 e2
  · have hi : i < m := by
      have := (List.getElem?_eq_some_iff.mp h1).1
      rw [List.length_take] at this; omega
    have hc : okC m c = true := List.all_eq_true.mp h c (mem_of_get h2)
    rw [List.getElem?_take_of_lt hi] at h1 h2
    have ok := g.at' i p c h1 h2
    cases c with
    | dead => exact ok
    | ld ys => exact ok
    | lst ys => obtain ⟨n, ws, r, e⟩ := ok; exact ⟨n, ws, Reps.cutR hc r, e⟩
    | tup ys => obtain ⟨ws, r, e⟩ := ok; exact ⟨ws, Reps.cutR hc r, e⟩
    | dK ys => exact ok
    | dT ys => exact ok
    | ins C ys => obtain ⟨n, dx, ws, r, e⟩ := ok; exact ⟨n, dx, ws, RepKs.cutR hc r, e⟩
theorem UpN.take {n m : Nat} (h : n ≤ m) : UpN n B ρ H B (ρ.take m) H := ⟨Same.refl B, fun i a hi e => by rw [List.getElem?_take_of_lt (Nat.lt_of_lt_of_le hi h)]; exact e, fun p o h1 h2 h3 => ⟨h1, h2, fun z => h3 (List.mem_of_mem_take z)⟩⟩
def okD (n : Nat) (δ : AD) : Bool := δ.all fun o => match o with
  | some a => okA n a
  | none => true
/-- the cells from m on are forgotten -/
theorem GhS.take {n : Nat} (m : Nat) (l : n ≤ m) (l2 : m ≤ κ.length) (h : (κ.take m).all (okC m) = true) (hd : okD m δ = true) : GhS K n δ κ δ (κ.take m) := by
  refine ⟨by rw [List.length_take]; omega, fun B ρ σ H s g => ⟨B, ρ.take m, UpN.take l, ⟨s.len, fun i a e => ?_⟩, g.take m h⟩⟩
  obtain ⟨v, e1, r⟩ := s.at' i a e
  have := List.all_eq_true.mp hd (some a) (mem_of_get e)
  exact ⟨v, e1, r.cut this⟩
/-- of a value -/
def GhR (K : PySem.W.Frag) (n : Nat) (a : AV) (κ : AK) (a' : AV) (κ' : AK) : Prop := n ≤ κ'.length ∧ ∀ B ρ H v, G (Frg.of K) B ρ κ H → Rep K B ρ a v → ∃ B' ρ', UpN n B ρ H B' ρ' H ∧ Rep K B' ρ' a' v ∧ G (Frg.of K) B' ρ' κ' H
theorem GhR.refl {n : Nat} (l : n ≤ κ.length) : GhR K n a κ a κ := ⟨l, fun B ρ H v g r => ⟨B, ρ, UpN.refl, r, g⟩⟩
theorem GhR.trans {n : Nat} {a' a2 : AV} {κ' κ2 : AK} (x : GhR K n a κ a' κ') (y : GhR K n a' κ' a2 κ2) : GhR K n a κ a2 κ2 := ⟨y.1, fun B ρ H v g r => by
  obtain ⟨B', ρ', w, s', g'⟩ := x.2 B ρ H v g r
  obtain ⟨B2, ρ2, w2, s2, g2⟩ := y.2 B' ρ' H v g' s'
  exact ⟨B2, ρ2, w.trans w2, s2, g2⟩⟩
theorem GhR.freeze {n : Nat} (l : n ≤ κ.length) (k : Nat) (xs : List PyData) (ek : κ[k]? = some (.ld xs)) : GhR K n a κ (fzA k (.list xs) a) ((κ.set k .dead).map (fzC k (.list xs))) := by
  refine ⟨by simpa using l, fun B ρ H v g r => ?_⟩
  obtain ⟨B', p, hp, u, dd, g'⟩ := freeze_core g ek
  exact ⟨B', ρ, u.n, r.fz u.g fun q hq => by rw [hp] at hq; cases hq; exact dd, g'⟩
theorem GhR.take {n : Nat} (m : Nat) (l : n ≤ m) (l2 : m ≤ κ.length) (h : (κ.take m).all (okC m) = true) (hd : okA m a = true) : GhR K n a κ a (κ.take m) :=
  ⟨by rw [List.length_take]; omega, fun B ρ H v g r => ⟨B, ρ.take m, UpN.take l, r.cut hd, g.take m h⟩⟩
end Ab
set_option Elab.async false
set_option linter.all false
set_option maxRecDepth 100000
set_option maxHeartbeats 4000000
/-! Ab5: targets, what is walked, loops, comprehensions -/
namespace Ab
open PySem L2
variable {K : Frg} {B B' B2 H H' H2 : Hp} {ρ ρ' ρ2 : List Addr} {κ κ' : AK} {δ : AD} {σ : L2.St} {p : Addr} {k : Nat} {v x y z : V} {a b c : AV}
variable {X : Cx} {e e2 : Expr} {t u : TE} {f f2 : AE} {pos : Pos}

/-! ### targets -/
abbrev AG := AV → AD → AK → (AD → AK → Prop) → Prop
abbrev AGs := List AV → AD → AK → (AD → AK → Prop) → Prop
def SG (K : Frg) (t : TG) (g : AG) : Prop := ∀ B ρ δ κ σ H a v (R : AD → AK → Prop) (Q : L2.St → Hp → Prop), S K B ρ δ σ → G K B ρ κ H → Rep K B ρ a v → g a δ κ R →
  (∀ B' ρ' δ' κ' σ' H', Up B ρ H B' ρ' H' → S K B' ρ' δ' σ' → G K B' ρ' κ' H' → R δ' κ' → Q σ' H') → t v σ H Q
def SGs (K : Frg) (t : TGs) (g : AGs) : Prop := ∀ B ρ δ κ σ H as vs (R : AD → AK → Prop) (Q : L2.St → Hp → Prop), S K B ρ δ σ → G K B ρ κ H → Reps K B ρ as vs → g as δ κ R →
  (∀ B' ρ' δ' κ' σ' H', Up B ρ H B' ρ' H' → S K B' ρ' δ' σ' → G K B' ρ' κ' H' → R δ' κ' → Q σ' H') → t vs σ H Q
structure PGa (K : Frg) (X : Cx) (tg : Expr) (t : TG) (g : AG) : Prop where
  pg : PG X tg t
  sd : SG K t g
structure PGsa (K : Frg) (X : Cx) (tgs : List Expr) (t : TGs) (g : AGs) : Prop where
  pg : PGs X tgs t
  sd : SGs K t g
def aName (i : Nat) : AG := fun a δ κ R => R (δ.set i (some a)) κ
def aGNil : AGs := fun as δ κ R => match as with
  | [] => R δ κ
  | _ => False
def aGCons (g : AG) (gs : AGs) : AGs := fun as δ κ R => match as with
  | a :: r => g a δ κ fun δ' κ' => gs r δ' κ' R
  | [] => False
/-- a tuple is taken apart -/
def aGTup (n : Nat) (gs : AGs) : AG := fun a δ κ R => match a with
  | .d (.tuple ds) => ds.length = n ∧ gs (ds.map .d) δ κ R
  | .c k => match κ[k]? with
    | some (.tup xs) => xs.length = n ∧ gs xs δ κ R
    | _ => False
  | _ => False
theorem ga_name {i : Nat} {x : Str} (hN : X.N.Nodup) (hi : X.N[i]? = some x) (hx : Loc X.env.scope x) (hf : X.fn x = true ∨ X.env.scope.names.lookup x = some .local := by first | exact .inl rfl | exact .inr rfl | assumption) : PGa K X (.Name x pos) (gName i) (aName i) :=
  ⟨pg_name hN hi hx hf, fun B ρ δ κ σ H a v R Q s g r h q => q _ _ _ _ _ _ Up.refl (s.set r) g h⟩
variable {es : List Expr} {tg : TG} {tgs : TGs} {ag : AG} {ags : AGs}
theorem gsa_nil : PGsa K X [] gNil aGNil := ⟨pgs_nil, fun B ρ δ κ σ H as vs R Q s g r h q => by
  unfold aGNil at h
  split at h
  · cases r; exact ⟨rfl, q _ _ _ _ _ _ Up.refl s g h⟩
  · exact h.elim⟩
theorem gsa_cons (h1 : PGa K X e tg ag) (h2 : PGsa K X es tgs ags) (hs : (assignEach (e :: es) X.env).map (·.2) = assign e X.env :: (assignEach es X.env).map (·.2) := by rfl) : PGsa K X (e :: es) (gCons tg tgs) (aGCons ag ags) :=
  ⟨pgs_cons h1.pg h2.pg hs, fun B ρ δ κ σ H as vs R Q s g r h q => by
    unfold aGCons at h
    split at h
    · cases r with
      | cons r1 r2 =>
        exact ⟨_, _, rfl, h1.sd _ _ _ _ _ _ _ _ _ _ s g r1 h fun B' ρ' δ' κ' σ' H' w s' g' h' => h2.sd _ _ _ _ _ _ _ _ _ _ s' g' (Reps.up w.g r2) h' fun _ _ _ _ _ _ w2 s2 g2 k2 => q _ _ _ _ _ _ (w.trans w2) s2 g2 k2⟩
    · exact h.elim⟩
theorem ga_tup {kk : Nat} {n : Nat} (hc : X.calm = true) (h : PGsa K X es tgs ags) (hn : (assignEach es X.env).length = n := by rfl) (hst : (assignEach es X.env).findIdx? (·.1) = none := by rfl) (hK : X.K = K := by rfl) : PGa K X (.Tuple es kk pos) (gTup K n tgs) (aGTup n ags) := by
  obtain ⟨K, Kn, KZ, Ku⟩ := K
  change X.K = K at hK
  subst hK
  exact ⟨pg_tup hc h.pg hn hst, fun B ρ δ κ σ H a v R Q s g r hh q => by
    unfold aGTup at hh
    split at hh
    · obtain ⟨p, vs, rfl, s1, d1⟩ := of_tupG g r
      exact ⟨p, vs, rfl, s1, by rw [dpa_len d1]; exact hh.1, h.sd _ _ _ _ _ _ _ _ _ _ s g (Reps.all d1) hh.2 q⟩
    · obtain ⟨p, hp, rfl⟩ := r
      split at hh
      · rename_i xs ek
        obtain ⟨p', hp', vs, r, eH⟩ := g.cell ek
        rw [hp] at hp'; cases hp'
        exact ⟨p, vs, rfl, .inl (.inl eH), by rw [← r.len]; exact hh.1, h.sd _ _ _ _ _ _ _ _ _ _ s g r hh.2 q⟩
      · exact hh.elim
    · exact hh.elim⟩
/-- o[i] = v -/
abbrev ASet := AV → AV → AV → AK → (AK → Prop) → Prop
def SSet (K : Frg) (t : TSet) (f : ASet) : Prop := ∀ B ρ κ H o i v ao ai a (R : AK → Prop) (Q : Hp → Prop), G K B ρ κ H → Rep K B ρ ao o → Rep K B ρ ai i → Rep K B ρ a v → f ao ai a κ R →
  (∀ B' ρ' κ' H', Up B ρ H B' ρ' H' → G K B' ρ' κ' H' → R κ' → Q H') → t o i v H Q
structure SetA (K : Frg) (X : Cx) (t : TSet) (f : ASet) : Prop where
  s : PSet X t
  sd : SSet K t f
def aGSub (fo fi : AE) (fs : ASet) : AG := fun a δ κ R => fo δ κ fun o κ1 => fi δ κ1 fun i κ2 => fs o i a κ2 fun κ3 => R δ κ3
theorem ga_sub {o i : Expr} {to ti : TE} {ts : TSet} {fo fi : AE} {fs : ASet} (ho : PEa K X o to fo) (hi : PEa K X i ti fi) (hs : SetA K X ts fs)
    (ha : ∀ v, assign (.Subscript o i pos) X.env v = (do
      let ov ← holding [v] (eval o X.env)
      let iv ← holding [v, ov] (eval i X.env)
      standAt pos
      holding [v, ov, iv] (setItem ov iv v)
      release [v, ov, iv] []) := by intro _; rfl) : PGa K X (.Subscript o i pos) (gSub to ti ts) (aGSub fo fi fs) :=
  ⟨pg_sub ho.pe hi.pe hs.s ha, fun B ρ δ κ σ H a v R Q s g r h q => ho.sd _ _ _ _ _ _ _ _ s g h fun B1 ρ1 κ1 H1 ao vo w1 g1 r1 h1 => hi.sd _ _ _ _ _ _ _ _ (s.up w1.g) g1 h1 fun B2 ρ2 κ2 H2 ai vi w2 g2 r2 h2 =>
    hs.sd _ _ _ _ _ _ _ _ _ _ _ _ g2 (r1.up w2.g) r2 (r.up (w1.trans w2).g) h2 fun B3 ρ3 κ3 H3 w3 g3 h3 => q _ _ _ _ _ _ ((w1.trans w2).trans w3) (s.up ((w1.trans w2).trans w3).g) g3 h3⟩
def aSetL : ASet := fun o i a κ R => match o, i with
  | .c k, .d (.int i) => match κ[k]?, a with
    | some (.ld xs), .d x => ∃ j, ixN xs.length i = some j ∧ R (κ.set k (.ld (xs.set j x)))
    | some (.lst xs), a => ∃ j, ixN xs.length i = some j ∧ R (κ.set k (.lst (xs.set j a)))
    | _, _ => False
  | _, _ => False
theorem dpa_set : ∀ {ds : List PyData} {vs : List V} (i : Nat) {d : PyData} {v : V}, DpAll K B vs ds → Dp K B v d → DpAll K B (vs.set i v) (ds.set i d)
  | [], _, _, _, _, h, _ => by cases h; exact .nil
  | d :: ds, _, i, _, _, h, r => by
    cases h with
    | cons h1 h2 =>
      cases i with
      | zero => exact .cons r h2
      | succ i => exact .cons h1 (dpa_set i h2 r)
theorem sta_list : SetA K X rSetL aSetL := ⟨set_list, fun B ρ κ H o i v ao ai a R Q g ro ri rv h q => by
  unfold aSetL at h
  split at h
  · obtain ⟨p, hp, rfl⟩ := ro
    cases ri.int
    split at h
    · rename_i xs x ek
      obtain ⟨j, hj, h⟩ := h
      obtain ⟨vs, r, eH, wr⟩ := g.ldAt hp ek
      obtain ⟨w, g'⟩ := wr _ _ (dpa_set j r rv)
      exact ⟨p, vs, _, j, rfl, rfl, eH, by rw [dpa_len r]; exact hj, q _ _ _ _ w g' h⟩
    · rename_i xs a ek
      obtain ⟨j, hj, h⟩ := h
      obtain ⟨vs, r, eH, wr⟩ := g.lstAt hp ek
      obtain ⟨w, g'⟩ := wr _ _ (r.set j rv)
      exact ⟨p, vs, _, j, rfl, rfl, eH, by rw [← r.len]; exact hj, q _ _ _ _ w g' h⟩
    · exact h.elim
  · exact h.elim⟩

/-! ### assignments -/
def aAsg (f : AE) (g : AG) : AS := fun A δ κ => f δ κ fun a κ1 => g a δ κ1 A.nx
abbrev aSet (i : Nat) (f : AE) : AS := aAsg f (aName i)
theorem ss_asg (h : SE K t f) (hg : SG K tg ag) : SS K (tAsg t tg) (aAsg f ag) := fun B ρ δ κ σ H A D s g l hh i => h B ρ δ κ σ H _ _ s g hh fun B1 ρ1 κ1 H1 a v w1 g1 r1 h1 =>
  hg _ _ _ _ _ _ _ _ _ _ (s.up w1.g) g1 r1 h1 fun B2 ρ2 δ2 κ2 σ2 H2 w2 s2 g2 h2 => i.nx _ _ _ _ _ _ (w1.trans w2).n g2 s2 (Nat.le_trans l ((w1.trans w2).len g g2)) h2
theorem sa_asg {tge : Expr} (h : PEa K X e t f) (hg : PGa K X tge tg ag) (hs : swapsWithSole [tge] e pos.line X.env = pure false := by rfl) (hw : swappedStores [tge] e X.env = pure none := by rfl)
    (h1 : (assignEach [tge] X.env).map (·.2) = [assign tge X.env] := by rfl) : PSa K X (.Assign [tge] e pos) (tAsg t tg) (aAsg f ag) := ⟨ps_asg h.pe hg.pg hs hw h1, ss_asg h.sd hg.sd⟩
theorem sg_name {i : Nat} : SG K (gName i) (aName i) := fun B ρ δ κ σ H a v R Q s g r h q => q _ _ _ _ _ _ Up.refl (s.set r) g h
theorem sa_set {i : Nat} {x : Str} {pos' : Pos} (hN : X.N.Nodup) (hi : X.N[i]? = some x) (hx : Loc X.env.scope x) (h : PEa K X e t f) (hs : swapsWith e (some (.Name x pos')) pos.line X.env = pure false := by rfl) (hf : X.fn x = true ∨ X.env.scope.names.lookup x = some .local := by first | exact .inl rfl | exact .inr rfl | assumption) :
    PSa K X (.Assign [.Name x pos'] e pos) (tAsg t (gName i)) (aSet i f) := ⟨ps_set hN hi hx h.pe hs hf, ss_asg h.sd sg_name⟩
/-- x += e -/
def aAug (i : Nat) (f : AE) (o : AO) : AS := fun A δ κ => match δ[i]? with
  | some (some a) => f δ κ fun b κ1 => o a b κ1 fun c κ2 => A.nx (δ.set i (some c)) κ2
  | _ => False
theorem sa_aug {i : Nat} {x : Str} {pos' : Pos} {op : Operator} {ti : TIp} {o : AO} (hN : X.N.Nodup) (hi : X.N[i]? = some x) (hx : Loc X.env.scope x) (h : PEa K X e t f) (ho : PIp X op ti) (hs : SR K ti o)
    (hf : X.fn x = true ∨ X.env.scope.names.lookup x = some .local := by first | exact .inl rfl | exact .inr rfl | assumption) : PSa K X (.AugAssign (.Name x pos') op e pos) (tAug i t ti) (aAug i f o) :=
  ⟨ps_aug hN hi hx h.pe ho hf, fun B ρ δ κ σ H A D s g l hh im => by
    unfold aAug at hh
    split at hh
    · rename_i a ea
      obtain ⟨v, ev, r⟩ := s.at' i a ea
      refine ⟨v, ev, h.sd B ρ δ κ σ H _ _ s g hh fun B1 ρ1 κ1 H1 b vb w1 g1 r1 h1 => ?_⟩
      refine hs _ _ _ _ _ _ _ _ _ _ g1 (r.up w1.g) r1 h1 fun B2 ρ2 κ2 H2 c vc w2 g2 r2 h2 => ?_
      exact im.nx _ _ _ _ _ _ (w1.trans w2).n g2 ((s.up (w1.trans w2).g).set r2) (Nat.le_trans l ((w1.trans w2).len g g2)) h2
    · exact hh.elim⟩
theorem sr_ipI {f : Int → Int → Int} : SR K (ipI f) (aI0 f) := sr_I0
theorem sa_inc {i : Nat} {x : Str} {pos' : Pos} (hN : X.N.Nodup) (hi : X.N[i]? = some x) (hx : Loc X.env.scope x) (h : PEa K X e t f)
    (hf : X.fn x = true ∨ X.env.scope.names.lookup x = some .local := by first | exact .inl rfl | exact .inr rfl | assumption) : PSa K X (.AugAssign (.Name x pos') .Add e pos) (tAug i t (ipI fun i j => i + j)) (aAug i f (aI0 fun i j => i + j)) := sa_aug hN hi hx h ip_add sr_ipI hf

/-! ### while -/
variable {t1 t2 : TS} {f1 g1 : AS} {tc : TT} {pc : AT}
def aWhile (p : AT) (f : AS) : AS := fun A δ κ => ∃ W : Nat → AD → AK → Prop, (∃ m, W m δ κ) ∧ ∀ m δ' κ', W m δ' κ' → κ.length ≤ κ'.length →
  p δ' κ' fun b κ1 => bsel b (∃ N : AD → AK → Prop, (∀ δ2 κ2, N δ2 κ2 → ∃ m', m' < m ∧ W m' δ2 κ2) ∧ f { n := κ.length, nx := N, ct := N, bk := A.nx, rt := A.rt } δ' κ1) (A.nx δ' κ1)
/-- a later state, seen from the loop's start -/
def Later (K : Frg) (B : Hp) (ρ : List Addr) (H : Hp) (n : Nat) (P : AD → AK → Prop) (σ : L2.St) (H' : Hp) : Prop := ∃ B' ρ' δ' κ', UpN n B ρ H B' ρ' H' ∧ S K B' ρ' δ' σ ∧ G K B' ρ' κ' H' ∧ n ≤ κ'.length ∧ P δ' κ'
theorem sa_while {c : Expr} {body : List Stmt} (hp : PassesOwn (model X.prog X.w) X.A X.env X.xe) (hc : PTa K X c tc pc) (hb : PSsa K X body t1 f1) : PSa K X (.While c body [] pos) (tWhile tc t1) (aWhile pc f1) :=
  ⟨ps_while hp hc.pt hb.ps, fun B ρ δ κ σ H A D s g l ⟨W, ⟨m0, w0⟩, turn⟩ im => by
    refine ⟨fun m σ' H' => Later K B ρ H κ.length (W m) σ' H', ⟨m0, B, ρ, δ, κ, UpN.refl, s, g, Nat.le_refl _, w0⟩, fun m σ' H' hW => ?_⟩
    obtain ⟨B1, ρ1, δ1, κ1, w1, s1, g1, l1, hw⟩ := hW
    refine hc.sd B1 ρ1 δ1 κ1 σ' H' _ _ s1 g1 (turn m δ1 κ1 hw l1) fun B2 ρ2 κ2 H2 b w2 g2 h2 => ?_
    have l2 : κ.length ≤ κ2.length := Nat.le_trans l1 (w2.len g1 g2)
    have w12 : UpN κ.length B ρ H B2 ρ2 H2 := w1.trans w2.n
    have im2 := im.later (w12.mono l)
    cases b with
    | false => exact iteF (im.nx _ _ _ _ _ _ (w12.mono l) g2 (s1.up w2.g) (Nat.le_trans l l2) h2)
    | true =>
      obtain ⟨N, hN, h2⟩ := h2
      refine iteT ⟨fun σ3 H3 => Later K B ρ H κ.length N σ3 H3, ?_, ?_⟩
      · rintro σ3 H3 ⟨B3, ρ3, δ3, κ3, w3, s3, g3, l3, hn⟩
        obtain ⟨m', hm, hw'⟩ := hN _ _ hn
        exact ⟨m', hm, B3, ρ3, δ3, κ3, w3, s3, g3, l3, hw'⟩
      · refine hb.sd B2 ρ2 δ1 κ2 σ' H2 _ _ (s1.up w2.g) g2 l2 h2 ⟨?_, ?_, ?_, ?_, Nat.le_trans im.kn l⟩
        · exact fun B3 ρ3 κ3 H3 δ3 σ3 w3 g3 s3 l3 h3 => ⟨B3, ρ3, δ3, κ3, w12.trans w3, s3, g3, l3, h3⟩
        · exact fun B3 ρ3 κ3 H3 a v w3 g3 r3 l3 h3 => im.rt _ _ _ _ _ _ ((w12.trans w3).mono l) g3 r3 (Nat.le_trans l l3) h3
        · exact fun B3 ρ3 κ3 H3 δ3 σ3 w3 g3 s3 l3 h3 => im.nx _ _ _ _ _ _ ((w12.trans w3).mono l) g3 s3 (Nat.le_trans l l3) h3
        · exact fun B3 ρ3 κ3 H3 δ3 σ3 w3 g3 s3 l3 h3 => ⟨B3, ρ3, δ3, κ3, w12.trans w3, s3, g3, l3, h3⟩⟩

/-! ### what is walked -/
structure AIt where
  go : Nat → AK → Prop
  yld : Nat → AK → AV → Prop
  stop : Nat → AK → Prop
def RI (K : Frg) (B : Hp) (ρ : List Addr) (H : Hp) (J : It) (Ja : AIt) : Prop := ∀ B2 ρ2 κ2 H2, Up B ρ H B2 ρ2 H2 → G K B2 ρ2 κ2 H2 → ∀ i, (Ja.stop i κ2 → J.stop i H2) ∧
  (Ja.go i κ2 → J.go i H2 ∧ ∀ x H3, J.yld i H2 x H3 → ∃ B3 a, Up B2 ρ2 H2 B3 ρ2 H3 ∧ G K B3 ρ2 κ2 H3 ∧ Rep K B3 ρ2 a x ∧ Ja.yld i κ2 a)
abbrev AI := AD → AK → (AIt → AK → Prop) → Prop
def SI (K : Frg) (wi : TI) (ai : AI) : Prop := ∀ B ρ δ κ σ H (R : AIt → AK → Prop) (Q : It → Hp → Prop), S K B ρ δ σ → G K B ρ κ H → ai δ κ R →
  (∀ B' ρ' κ' H' J Ja, Up B ρ H B' ρ' H' → G K B' ρ' κ' H' → RI K B' ρ' H' J Ja → R Ja κ' → Q J H') → wi σ H Q
structure PIa (K : Frg) (X : Cx) (tg iter : Expr) (wi : TI) (ai : AI) : Prop where
  pi : PI X tg iter wi
  sd : SI K wi ai
/-- known items -/
def itD (xs : List PyData) : AIt := ⟨fun i _ => i < xs.length, fun i _ a => ∃ x, xs[i]? = some x ∧ a = .d x, fun i _ => xs.length ≤ i⟩
/-- the list at k, as it stands at each turn -/
def itC (k : Nat) : AIt := ⟨fun i κ => ∃ xs, κ[k]? = some (.ld xs) ∧ i < xs.length, fun i κ a => ∃ xs x, κ[k]? = some (.ld xs) ∧ xs[i]? = some x ∧ a = .d x, fun i κ => ∃ xs, κ[k]? = some (.ld xs) ∧ xs.length ≤ i⟩
def itR (lo : Int) (n : Nat) : AIt := ⟨fun i _ => i < n, fun i _ a => a = .d (.int (lo + i)), fun i _ => n ≤ i⟩
def itS (s : Str) : AIt := ⟨fun i _ => i < s.cps.size, fun i _ a => ∃ c, s.cps[i]? = some c ∧ a = .d (.str ⟨#[c]⟩), fun i _ => s.cps.size ≤ i⟩
def aIter (f : AE) : AI := fun δ κ R => f δ κ fun a κ1 => match a with
  | .d (.list xs) => R (itD xs) κ1
  | .d (.tuple xs) => R (itD xs) κ1
  | .d (.str s) => R (itS s) κ1
  | .c k => match κ1[k]? with
    | some (.ld _) => R (itC k) κ1
    | _ => False
  | _ => False
/-- a list, a tuple, a text: told by the value -/
def iAny (K : PySem.W.Frag) (tl : TE) : TI := fun σ H R => tl σ H fun w H1 =>
  (∃ a, w = .ref a ∧ (∃ ys, SqL K H1 a ys) ∧ R (Itl K a) H1) ∨ (∃ a, w = .ref a ∧ (∃ ys, SqT K H1 a ys) ∧ R (Itt K a) H1) ∨ ∃ z, w = .str z ∧ R (Its z) H1
theorem fresh_in {X : Cx} {pins : List (Addr × Obj)} {τ : L2.St} {H1 : Hp} {s1 : Shared} (I1 : Inv X pins τ H1 s1) {b : Addr} (hb : b ∈ [s1.heap.objs.size]) : FpOk X pins H1 b := by
  rcases List.mem_singleton.mp hb with rfl
  exact I1.fpOk Nat.le.refl (I1.hok.fresh Nat.le.refl)
theorem pi_any {X : Cx} {tge l : Expr} {tl : TE} (hl : PE X l tl) : PI X tge l (iAny X.K tl) := by
  constructor
  intro pins s τ H R I hw
  refine thn (hl.run pins s τ H _ I hw) ?_
  rintro u s1 ⟨w, H1, I1, ru, hq⟩
  rcases hq with ⟨a, rfl, ⟨ys, hy⟩, q⟩ | ⟨a, rfl, ⟨ys, hy⟩, q⟩ | ⟨z, rfl, q⟩
  · cases ru
    have ⟨its, _, pl, _⟩ := I1.list hy
    exact wpAny_pyIter_list pl.isList ⟨_, [s1.heap.objs.size], _, _, _, rfl, I1.kept fun _ _ => Heap.get?_push_of_some _, turn_list a _, ⟨_, Heap.get?_push_size _ rfl, rfl, rfl⟩, fun _ => fresh_in I1, q⟩
  · cases ru
    have ⟨its, _, pt, _⟩ := I1.tuple hy
    exact wpAny_pyIter_tuple pt ⟨_, [s1.heap.objs.size], _, _, _, rfl, I1.kept fun _ _ => Heap.get?_push_of_some _, turn_tuple a _, ⟨_, Heap.get?_push_size _ rfl, rfl, rfl⟩, fun _ => fresh_in I1, q⟩
  · obtain ⟨tk, rfl⟩ := ru
    by_cases hz : z.cps.all (· < 128) = true
    · exact wpAny_pyIter_ascii hz (pi_one (tk := s1.toks) I1 _ (turn_str _ z tk "str_ascii_iterator" (Or.inl rfl)) ⟨_, Heap.get?_push_size _ rfl, rfl, rfl⟩ q)
    · have hz' : z.cps.all (· < 128) = false := by simpa using hz
      exact wpAny_pyIter_wide hz' (pi_one (tk := s1.toks) I1 _ (turn_str _ z tk "str_iterator" (Or.inr rfl)) ⟨_, Heap.get?_push_size _ rfl, rfl, rfl⟩ q)
theorem getLt {α : Type} {l : List α} {i : Nat} (h : i < l.length) : l[i]? = some l[i] := List.getElem?_eq_getElem h
theorem ri_list {xs : List PyData} {p : Addr} {vs : List V} (hs : SqL K B p vs) (d : DpAll K B vs xs) : RI K B ρ H (Itl K p) (itD xs) := by
  intro B2 ρ2 κ2 H2 w2 g2 i
  have hs2 : SqL K H2 p vs := g2.ex.seq (w2.s.seq hs)
  have hl := dpa_len d
  refine ⟨fun h => ⟨vs, hs2, by rw [hl]; exact h⟩, fun h => ?_⟩
  obtain ⟨w, hw, r⟩ := dpa_get d (getLt h)
  refine ⟨⟨vs, w, hs2, hw⟩, fun x H3 hy => ?_⟩
  obtain ⟨rfl, f⟩ := hy
  have e := (f vs hs2).symm.trans hw
  cases e
  exact ⟨B2, .d _, Up.refl, g2, dp_up w2.s _ _ r, _, getLt h, rfl⟩
theorem ri_tup {xs : List PyData} {p : Addr} {vs : List V} (hs : SqT K B p vs) (d : DpAll K B vs xs) : RI K B ρ H (Itt K p) (itD xs) := by
  intro B2 ρ2 κ2 H2 w2 g2 i
  have hs2 : SqT K H2 p vs := sqt_up g2.ex (sqt_up w2.s hs)
  have hl := dpa_len d
  refine ⟨fun h => ⟨vs, hs2, by rw [hl]; exact h⟩, fun h => ?_⟩
  obtain ⟨w, hw, r⟩ := dpa_get d (getLt h)
  refine ⟨⟨vs, w, hs2, hw⟩, fun x H3 hy => ?_⟩
  obtain ⟨rfl, f⟩ := hy
  have e := (f vs hs2).symm.trans hw
  cases e
  exact ⟨B2, .d _, Up.refl, g2, dp_up w2.s _ _ r, _, getLt h, rfl⟩
theorem ri_str {s : Str} : RI K B ρ H (Its s) (itS s) := by
  intro B2 ρ2 κ2 H2 w2 g2 i
  refine ⟨fun h => h, fun h => ⟨h, fun x H3 hy => ?_⟩⟩
  obtain ⟨rfl, c, hc, rfl⟩ := hy
  exact ⟨B2, .d (.str ⟨#[c]⟩), Up.refl, g2, rp_str _, c, hc, rfl⟩
theorem ri_cell {p : Addr} (hp : ρ[k]? = some p) : RI K B ρ H (Itl K p) (itC k) := by
  intro B2 ρ2 κ2 H2 w2 g2 i
  have hp2 := w2.p _ _ hp
  refine ⟨fun h => ?_, fun h => ?_⟩
  · obtain ⟨xs, ek, hi⟩ := h
    obtain ⟨vs, r, eH, _⟩ := g2.ldAt hp2 ek
    exact ⟨vs, .inl (.inl eH), by rw [dpa_len r]; exact hi⟩
  · obtain ⟨xs, ek, hi⟩ := h
    obtain ⟨vs, r, eH, _⟩ := g2.ldAt hp2 ek
    obtain ⟨w, hw, rw'⟩ := dpa_get r (getLt hi)
    have hs2 : SqL K H2 p vs := .inl (.inl eH)
    refine ⟨⟨vs, w, hs2, hw⟩, fun x H3 hy => ?_⟩
    obtain ⟨rfl, f⟩ := hy
    have e := (f vs hs2).symm.trans hw
    cases e
    exact ⟨B2, .d _, Up.refl, g2, rw', xs, _, ek, getLt hi, rfl⟩
theorem ri_rng {lo : Int} {n : Nat} : RI K B ρ H (Itr lo n) (itR lo n) := by
  intro B2 ρ2 κ2 H2 w2 g2 i
  refine ⟨fun h => h, fun h => ⟨h, fun x H3 hy => ?_⟩⟩
  obtain ⟨rfl, rfl⟩ := hy
  exact ⟨B2, .d (.int (lo + i)), Up.refl, g2, rp_int _, rfl⟩
theorem ia_any {tge : Expr} (h : PEa K X e t f) (hK : X.K = K := by rfl) : PIa K X tge e (iAny K t) (aIter f) := by
  obtain ⟨K, Kn, KZ, Ku⟩ := K
  change X.K = K at hK
  subst hK
  exact ⟨pi_any h.pe, fun B ρ δ κ σ H R Q s g hh q => h.sd _ _ _ _ _ _ _ _ s g hh fun B1 ρ1 κ1 H1 a v w1 g1 r1 h1 => by
  split at h1
  · obtain ⟨p, vs, rfl, s1, d1⟩ := r1.list
    exact .inl ⟨p, rfl, ⟨vs, g1.ex.seq s1⟩, q _ _ _ _ _ _ w1 g1 (ri_list s1 d1) h1⟩
  · obtain ⟨p, vs, rfl, s1, d1⟩ := r1.tuple
    exact .inr (.inl ⟨p, rfl, ⟨vs, sqt_up g1.ex s1⟩, q _ _ _ _ _ _ w1 g1 (ri_tup s1 d1) h1⟩)
  · exact .inr (.inr ⟨_, r1.str, q _ _ _ _ _ _ w1 g1 ri_str h1⟩)
  · obtain ⟨p, hp, rfl⟩ := r1
    split at h1
    · rename_i xs ek
      obtain ⟨vs, r, eH, _⟩ := g1.ldAt hp ek
      exact .inl ⟨p, rfl, ⟨vs, .inl (.inl eH)⟩, q _ _ _ _ _ _ w1 g1 (ri_cell hp) h1⟩
    · exact h1.elim
  · exact h1.elim⟩
variable {ta : TA} {fa : AA}
def aRng1 (fa : AA) : AI := fun δ κ R => fa δ κ fun as κ1 => match as with
  | [.d (.int j)] => -(2 ^ 62) ≤ j ∧ j < 2 ^ 62 ∧ R (itR 0 j.toNat) κ1
  | _ => False
def aRng2 (fa : AA) : AI := fun δ κ R => fa δ κ fun as κ1 => match as with
  | [.d (.int i), .d (.int j)] => (-(2 ^ 62) ≤ i ∧ i < 2 ^ 62 ∧ -(2 ^ 62) ≤ j ∧ j < 2 ^ 62) ∧ R (itR i (j - i).toNat) κ1
  | _ => False
theorem ia_rng1 {tge a : Expr} {q pos : Pos} (hg : Gl X "range") (hm : X.mg "range" = none) (ha : PAa K X [a] ta fa) (hs : starEach [a] X.env = [(false, eval a X.env)] := by rfl) : PIa K X tge (.Call (.Name "range" q) [a] [] pos) (iRng1 ta) (aRng1 fa) :=
  ⟨pi_range1 hg hm ha.pa hs, fun B ρ δ κ σ H R Q s g hh q => ha.sd _ _ _ _ _ _ _ _ s g hh fun B1 ρ1 κ1 H1 as vs w1 g1 r1 h1 => by
    split at h1
    · obtain ⟨x, rfl, r⟩ := reps1 r1
      exact ⟨_, by rw [r.int], h1.1, h1.2.1, q _ _ _ _ _ _ w1 g1 ri_rng h1.2.2⟩
    · exact h1.elim⟩
theorem ia_rng2 {tge a b : Expr} {q pos : Pos} (hg : Gl X "range") (hm : X.mg "range" = none) (ha : PAa K X [a, b] ta fa) (hs : starEach [a, b] X.env = [(false, eval a X.env), (false, eval b X.env)] := by rfl) (hs2 : starEach [b] X.env = [(false, eval b X.env)] := by rfl) :
    PIa K X tge (.Call (.Name "range" q) [a, b] [] pos) (iRng2 ta) (aRng2 fa) :=
  ⟨pi_range2 hg hm ha.pa hs hs2, fun B ρ δ κ σ H R Q s g hh q => ha.sd _ _ _ _ _ _ _ _ s g hh fun B1 ρ1 κ1 H1 as vs w1 g1 r1 h1 => by
    split at h1
    · obtain ⟨x, y, rfl, rx, ry⟩ := reps2 r1
      exact ⟨_, _, by rw [rx.int, ry.int], h1.1, q _ _ _ _ _ _ w1 g1 ri_rng h1.2⟩
    · exact h1.elim⟩

/-! ### for -/
def aFor (ai : AI) (ag : AG) (f : AS) : AS := fun A δ κ => ai δ κ fun J κ1 => ∃ W : Nat → Nat → AD → AK → Prop, (∃ m, W 0 m δ κ1) ∧ ∀ i m δ' κ', W i m δ' κ' → κ1.length ≤ κ'.length →
  (J.stop i κ' ∧ A.nx δ' κ') ∨ (J.go i κ' ∧ ∃ N : AD → AK → Prop, (∀ δ3 κ3, N δ3 κ3 → ∃ m', m' < m ∧ W (i + 1) m' δ3 κ3) ∧ ∀ a, J.yld i κ' a → ag a δ' κ' fun δ2 κ2 => f { n := κ1.length, nx := N, ct := N, bk := A.nx, rt := A.rt } δ2 κ2)
theorem sa_for {iter tge : Expr} {body : List Stmt} {wi : TI} {ai : AI} (hp : PassesOwn (model X.prog X.w) X.A X.env X.xe) (hc : X.calm = true) (hi : PIa K X tge iter wi ai) (hg : PGa K X tge tg ag) (hb : PSsa K X body t1 f1)
    (hs : ∀ x, foldedSetIterable iter X.env x = pure x := by intro _; rfl) : PSa K X (.For tge iter body [] pos) (tFor wi tg t1) (aFor ai ag f1) :=
  ⟨ps_for hp hc hi.pi hg.pg hb.ps hs, fun B ρ δ κ σ H A D s g l hh im => hi.sd B ρ δ κ σ H _ _ s g hh fun B1 ρ1 κ1 H1 J Ja w1 g1 ri ⟨W, ⟨m0, w0⟩, turn⟩ => by
    have l1 : A.n ≤ κ1.length := Nat.le_trans l (w1.len g g1)
    have im1 := im.later w1.n
    refine ⟨fun i m σ' H' => Later K B1 ρ1 H1 κ1.length (W i m) σ' H', ⟨m0, B1, ρ1, δ, κ1, UpN.refl, s.up w1.g, g1, Nat.le_refl _, w0⟩, fun i m σ' H' hW => ?_⟩
    obtain ⟨B2, ρ2, δ2, κ2, w2, s2, g2, l2, hw⟩ := hW
    have full : Up B1 ρ1 H1 B2 ρ2 H' := w2.full (by rw [g1.len]; exact Nat.le_refl _)
    have r := ri B2 ρ2 κ2 H' full g2 i
    rcases turn i m δ2 κ2 hw l2 with ⟨h1, h2⟩ | ⟨h1, N, hN, h2⟩
    · exact .inl ⟨r.1 h1, im1.nx _ _ _ _ _ _ (w2.mono l1) g2 s2 (Nat.le_trans l1 l2) h2⟩
    · obtain ⟨hgo, hy⟩ := r.2 h1
      refine .inr ⟨hgo, fun σ3 H3 => Later K B1 ρ1 H1 κ1.length N σ3 H3, ?_, fun x H3 hx => ?_⟩
      · rintro σ3 H3 ⟨B3, ρ3, δ3, κ3, w3, s3, g3, l3, hn⟩
        obtain ⟨m', hm, hw'⟩ := hN _ _ hn
        exact ⟨m', hm, B3, ρ3, δ3, κ3, w3, s3, g3, l3, hw'⟩
      · obtain ⟨B3, a, w3, g3, ra, ya⟩ := hy x H3 hx
        refine hg.sd _ _ _ _ _ _ _ _ _ _ (s2.up w3.g) g3 ra (h2 a ya) fun B4 ρ4 δ4 κ4 σ4 H4 w4 s4 g4 h4 => ?_
        have wa : UpN κ1.length B1 ρ1 H1 B4 ρ4 H4 := w2.trans (w3.trans w4).n
        refine hb.sd _ _ _ _ _ _ _ _ s4 g4 (Nat.le_trans l2 (w4.len g3 g4)) h4 ⟨?_, ?_, ?_, ?_, Nat.le_trans im.kn l1⟩
        · exact fun B5 ρ5 κ5 H5 δ5 σ5 w5 g5 s5 l5 h5 => ⟨B5, ρ5, δ5, κ5, wa.trans w5, s5, g5, l5, h5⟩
        · exact fun B5 ρ5 κ5 H5 a v w5 g5 r5 l5 h5 => im1.rt _ _ _ _ _ _ ((wa.trans w5).mono l1) g5 r5 (Nat.le_trans l1 l5) h5
        · exact fun B5 ρ5 κ5 H5 δ5 σ5 w5 g5 s5 l5 h5 => im1.nx _ _ _ _ _ _ ((wa.trans w5).mono l1) g5 s5 (Nat.le_trans l1 l5) h5
        · exact fun B5 ρ5 κ5 H5 δ5 σ5 w5 g5 s5 l5 h5 => ⟨B5, ρ5, δ5, κ5, wa.trans w5, s5, g5, l5, h5⟩⟩
/-! helpers for loops: over known items, over a range, over a text, over the cell at k -/
abbrev ForW (J : AIt) (ag : AG) (f : AS) (A : AEnds) (n : Nat) (δ : AD) (κ1 : AK) : Prop := ∃ W : Nat → Nat → AD → AK → Prop, (∃ m, W 0 m δ κ1) ∧ ∀ i m δ' κ', W i m δ' κ' → n ≤ κ'.length →
  (J.stop i κ' ∧ A.nx δ' κ') ∨ (J.go i κ' ∧ ∃ N : AD → AK → Prop, (∀ δ3 κ3, N δ3 κ3 → ∃ m', m' < m ∧ W (i + 1) m' δ3 κ3) ∧ ∀ a, J.yld i κ' a → ag a δ' κ' fun δ2 κ2 => f { n := n, nx := N, ct := N, bk := A.nx, rt := A.rt } δ2 κ2)
variable {ag : AG} {f : AS} {A : AEnds} {n : Nat} {κ1 : AK}
theorem for_d {xs : List PyData} (Pv : Nat → AD → AK → Prop) (h0 : Pv 0 δ κ1) (hd : ∀ δ' κ', Pv xs.length δ' κ' → n ≤ κ'.length → A.nx δ' κ')
    (hs : ∀ i x δ' κ', xs[i]? = some x → Pv i δ' κ' → n ≤ κ'.length → ag (.d x) δ' κ' fun δ2 κ2 => f { n := n, nx := Pv (i + 1), ct := Pv (i + 1), bk := A.nx, rt := A.rt } δ2 κ2) : ForW (itD xs) ag f A n δ κ1 := by
  refine ⟨fun i m δ' κ' => m = xs.length - i ∧ i ≤ xs.length ∧ Pv i δ' κ', ⟨_, rfl, Nat.zero_le _, h0⟩, ?_⟩
  rintro i m δ' κ' ⟨rfl, hi, p⟩ ln
  by_cases hlt : i < xs.length
  · refine .inr ⟨hlt, Pv (i + 1), fun _ _ q => ⟨xs.length - (i + 1), by omega, rfl, hlt, q⟩, ?_⟩
    rintro a ⟨x, hx, rfl⟩
    exact hs i x δ' κ' hx p ln
  · have e : i = xs.length := by omega
    subst e
    exact .inl ⟨Nat.le_refl _, hd _ _ p ln⟩
theorem for_r {lo : Int} {N : Nat} (Pv : Nat → AD → AK → Prop) (h0 : Pv 0 δ κ1) (hd : ∀ δ' κ', Pv N δ' κ' → n ≤ κ'.length → A.nx δ' κ')
    (hs : ∀ i δ' κ', i < N → Pv i δ' κ' → n ≤ κ'.length → ag (.d (.int (lo + i))) δ' κ' fun δ2 κ2 => f { n := n, nx := Pv (i + 1), ct := Pv (i + 1), bk := A.nx, rt := A.rt } δ2 κ2) : ForW (itR lo N) ag f A n δ κ1 := by
  refine ⟨fun i m δ' κ' => m = N - i ∧ i ≤ N ∧ Pv i δ' κ', ⟨_, rfl, Nat.zero_le _, h0⟩, ?_⟩
  rintro i m δ' κ' ⟨rfl, hi, p⟩ ln
  by_cases hlt : i < N
  · refine .inr ⟨hlt, Pv (i + 1), fun _ _ q => ⟨N - (i + 1), by omega, rfl, hlt, q⟩, ?_⟩
    rintro a rfl
    exact hs i δ' κ' hlt p ln
  · have e : i = N := by omega
    subst e
    exact .inl ⟨Nat.le_refl _, hd _ _ p ln⟩
theorem for_s {s : Str} (Pv : Nat → AD → AK → Prop) (h0 : Pv 0 δ κ1) (hd : ∀ δ' κ', Pv s.cps.size δ' κ' → n ≤ κ'.length → A.nx δ' κ')
    (hs : ∀ (i : Nat) (c : Nat) δ' κ', s.cps[i]? = some c → Pv i δ' κ' → n ≤ κ'.length → ag (.d (.str ⟨#[c]⟩)) δ' κ' fun δ2 κ2 => f { n := n, nx := Pv (i + 1), ct := Pv (i + 1), bk := A.nx, rt := A.rt } δ2 κ2) : ForW (itS s) ag f A n δ κ1 := by
  refine ⟨fun i m δ' κ' => m = s.cps.size - i ∧ i ≤ s.cps.size ∧ Pv i δ' κ', ⟨_, rfl, Nat.zero_le _, h0⟩, ?_⟩
  rintro i m δ' κ' ⟨rfl, hi, p⟩ ln
  by_cases hlt : i < s.cps.size
  · refine .inr ⟨hlt, Pv (i + 1), fun _ _ q => ⟨s.cps.size - (i + 1), by omega, rfl, hlt, q⟩, ?_⟩
    rintro a ⟨c, hc, rfl⟩
    exact hs i c δ' κ' hc p ln
  · have e : i = s.cps.size := by omega
    subst e
    exact .inl ⟨Nat.le_refl _, hd _ _ p ln⟩
/-- the list at k stays as it is while it is walked -/
theorem for_c {k : Nat} {xs : List PyData} (Pv : Nat → AD → AK → Prop) (h0 : Pv 0 δ κ1) (hk : ∀ i δ' κ', Pv i δ' κ' → κ'[k]? = some (.ld xs)) (hd : ∀ δ' κ', Pv xs.length δ' κ' → n ≤ κ'.length → A.nx δ' κ')
    (hs : ∀ i x δ' κ', xs[i]? = some x → Pv i δ' κ' → n ≤ κ'.length → ag (.d x) δ' κ' fun δ2 κ2 => f { n := n, nx := Pv (i + 1), ct := Pv (i + 1), bk := A.nx, rt := A.rt } δ2 κ2) : ForW (itC k) ag f A n δ κ1 := by
  refine ⟨fun i m δ' κ' => m = xs.length - i ∧ i ≤ xs.length ∧ Pv i δ' κ', ⟨_, rfl, Nat.zero_le _, h0⟩, ?_⟩
  rintro i m δ' κ' ⟨rfl, hi, p⟩ ln
  by_cases hlt : i < xs.length
  · refine .inr ⟨⟨xs, hk _ _ _ p, hlt⟩, Pv (i + 1), fun _ _ q => ⟨xs.length - (i + 1), by omega, rfl, hlt, q⟩, ?_⟩
    rintro a ⟨ys, x, hy, hx, rfl⟩
    rw [hk _ _ _ p] at hy; cases hy
    exact hs i x δ' κ' hx p ln
  · have e : i = xs.length := by omega
    subst e
    exact .inl ⟨⟨xs, hk _ _ _ p, Nat.le_refl _⟩, hd _ _ p ln⟩
/-- while by a measure -/
theorem while_m {p : AT} {f : AS} {A : AEnds} (Pv : AD → AK → Prop) (μ : AD → AK → Nat) (h0 : Pv δ κ)
    (hs : ∀ δ' κ', Pv δ' κ' → κ.length ≤ κ'.length → p δ' κ' fun b κ1 => bsel b (f { n := κ.length, nx := fun δ2 κ2 => Pv δ2 κ2 ∧ μ δ2 κ2 < μ δ' κ', ct := fun δ2 κ2 => Pv δ2 κ2 ∧ μ δ2 κ2 < μ δ' κ', bk := A.nx, rt := A.rt } δ' κ1) (A.nx δ' κ1))
    (mono : ∀ δ' κ' (Q Q' : Bool → AK → Prop), (∀ b κ1, Q b κ1 → Q' b κ1) → p δ' κ' Q → p δ' κ' Q') : aWhile p f A δ κ := by
  refine ⟨fun m δ' κ' => m = μ δ' κ' ∧ Pv δ' κ', ⟨_, rfl, h0⟩, ?_⟩
  rintro m δ' κ' ⟨rfl, hp⟩ l
  refine mono δ' κ' _ _ (fun b κ1 q => ?_) (hs δ' κ' hp l)
  cases b with
  | true => exact ⟨_, fun δ2 κ2 h => ⟨_, h.2, rfl, h.1⟩, q⟩
  | false => exact q
end Ab
set_option Elab.async false
set_option linter.all false
set_option maxRecDepth 100000
set_option maxHeartbeats 4000000
/-! Ab6: list comprehensions; defs, their promises, their calls -/
namespace Ab
open PySem L2
open PyProof.Rows (envOfC)
variable {K : Frg} {B B' B2 H H' H2 : Hp} {ρ ρ' ρ2 : List Addr} {κ κ' : AK} {δ : AD} {σ : L2.St} {p : Addr} {k : Nat} {v x y z : V} {a b c : AV}
variable {X : Cx} {e e2 : Expr} {t u : TE} {f f2 : AE} {pos : Pos}

def wipeA (δ : AD) : List Nat → AD
  | [] => δ
  | v :: vs => (wipeA δ vs).set v none
theorem S.wipe (s : S K B ρ δ σ) : ∀ vs : List Nat, S K B ρ (wipeA δ vs) (L2.wipe σ vs)
  | [] => s
  | v :: vs => (S.wipe s vs).clr
theorem wipe_get (σ : L2.St) (i : Nat) : ∀ vs : List Nat, (L2.wipe σ vs)[i]? = if i ∈ vs then σ[i]?.map fun _ => none else σ[i]?
  | [] => by simp [L2.wipe]
  | v :: vs => by
    show ((L2.wipe σ vs).set v none)[i]? = _
    rw [List.getElem?_set, wipe_get σ i vs, wipe_length]
    by_cases h : v = i
    · subst h
      rw [if_pos rfl]
      by_cases hv : v < σ.length
      · rw [if_pos hv, if_pos (List.mem_cons_self ..), List.getElem?_eq_getElem hv]; rfl
      · rw [if_neg hv, if_pos (List.mem_cons_self ..), List.getElem?_eq_none (by omega)]; rfl
    · rw [if_neg h]
      have : (i ∈ v :: vs) = (i ∈ vs) := by
        apply propext
        rw [List.mem_cons]
        exact ⟨fun z => z.elim (fun w => absurd w.symm h) id, Or.inr⟩
      simp only [this]
theorem wipe_set {σ : L2.St} {vs : List Nat} {j : Nat} {w : Option V} (h : j ∈ vs) : L2.wipe (σ.set j w) vs = L2.wipe σ vs := by
  apply List.ext_getElem?
  intro i
  rw [wipe_get, wipe_get]
  by_cases hi : i ∈ vs
  · rw [if_pos hi, if_pos hi, List.getElem?_set]
    by_cases e : j = i
    · subst e
      rw [if_pos rfl]
      by_cases hl : j < σ.length
      · rw [if_pos hl, List.getElem?_eq_getElem hl]; rfl
      · rw [if_neg hl, List.getElem?_eq_none (by omega)]
    · rw [if_neg e]
  · rw [if_neg hi, if_neg hi, List.getElem?_set_ne (fun (e : j = i) => hi (e ▸ h))]
theorem wipe_wipe (σ : L2.St) (vs : List Nat) : L2.wipe (L2.wipe σ vs) vs = L2.wipe σ vs := by
  apply List.ext_getElem?
  intro i
  rw [wipe_get, wipe_get]
  by_cases hi : i ∈ vs
  · rw [if_pos hi, if_pos hi]
    cases σ[i]? <;> rfl
  · rw [if_neg hi, if_neg hi]
/-! targets within a comprehension: the own names alone -/
def SGw (K : Frg) (t : TG) (g : AG) (vs : List Nat) : Prop := ∀ B ρ δ κ σ H a v (R : AD → AK → Prop) (Q : L2.St → Hp → Prop), S K B ρ δ σ → G K B ρ κ H → Rep K B ρ a v → g a δ κ R →
  (∀ B' ρ' δ' κ' σ' H', Up B ρ H B' ρ' H' → S K B' ρ' δ' σ' → G K B' ρ' κ' H' → R δ' κ' → L2.wipe σ' vs = L2.wipe σ vs → Q σ' H') → t v σ H Q
def SGsw (K : Frg) (t : TGs) (g : AGs) (vs : List Nat) : Prop := ∀ B ρ δ κ σ H as ws (R : AD → AK → Prop) (Q : L2.St → Hp → Prop), S K B ρ δ σ → G K B ρ κ H → Reps K B ρ as ws → g as δ κ R →
  (∀ B' ρ' δ' κ' σ' H', Up B ρ H B' ρ' H' → S K B' ρ' δ' σ' → G K B' ρ' κ' H' → R δ' κ' → L2.wipe σ' vs = L2.wipe σ vs → Q σ' H') → t ws σ H Q
theorem sgw_name {i : Nat} {vs : List Nat} (h : i ∈ vs) : SGw K (gName i) (aName i) vs := fun B ρ δ κ σ H a v R Q s g r hh q => q _ _ _ _ _ _ Up.refl (s.set r) g hh (wipe_set h)
theorem sgsw_nil {vs : List Nat} : SGsw K gNil aGNil vs := fun B ρ δ κ σ H as ws R Q s g r h q => by
  unfold aGNil at h
  split at h
  · cases r; exact ⟨rfl, q _ _ _ _ _ _ Up.refl s g h rfl⟩
  · exact h.elim
theorem sgsw_cons {tg : TG} {tgs : TGs} {ag : AG} {ags : AGs} {vs : List Nat} (h1 : SGw K tg ag vs) (h2 : SGsw K tgs ags vs) : SGsw K (gCons tg tgs) (aGCons ag ags) vs := fun B ρ δ κ σ H as ws R Q s g r h q => by
  unfold aGCons at h
  split at h
  · cases r with
    | cons r1 r2 =>
      exact ⟨_, _, rfl, h1 _ _ _ _ _ _ _ _ _ _ s g r1 h fun B' ρ' δ' κ' σ' H' w s' g' h' e1 => h2 _ _ _ _ _ _ _ _ _ _ s' g' (Reps.up w.g r2) h' fun _ _ _ _ _ _ w2 s2 g2 k2 e2 => q _ _ _ _ _ _ (w.trans w2) s2 g2 k2 (e2.trans e1)⟩
  · exact h.elim
theorem sgw_tup {tgs : TGs} {ags : AGs} {vs : List Nat} {n : Nat} (h : SGsw K tgs ags vs) : SGw K (gTup K n tgs) (aGTup n ags) vs := fun B ρ δ κ σ H a v R Q s g r hh q => by
  unfold aGTup at hh
  split at hh
  · obtain ⟨p, vs, rfl, s1, d1⟩ := of_tupG g r
    exact ⟨p, vs, rfl, s1, by rw [dpa_len d1]; exact hh.1, h _ _ _ _ _ _ _ _ _ _ s g (Reps.all d1) hh.2 q⟩
  · obtain ⟨p, hp, rfl⟩ := r
    split at hh
    · rename_i xs ek
      obtain ⟨p', hp', vs, r, eH⟩ := g.cell ek
      rw [hp] at hp'; cases hp'
      exact ⟨p, vs, rfl, .inl (.inl eH), by rw [← r.len]; exact hh.1, h _ _ _ _ _ _ _ _ _ _ s g r hh.2 q⟩
    · exact hh.elim
  · exact hh.elim
structure PTsa (K : Frg) (X : Cx) (ifs : List Expr) (t : TT) (f : AT) : Prop where
  pt : PTs X ifs t
  sd : ST K t f
def aYes : AT := fun _ κ R => R true κ
theorem tsa_nil : PTsa K X [] tYes aYes := ⟨pts_nil, fun B ρ δ κ σ H R Q s g h q => q _ _ _ _ _ Up.refl g h⟩
theorem tsa_one {tc : TT} {pc : AT} (h : PTa K X e tc pc) : PTsa K X [e] tc pc := ⟨pts_one h.pt, h.sd⟩
/-- [elt for target in iter if ..], its items data: a list that never changes -/
def LcWd (J : AIt) (ag : AG) (p : AT) (f : AE) (vs : List Nat) (δ : AD) (κ1 : AK) (R : AR) : Prop := ∃ W : Nat → Nat → List PyData → AK → Prop, (∃ m, W 0 m [] κ1) ∧ ∀ i m acc κ', W i m acc κ' →
  (J.stop i κ' ∧ R (.d (.list acc)) κ') ∨ (J.go i κ' ∧ ∃ N : List PyData → AK → Prop, (∀ acc2 κ2, N acc2 κ2 → ∃ m', m' < m ∧ W (i + 1) m' acc2 κ2) ∧ ∀ a, J.yld i κ' a → ag a (wipeA δ vs) κ' fun δ2 κ2 => p δ2 κ2 fun b κ3 =>
    bsel b (f δ2 κ3 fun y κ4 => ∃ d, y = .d d ∧ acc.length < sizeLine ∧ N (acc ++ [d]) κ4) (N acc κ3))
@[irreducible] def LcW (J : AIt) (ag : AG) (p : AT) (f : AE) (vs : List Nat) (δ : AD) (κ1 : AK) (R : AR) : Prop := LcWd J ag p f vs δ κ1 R
theorem lcw {J : AIt} {ag : AG} {p : AT} {f : AE} {vs : List Nat} {δ : AD} {κ1 : AK} {R : AR} : LcW J ag p f vs δ κ1 R ↔ LcWd J ag p f vs δ κ1 R := by
  unfold LcW; exact Iff.rfl
def aLc (ai : AI) (ag : AG) (p : AT) (f : AE) (vs : List Nat) : AE := fun δ κ R => ai δ κ fun J κ1 => LcW J ag p f vs δ κ1 R
theorem Up.off {D : Addr} {o : HO} (w : Up B ρ H B' ρ' H') (hD : H D = none) : Up B ρ H B' ρ' (upd H' D o) := ⟨w.s, w.p, fun p x h1 h2 h3 => by
  have hp := ne_of_none h1 hD
  rw [upd_ne hp]; exact w.f p x h1 h2 h3⟩
theorem Up.newR {D : Addr} (w : Up B ρ H B' ρ' H') (hD : H D = none) : Up B ρ H B' (ρ' ++ [D]) H' := ⟨w.s, fun i a h => get_app (w.p i a h), fun p o z1 z2 z3 => by
  obtain ⟨y1, y2, y3⟩ := w.f p o z1 z2 z3
  refine ⟨y1, y2, fun z => ?_⟩
  rcases List.mem_append.mp z with z | z
  · exact y3 z
  · exact ne_of_none z1 hD (by simpa using z)⟩
theorem G.off (g : G K B ρ κ H) {D : Addr} {o : HO} (hb : B D = none) (hr : D ∉ ρ) (hz : K.Z B ρ (upd H D o)) : G K B ρ κ (upd H D o) := by
  refine ⟨fun b x e => ?_, g.len, g.inj, fun i q c h1 h2 => ?_, hz⟩
  · rw [upd_ne (ne_of_none e hb)]; exact g.ex b x e
  · have hq : q ≠ D := fun z => hr (z ▸ mem_of_get h1)
    exact (g.at' i q c h1 h2).up Ug.refl Or.inl fun o' e => by rw [upd_ne hq]; exact e
theorem se_lc {wi : TI} {ai : AI} {tg : TG} {ag : AG} {tt : TT} {pt : AT} {vs : List Nat} (hi : SI K wi ai) (hg : SGw K tg ag vs) (ht : ST K tt pt) (he : SE K t f) : SE K (tLc wi tg tt t vs) (aLc ai ag pt f vs) := fun B ρ δ κ σ H R Q s g hh q =>
  hi B ρ δ κ σ H _ _ s g hh fun B1 ρ1 κ1 H1 J Ja w1 g1 ri hlc => by
    obtain ⟨W, ⟨m0, w0⟩, turn⟩ := lcw.mp hlc
    intro D hD
    have q1 := q.later w1
    refine ⟨fun i m H' => ∃ B' ρ' κ' accV acc, Up B1 ρ1 H1 B' ρ' H' ∧ G K B' ρ' κ' H' ∧ H' D = some (.lst accV) ∧ B' D = none ∧ D ∉ ρ' ∧ DpAll K B' accV acc ∧ W i m acc κ', ⟨m0, B1, ρ1, κ1, [], [], Up.refl.off hD, g1.off (g1.fresh hD) (fun z => ?_) (K.up _ _ _ _ _ _ (Up.refl.off hD).n g1.z), upd_same, g1.fresh hD, fun z => ?_, .nil, w0⟩, ?_⟩
    · obtain ⟨i, hi⟩ := List.mem_iff_getElem?.mp z
      exact g1.nin hD hi rfl
    · obtain ⟨i, hi⟩ := List.mem_iff_getElem?.mp z
      exact g1.nin hD hi rfl
    rintro i m H2 ⟨B2, ρ2, κ2, accV, acc, w2, g2, eD, bD, rD, da, hw⟩
    have r := ri B2 ρ2 κ2 H2 w2 g2 i
    rcases turn i m acc κ2 hw with ⟨h1, h2⟩ | ⟨h1, N, hN, h2⟩
    · refine .inl ⟨r.1 h1, ?_⟩
      have hs : Same B2 (upd B2 D (.lst accV)) := same_upd bD
      have hBD : (upd B2 D (.lst accV)) D = some (.lst accV) := upd_same
      have wz : Up B1 ρ1 H1 (upd B2 D (.lst accV)) ρ2 H2 := ⟨w2.s.trans hs, w2.p, fun p o z1 z2 z3 => by
        obtain ⟨y1, y2, y3⟩ := w2.f p o z1 z2 z3
        exact ⟨y1, (by rw [upd_ne (ne_of_none z1 hD)]; exact y2), y3⟩⟩
      refine q1 (upd B2 D (.lst accV)) ρ2 κ2 H2 (.d (.list acc)) (.ref D) wz ⟨fun b x e => ?_, g2.len, g2.inj, fun j p cl z1 z2 => ?_, K.up _ _ _ _ _ _ wz.n g1.z⟩ (.lst (.inl (.inl hBD)) (dpa_up hs _ _ da)) h2
      · by_cases hb : b = D
        · subst hb; rw [hBD] at e; rw [eD]; exact e
        · rw [upd_ne hb] at e; exact g2.ex b x e
      · have hq : p ≠ D := fun z => rD (z ▸ mem_of_get z1)
        exact (g2.at' j p cl z1 z2).up ⟨hs, fun _ _ h => h⟩ (fun z => .inl (by rw [upd_ne hq]; exact z)) fun _ e => e
    · obtain ⟨hgo, hy⟩ := r.2 h1
      -- a turn's end
      refine .inr ⟨hgo, fun H' => ∃ B' ρ' κ' accV acc, Up B1 ρ1 H1 B' ρ' H' ∧ G K B' ρ' κ' H' ∧ H' D = some (.lst accV) ∧ B' D = none ∧ D ∉ ρ' ∧ DpAll K B' accV acc ∧ N acc κ', ?_, fun x H3 hx => ?_⟩
      · rintro H' ⟨B', ρ', κ', accV', acc', z1, z2, z3, z4, z5, z6, hn⟩
        obtain ⟨m', hm, hw'⟩ := hN _ _ hn
        exact ⟨m', hm, B', ρ', κ', accV', acc', z1, z2, z3, z4, z5, z6, hw'⟩
      · obtain ⟨B3, a, w3, g3, ra, ya⟩ := hy x H3 hx
        have sw : S K B3 ρ2 (wipeA δ vs) (L2.wipe σ vs) := (s.up ((w1.trans w2).trans w3).g).wipe vs
        refine hg _ _ _ _ _ _ _ _ _ _ sw g3 ra (h2 a ya) fun B4 ρ4 δ4 κ4 σ4 H4 w4 s4 g4 h4 e4 => ⟨by rw [e4, wipe_wipe], ?_⟩
        refine ht _ _ _ _ _ _ _ _ s4 g4 h4 fun B5 ρ5 κ5 H5 b w5 g5 h5 => ?_
        have w25 := (w3.trans w4).trans w5
        obtain ⟨e5, b5, r5⟩ := w25.f D _ eD (.inl bD) rD
        have b5 : B5 D = none := b5.elim id fun ⟨ws, z⟩ => by cases z
        cases b with
        | false =>
          refine iteF ⟨B5, ρ5, κ5, accV, acc, w2.trans w25, g5, e5, b5, r5, dpa_up w25.s _ _ da, h5⟩
        | true =>
          refine iteT (he _ _ _ _ _ _ _ _ (s4.up w5.g) g5 h5 fun B6 ρ6 κ6 H6 a6 v6 w6 g6 r6 h6 => ?_)
          obtain ⟨d, rfl, hl, hn⟩ := h6
          obtain ⟨e6, b6, r6'⟩ := w6.f D _ e5 (.inl b5) r5
          have b6 : B6 D = none := b6.elim id fun ⟨ws, z⟩ => by cases z
          have w26 := w25.trans w6
          have da6 := dpa_up w26.s _ _ da
          refine ⟨accV, e6, by rw [dpa_len da6]; exact hl, B6, ρ6, κ6, accV ++ [v6], acc ++ [d], (w2.trans w26).off hD, g6.off b6 r6' (K.up _ _ _ _ _ _ ((w2.trans w26).off hD).n g1.z), upd_same, b6, r6', dpa_app da6 (.cons r6 .nil), hn⟩
section
variable {elt tge iter : Expr} {ifs : List Expr} {scope : Scope} {own : List (Str × Nat)} {wi : TI} {ai : AI} {tg : TG} {ag : AG} {tt : TT} {pt : AT} {te : TE} {fe : AE}
theorem ea_lc (hc : X.calm = true) (hN : X.N.Nodup) (hi : PIa K X tge iter wi ai) (ok : BlkOk X.N X.env.scope scope own)
    (hg : ∀ (s : Shared) (H : Hp) (C : Addr) (cl : List (Str × Addr)) (fp : List Addr), PG (X.blk s H scope (compEnvC scope cl C X.env) fp) tge tg) (hgw : SGw K tg ag (own.map (·.2)))
    (ht : ∀ (s : Shared) (H : Hp) (C : Addr) (cl : List (Str × Addr)) (fp : List Addr), PTsa K (X.blk s H scope (compEnvC scope cl C X.env) fp) ifs tt pt)
    (he : ∀ (s : Shared) (H : Hp) (C : Addr) (cl : List (Str × Addr)) (fp : List Addr), PEa K (X.blk s H scope (compEnvC scope cl C X.env) fp) elt te fe) (hs : ∀ x, foldedSetIterable iter X.env x = pure x := by intro _; rfl) :
    PEa K X (.ListComp elt [⟨tge, iter, ifs, 0⟩] scope pos) (tLc wi tg tt te (own.map (·.2))) (aLc ai ag pt fe (own.map (·.2))) :=
  ⟨pe_lc hc hN hi.pi ok hg (fun s H C cl fp => (ht s H C cl fp).pt) (fun s H C cl fp => (he s H C cl fp).pe) hs, se_lc hi.sd hgw (ht ({} : Shared) (fun _ => none) 0 [] []).sd (he ({} : Shared) (fun _ => none) 0 [] []).sd⟩
theorem sa_setLc {i : Nat} {y : Str} {py spos : Pos} (hc : X.calm = true) (hN : X.N.Nodup) (hy : X.N[i]? = some y) (hyl : X.env.scope.names.lookup y = some .local)
    (hsw : swapsWith (.ListComp elt [⟨tge, iter, ifs, 0⟩] scope pos) (some (.Name y py)) spos.line X.env = pure true) (hi : PIa K X tge iter wi ai) (ok : BlkOk X.N X.env.scope scope own)
    (hg : ∀ (s : Shared) (H : Hp) (C : Addr) (cl : List (Str × Addr)) (fp : List Addr), PG (X.blk s H scope (compEnvC scope cl C X.env) fp) tge tg) (hgw : SGw K tg ag (own.map (·.2)))
    (ht : ∀ (s : Shared) (H : Hp) (C : Addr) (cl : List (Str × Addr)) (fp : List Addr), PTsa K (X.blk s H scope (compEnvC scope cl C X.env) fp) ifs tt pt)
    (he : ∀ (s : Shared) (H : Hp) (C : Addr) (cl : List (Str × Addr)) (fp : List Addr), PEa K (X.blk s H scope (compEnvC scope cl C X.env) fp) elt te fe) (hs : ∀ x, foldedSetIterable iter X.env x = pure x := by intro _; rfl) :
    PSa K X (.Assign [.Name y py] (.ListComp elt [⟨tge, iter, ifs, 0⟩] scope pos) spos) (tAsg (tLc wi tg tt te (own.map (·.2))) (gName i)) (aSet i (aLc ai ag pt fe (own.map (·.2)))) :=
  ⟨ps_setLc hc hN hy hyl hsw hi.pi ok hg (fun s H C cl fp => (ht s H C cl fp).pt) (fun s H C cl fp => (he s H C cl fp).pe) hs, ss_asg (se_lc hi.sd hgw (ht ({} : Shared) (fun _ => none) 0 [] []).sd (he ({} : Shared) (fun _ => none) 0 [] []).sd) sg_name⟩
end

/-! ### defs -/
/-- what leaves a def: the error's class, by its name in the module, and its fields -/
structure AX where
  cls : Str
  fs : List (Str × PyData)
/-- a promise: the arguments, the cells, what is wanted of the result, of an error -/
abbrev FSp := List AV → AK → AR → (AX → AK → Prop) → Prop
/-- an error as it stands: its class, its dict among the data -/
def RepX (K : PySem.W.Frag) (B : Hp) (x : AX) (cls : Value) (d : Option Addr) : Prop := PySem.W.nsIn K mainGlobals x.cls = some (some cls) ∧ ((d = none ∧ x.fs = []) ∨ ∃ dd ws, d = some dd ∧ B dd = some (.xd ws) ∧ DpKs K B x.fs ws)
theorem RepX.up {K : PySem.W.Frag} {x : AX} {cls : Value} {d : Option Addr} (s : Same B B') (h : RepX K B x cls d) : RepX K B' x cls d :=
  ⟨h.1, h.2.imp id fun ⟨dd, ws, e, eb, r⟩ => ⟨dd, ws, e, s _ _ eb, DpKs.up s r⟩⟩
def spA (K : PySem.W.Frag) (F : FSp) : Sp := fun vs H Q E => ∃ B ρ κ as R E', G (Frg.of K) B ρ κ H ∧ Reps K B ρ as vs ∧ F as κ R E' ∧
  (∀ B' ρ' κ' H' a v, Up B ρ H B' ρ' H' → G (Frg.of K) B' ρ' κ' H' → Rep K B' ρ' a v → R a κ' → Q v H') ∧
  (∀ B' ρ' κ' H' xa cls d, Up B ρ H B' ρ' H' → G (Frg.of K) B' ρ' κ' H' → RepX K B' xa cls d → E' xa κ' → E cls d H')
def startA (N : List Str) (as : List AV) : AD := as.map some ++ List.replicate (N.length - as.length) none
theorem s_start {N : List Str} {as : List AV} {vs : List V} (r : Reps K B ρ as vs) : S K B ρ (startA N as) (L2.start N vs) := by
  have hl := r.len
  refine ⟨by unfold startA L2.start; simp [hl], fun i a h => ?_⟩
  unfold startA at h
  by_cases hi : i < as.length
  · rw [List.getElem?_append_left (by simpa using hi), List.getElem?_map, List.getElem?_eq_getElem hi] at h
    simp at h
    obtain ⟨w, e, rw'⟩ := r.get (List.getElem?_eq_getElem hi)
    rw [h] at rw'
    refine ⟨w, ?_, rw'⟩
    unfold L2.start
    rw [List.getElem?_append_left (by simp; omega), List.getElem?_map, e]
    rfl
  · rw [List.getElem?_append_right (by simpa using hi)] at h
    have := mem_of_get h
    rw [List.mem_replicate] at this
    exact absurd this.2 (by simp)
/-- the end of a body: the result may be told anew -/
def endsA (K : PySem.W.Frag) (n : Nat) (R : AR) : AEnds := ⟨n, fun _ κ => ∃ a' κ', GhR K n (.d .none) κ a' κ' ∧ R a' κ', fun a κ => ∃ a' κ', GhR K n a κ a' κ' ∧ R a' κ', fun _ _ => False, fun _ _ => False⟩
theorem body_ok {K : PySem.W.Frag} {F : FSp} {N : List Str} {t : TS} {f : AS} {vs : List V} {H : Hp} {Q : VK} {E : XK} (hs : SS (Frg.of K) t f) (hF : ∀ as κ R E', F as κ R E' → f (endsA K κ.length R) (startA N as) κ) (h : spA K F vs H Q E) :
    t { nx := fun _ H' => Q .non H', rt := Q } (L2.start N vs) H := by
  obtain ⟨B, ρ, κ, as, R, E', g, r, hf, q, _⟩ := h
  have fin : ∀ B' ρ' κ' H' a v, UpN κ.length B ρ H B' ρ' H' → G (Frg.of K) B' ρ' κ' H' → Rep K B' ρ' a v → (∃ a' κ2, GhR K κ.length a κ' a' κ2 ∧ R a' κ2) → Q v H' := fun B' ρ' κ' H' a v w g' ra ⟨a', κ2, gh, hR⟩ => by
    obtain ⟨B2, ρ2, w2, r2, g2⟩ := gh.2 B' ρ' H' v g' ra
    exact q _ _ _ _ _ _ ((w.trans w2).full (by rw [g.len]; exact Nat.le_refl _)) g2 r2 hR
  refine hs B ρ (startA N as) κ (L2.start N vs) H (endsA K κ.length R) _ (s_start r) g (Nat.le_refl _) (hF as κ R E' hf) ⟨?_, ?_, ?_, ?_, Nat.zero_le _⟩
  · exact fun B' ρ' κ' H' δ' σ' w g' s' l h' => fin _ _ _ _ _ _ w g' rp_non h'
  · exact fun B' ρ' κ' H' a v w g' ra l h' => fin _ _ _ _ _ _ w g' ra h'
  · exact fun _ _ _ _ _ _ _ _ _ _ h' => h'.elim
  · exact fun _ _ _ _ _ _ _ _ _ _ h' => h'.elim
theorem spA_len {K : PySem.W.Frag} {F : FSp} {ps : List Str} (hl : ∀ as κ R E', F as κ R E' → as.length = ps.length) : ∀ vs H Q E, spA K F vs H Q E → vs.length = ps.length := by
  rintro vs H Q E ⟨B, ρ, κ, as, R, E', g, r, hf, _⟩
  rw [← r.len]; exact hl _ _ _ _ hf
section
variable {K : PySem.W.Frag} {P : Program} {w : World} {mg : Str → Option Value} {base : Heap}
/-- THE RULE for a def from which nothing is raised -/
theorem fn_ok {x qual : Str} {st : Stmt} {fa : Addr} {fd : FuncData} {N ps : List Str} {l : Nat} {F : FSp} (Fu : Fun K x qual st fa fd) (Sc : FnScope N ps (defScope st)) (hl : ∀ as κ R E', F as κ R E' → as.length = ps.length)
    (hb : ∀ (cdv : Value) (A : Around) (outer : List Env) (s : Shared) (H : Hp) (E : XK), Room l (A.deeper (envOfC qual (defScope st) s.heap.objs.size fa cdv)) →
      ∃ t f, PSsa (Frg.of K) (cxOf CX0 P w K mg base N qual (defScope st) fa cdv A outer s H E).nox (defBody st) t f ∧ ∀ as κ R E', F as κ R E' → f (endsA K κ.length R) (startA N as) κ) : FnOk P w K mg base CX0 (l + 1) fa fd ps (spA K F) :=
  Fu.ok Sc (spA_len hl) fun cdv A outer s H vs Q E hr h => by
    obtain ⟨t, f, hp, hF⟩ := hb cdv A outer s H E hr
    exact ⟨t, hp.ps, body_ok hp.sd hF h⟩
end
/-! ### calls: the callee sees the cells js alone -/
def posIn (k : Nat) : List Nat → Nat → Option Nat
  | [], _ => none
  | j :: js, i => if j = k then some i else posIn k js (i + 1)
def selA (js : List Nat) : AV → Option AV
  | .c k => (posIn k js 0).map .c
  | a => some a
def selAs (js : List Nat) : List AV → Option (List AV)
  | [] => some []
  | a :: r => match selA js a, selAs js r with
    | some x, some xs => some (x :: xs)
    | _, _ => none
/-- no reference within -/
def clC : Cell → Bool
  | .lst xs => xs.all (okA 0)
  | .tup xs => xs.all (okA 0)
  | .ins _ fs => fs.all fun p => okA 0 p.2
  | _ => true
def selK (js : List Nat) (κ : AK) : Option AK := match js with
  | [] => some []
  | j :: r => match κ[j]?, selK r κ with
    | some c, some cs => if clC c = true then some (c :: cs) else none
    | _, _ => none
/-- back: the callee's cells at their places, its new ones behind -/
def putK : List Nat → AK → AK → AK
  | j :: js, c :: cs, κ => putK js cs (κ.set j c)
  | _, _, κ => κ
def liveC : Cell → Bool
  | .dead => false
  | _ => true
def backA (js : List Nat) (n : Nat) : AV → AV
  | .c j => match js[j]? with
    | some k => .c k
    | none => .c (n + (j - js.length))
  | a => a
def backK (js : List Nat) (κ κ' : AK) : AK := match κ'.drop js.length with
  | [] => putK js κ' κ
  | c :: l => putK js κ' κ ++ c :: l
theorem backK_eq (js : List Nat) (κ κ' : AK) : backK js κ κ' = putK js κ' κ ++ κ'.drop js.length := by
  unfold backK
  split
  · rename_i e; rw [e, List.append_nil]
  · rename_i e; rw [e]
@[irreducible] def callW (F : FSp) (E : AX → AK → Prop) (as : List AV) (κ1 : AK) (R : AR) : Prop := ∃ js asl κl, js.Nodup ∧ selAs js as = some asl ∧ selK js κ1 = some κl ∧
  F asl κl (fun a κ' => js.length ≤ κ'.length ∧ κ'.all clC = true ∧ (κ'.drop js.length).all liveC = true ∧ R (backA js κ1.length a) (backK js κ1 κ')) (fun x κ' => js.length ≤ κ'.length ∧ κ'.all clC = true ∧ (κ'.drop js.length).all liveC = true ∧ E x (backK js κ1 κ'))
theorem callW_i {F : FSp} {E : AX → AK → Prop} {as : List AV} {κ1 : AK} {R : AR} (h : ∃ js asl κl, js.Nodup ∧ selAs js as = some asl ∧ selK js κ1 = some κl ∧
  F asl κl (fun a κ' => js.length ≤ κ'.length ∧ κ'.all clC = true ∧ (κ'.drop js.length).all liveC = true ∧ R (backA js κ1.length a) (backK js κ1 κ')) (fun x κ' => js.length ≤ κ'.length ∧ κ'.all clC = true ∧ (κ'.drop js.length).all liveC = true ∧ E x (backK js κ1 κ'))) : callW F E as κ1 R := by
  unfold callW; exact h
theorem callW_e {F : FSp} {E : AX → AK → Prop} {as : List AV} {κ1 : AK} {R : AR} (h : callW F E as κ1 R) : ∃ js asl κl, js.Nodup ∧ selAs js as = some asl ∧ selK js κ1 = some κl ∧
  F asl κl (fun a κ' => js.length ≤ κ'.length ∧ κ'.all clC = true ∧ (κ'.drop js.length).all liveC = true ∧ R (backA js κ1.length a) (backK js κ1 κ')) (fun x κ' => js.length ≤ κ'.length ∧ κ'.all clC = true ∧ (κ'.drop js.length).all liveC = true ∧ E x (backK js κ1 κ')) := by
  unfold callW at h; exact h
def aCall (F : FSp) (E : AX → AK → Prop) (fa : AA) : AE := fun δ κ R => fa δ κ fun as κ1 => callW F E as κ1 R

theorem rep_cl (h : okA 0 a = true) (r : Rep K B ρ a v) : Rep K B ρ' a v := by
  cases a with
  | d x => exact r
  | r w => exact r
  | c j => exact absurd (of_decide_eq_true (p := j < 0) h) (Nat.not_lt_zero _)
theorem reps_cl : ∀ {as : List AV} {vs : List V}, as.all (okA 0) = true → Reps K B ρ as vs → Reps K B ρ' as vs
  | _, _, _, .nil => .nil
  | _, _, h, .cons h1 h2 => by
    rw [List.all_cons, Bool.and_eq_true] at h
    exact .cons (rep_cl h.1 h1) (reps_cl h.2 h2)
theorem repks_cl {ι : Type} : ∀ {as : List (ι × AV)} {vs : List (ι × V)}, (as.all fun p => okA 0 p.2) = true → RepKs K B ρ as vs → RepKs K B ρ' as vs
  | _, _, _, .nil => .nil
  | _, _, h, .cons h1 h2 => by
    rw [List.all_cons, Bool.and_eq_true] at h
    exact .cons ⟨h1.1, rep_cl h.1 h1.2⟩ (repks_cl h.2 h2)
theorem CellOk.cl {cl : Cell} (h : clC cl = true) (ok : CellOk K B ρ H p cl) : CellOk K B ρ' H p cl := by
  cases cl with
  | dead => exact ok
  | ld ys => exact ok
  | lst ys => obtain ⟨n, ws, r, e⟩ := ok; exact ⟨n, ws, reps_cl h r, e⟩
  | tup ys => obtain ⟨ws, r, e⟩ := ok; exact ⟨ws, reps_cl h r, e⟩
  | dK ys => exact ok
  | dT ys => exact ok
  | ins C ys => obtain ⟨n, dx, ws, r, e⟩ := ok; exact ⟨n, dx, ws, repks_cl h r, e⟩
theorem posIn_get : ∀ {k : Nat} {js : List Nat} {i r : Nat}, posIn k js i = some r → ∃ m, r = i + m ∧ js[m]? = some k
  | _, [], _, _, h => by cases h
  | k, j :: js, i, r, h => by
    unfold posIn at h
    by_cases e : j = k
    · rw [if_pos e] at h
      cases h
      exact ⟨0, rfl, by rw [e]; rfl⟩
    · rw [if_neg e] at h
      obtain ⟨m, e1, e2⟩ := posIn_get h
      exact ⟨m + 1, by omega, by simpa using e2⟩
/-- the addresses of the cells js -/
def selR (js : List Nat) (ρ : List Addr) : List Addr := js.map fun j => ρ.getD j 0
theorem selR_get {js : List Nat} {i j : Nat} {p : Addr} (h : js[i]? = some j) (hp : ρ[j]? = some p) : (selR js ρ)[i]? = some p := by
  unfold selR
  rw [List.getElem?_map, h]
  show some (ρ.getD j 0) = some p
  rw [List.getD_eq_getElem?_getD, hp]; rfl
theorem selK_get : ∀ {js : List Nat} {κ κl : AK}, selK js κ = some κl → κl.length = js.length ∧ ∀ (i j : Nat), js[i]? = some j → ∃ c, κ[j]? = some c ∧ κl[i]? = some c ∧ clC c = true
  | [], κ, κl, h => by cases h; exact ⟨rfl, fun i j e => by simp at e⟩
  | j :: js, κ, κl, h => by
    unfold selK at h
    split at h
    · rename_i c cs e1 e2
      split at h
      · rename_i hc
        cases h
        obtain ⟨l, f⟩ := selK_get e2
        refine ⟨by simp [l], fun i j' e => ?_⟩
        cases i with
        | zero => simp at e; subst e; exact ⟨c, e1, rfl, hc⟩
        | succ i => obtain ⟨c', y1, y2, y3⟩ := f i j' (by simpa using e); exact ⟨c', y1, by simpa using y2, y3⟩
      · cases h
    · cases h
theorem selAs_ok {js : List Nat} (hr : ∀ (i j : Nat) (p : Addr), js[i]? = some j → ρ[j]? = some p → ρ'[i]? = some p) : ∀ {as asl : List AV} {vs : List V}, selAs js as = some asl → Reps K B ρ as vs → Reps K B ρ' asl vs
  | [], _, _, h, r => by cases h; cases r; exact .nil
  | a :: as, _, _, h, r => by
    unfold selAs at h
    split at h
    · rename_i x xs e1 e2
      cases h
      cases r with
      | cons r1 r2 =>
        refine .cons ?_ (selAs_ok hr e2 r2)
        cases a with
        | d y => cases e1; exact r1
        | r y => cases e1; exact r1
        | c k =>
          obtain ⟨i, hi, rfl⟩ := Option.map_eq_some_iff.mp e1
          obtain ⟨m, rfl, hm⟩ := posIn_get hi
          obtain ⟨p, hp, rfl⟩ := r1
          exact ⟨p, by simpa using hr m k p hm hp, rfl⟩
    · cases h
theorem putK_len : ∀ (js : List Nat) (κ' κ : AK), (putK js κ' κ).length = κ.length
  | [], _, _ => by cases ‹AK› <;> rfl
  | j :: js, [], κ => rfl
  | j :: js, c :: cs, κ => by
    show (putK js cs (κ.set j c)).length = _
    rw [putK_len, List.length_set]
theorem putK_ne : ∀ {js : List Nat} {κ' κ : AK} {i : Nat}, i ∉ js → (putK js κ' κ)[i]? = κ[i]?
  | [], _, _, _, _ => by cases ‹AK› <;> rfl
  | j :: js, [], κ, i, _ => rfl
  | j :: js, c :: cs, κ, i, h => by
    show (putK js cs (κ.set j c))[i]? = _
    rw [putK_ne (fun z => h (List.mem_cons_of_mem _ z)), List.getElem?_set_ne (fun (e : j = i) => h (e ▸ List.mem_cons_self ..))]
theorem putK_at : ∀ {js : List Nat} {κ' κ : AK} {i j : Nat} {c : Cell}, js.Nodup → js[i]? = some j → κ'[i]? = some c → j < κ.length → (putK js κ' κ)[j]? = some c
  | [], _, _, _, _, _, _, h, _, _ => by simp at h
  | j' :: js, [], κ, i, j, c, _, _, h, _ => by simp at h
  | j' :: js, c' :: cs, κ, i, j, c, nd, h, h2, hl => by
    rw [List.nodup_cons] at nd
    show (putK js cs (κ.set j' c'))[j]? = _
    cases i with
    | zero =>
      simp at h h2
      subst h; subst h2
      rw [putK_ne nd.1, List.getElem?_set_self hl]
    | succ i => exact putK_at nd.2 (by simpa using h) (by simpa using h2) (by rw [List.length_set]; exact hl)
/-- from the callee's end back to the caller -/
theorem back_ok (g : G K B ρ κ H) {js : List Nat} {κl : AK} (nd : js.Nodup) (hk : selK js κ = some κl) {ρl' : List Addr} (w : Up B (selR js ρ) H B' ρl' H') (g' : G (Frg.of K.K) B' ρl' κ' H') (l : js.length ≤ κ'.length) (cl : κ'.all clC = true) (lv : (κ'.drop js.length).all liveC = true) :
    Up B ρ H B' (ρ ++ ρl'.drop js.length) H' ∧ G K B' (ρ ++ ρl'.drop js.length) (backK js κ κ') H' ∧ ∀ {a : AV} {v : V}, Rep K B' ρl' a v → Rep K B' (ρ ++ ρl'.drop js.length) (backA js κ.length a) v := by
  obtain ⟨lk, sel⟩ := selK_get hk
  have jlt : ∀ {i j : Nat}, js[i]? = some j → j < κ.length := fun h => by
    obtain ⟨c, e, _⟩ := sel _ _ h
    exact (List.getElem?_eq_some_iff.mp e).1
  have rl : ∀ {i j : Nat} {p : Addr}, js[i]? = some j → ρ[j]? = some p → ρl'[i]? = some p := fun h hp => w.p _ _ (selR_get h hp)
  have memsel : ∀ {i : Nat} {p : Addr}, ρ[i]? = some p → p ∈ selR js ρ → i ∈ js := fun {i p} hp hm => by
    unfold selR at hm
    obtain ⟨j, hj, e⟩ := List.mem_map.mp hm
    obtain ⟨m, hm⟩ := List.mem_iff_getElem?.mp hj
    have lt := jlt hm
    rw [← g.len] at lt
    rw [List.getD_eq_getElem?_getD, List.getElem?_eq_getElem lt] at e
    have : ρ[j]? = some p := by rw [List.getElem?_eq_getElem lt]; exact congrArg some e
    rw [g.inj i j p hp this]; exact hj
  have newne : ∀ {i m : Nat} {p : Addr}, ρ[i]? = some p → (ρl'.drop js.length)[m]? = some p → False := fun {i m p} h1 h2 => by
    rw [List.getElem?_drop] at h2
    by_cases hj : i ∈ js
    · obtain ⟨q, hq⟩ := List.mem_iff_getElem?.mp hj
      have := g'.inj q _ p (rl hq h1) h2
      have := (List.getElem?_eq_some_iff.mp hq).1
      omega
    · have hm : js.length + m < κ'.length := by rw [← g'.len]; exact (List.getElem?_eq_some_iff.mp h2).1
      have ok := g'.at' _ p _ h2 (List.getElem?_eq_getElem hm)
      have live : liveC κ'[js.length + m] = true := List.all_eq_true.mp lv _ (mem_of_get (by rw [List.getElem?_drop]; exact List.getElem?_eq_getElem hm))
      have bn : B' p = none ∨ ∃ ws, H' p = some (.tup ws) := by
        cases hc : κ'[js.length + m] with
        | dead => rw [hc] at live; cases live
        | ld ys => rw [hc] at ok; exact .inl ok.1
        | lst ys => rw [hc] at ok; exact .inl ok.1
        | tup ys => rw [hc] at ok; obtain ⟨vs, _, e⟩ := ok; exact .inr ⟨vs, e⟩
        | dK ys => rw [hc] at ok; exact .inl ok.1
        | dT ys => rw [hc] at ok; exact .inl ok.1
        | ins C ys => rw [hc] at ok; exact .inl ok.1
      have hi : i < κ.length := by rw [← g.len]; exact (List.getElem?_eq_some_iff.mp h1).1
      have hn := (g.at' i p _ h1 (List.getElem?_eq_getElem hi)).nn
      cases hH : H p with
      | none => exact hn hH
      | some o =>
        have fo : B p = none ∨ IsT o := by
          rcases bn with bn | ⟨ws, e⟩
          · exact .inl (w.s.free bn)
          · cases hB : B p with
            | none => exact .inl rfl
            | some u =>
              have z1 := g.ex p u hB
              rw [hH] at z1; cases z1
              have z2 := g'.ex p _ (w.s p _ hB)
              rw [e] at z2
              exact .inr ⟨ws, (Option.some.inj z2).symm⟩
        exact (w.f p o hH fo fun z => hj (memsel h1 z)).2.2 (mem_of_get h2)
  have w2 : Up B ρ H B' (ρ ++ ρl'.drop js.length) H' := ⟨w.s, fun _ _ h => get_app h, fun p o h1 h2 h3 => by
    have hp : p ∉ selR js ρ := fun z => by
      unfold selR at z
      obtain ⟨j, hj, e⟩ := List.mem_map.mp z
      obtain ⟨m, hm⟩ := List.mem_iff_getElem?.mp hj
      have lt := jlt hm
      rw [← g.len] at lt
      rw [List.getD_eq_getElem?_getD, List.getElem?_eq_getElem lt] at e
      exact h3 (by rw [← e]; exact List.getElem_mem lt)
    obtain ⟨y1, y2, y3⟩ := w.f p o h1 h2 hp
    refine ⟨y1, y2, fun z => ?_⟩
    rcases List.mem_append.mp z with z | z
    · exact h3 z
    · exact y3 (List.mem_of_mem_drop z)⟩
  have lb : (putK js κ' κ).length = ρ.length := by rw [putK_len, g.len]
  refine ⟨w2, ⟨g'.ex, ?_, fun i j p h1 h2 => ?_, fun i p c h1 h2 => ?_, K.up _ _ _ _ _ _ w2.n g.z⟩, fun {a v} r => ?_⟩
  · rw [backK_eq, List.length_append, List.length_append, lb, List.length_drop, List.length_drop, g'.len]
  · by_cases hi : i < ρ.length
    · rw [List.getElem?_append_left hi] at h1
      by_cases hj : j < ρ.length
      · rw [List.getElem?_append_left hj] at h2
        exact g.inj i j p h1 h2
      · rw [List.getElem?_append_right (by omega)] at h2
        exact (newne h1 h2).elim
    · rw [List.getElem?_append_right (by omega)] at h1
      by_cases hj : j < ρ.length
      · rw [List.getElem?_append_left hj] at h2
        exact (newne h2 h1).elim
      · rw [List.getElem?_append_right (by omega)] at h2
        rw [List.getElem?_drop] at h1 h2
        have := g'.inj _ _ p h1 h2
        omega
  · rw [backK_eq] at h2
    by_cases hi : i < ρ.length
    · rw [List.getElem?_append_left hi] at h1
      rw [List.getElem?_append_left (by omega)] at h2
      by_cases hj : i ∈ js
      · obtain ⟨q, hq⟩ := List.mem_iff_getElem?.mp hj
        have hq' : q < κ'.length := Nat.lt_of_lt_of_le (List.getElem?_eq_some_iff.mp hq).1 l
        rw [putK_at nd hq (List.getElem?_eq_getElem hq') (jlt hq)] at h2
        cases h2
        exact (g'.at' q p _ (rl hq h1) (List.getElem?_eq_getElem hq')).cl (List.all_eq_true.mp cl _ (List.getElem_mem hq'))
      · rw [putK_ne hj] at h2
        have ok := g.at' i p c h1 h2
        have hp : p ∉ selR js ρ := fun z => hj (memsel h1 z)
        refine ok.up w2.g (fun bn => ?_) fun o ho => ?_
        · obtain ⟨o, ho⟩ := Option.ne_none_iff_exists'.mp ok.nn
          exact (w.f p o ho (.inl bn) hp).2.1.imp id fun ⟨ws, z⟩ => ⟨ws, by rw [ho, z]⟩
        · cases bp : B p with
          | none => exact (w.f p o ho (.inl bp) hp).1
          | some u =>
            have e1 := g.ex p u bp
            rw [ho] at e1; cases e1
            exact g'.ex p o (w.s p o bp)
    · rw [List.getElem?_append_right (by omega), List.getElem?_drop] at h1
      rw [List.getElem?_append_right (by omega), lb, List.getElem?_drop] at h2
      exact (g'.at' _ p c h1 h2).cl (List.all_eq_true.mp cl _ (mem_of_get h2))
  · cases a with
    | d y => exact r
    | r y => exact r
    | c j =>
      obtain ⟨p, hp, rfl⟩ := r
      show Rep K B' _ (match js[j]? with | some k => .c k | none => .c (κ.length + (j - js.length))) _
      cases e : js[j]? with
      | some k =>
        have lt := jlt e
        rw [← g.len] at lt
        have e2 := rl e (List.getElem?_eq_getElem lt)
        rw [hp] at e2; cases e2
        exact ⟨_, get_app (List.getElem?_eq_getElem lt), rfl⟩
      | none =>
        have hj : js.length ≤ j := List.getElem?_eq_none_iff.mp e
        refine ⟨p, ?_, rfl⟩
        rw [← g.len, List.getElem?_append_right (by omega), List.getElem?_drop]
        have : js.length + (ρ.length + (j - js.length) - ρ.length) = j := by omega
        rw [this]; exact hp
theorem sel_ok (g : G K B ρ κ H) {js : List Nat} {κl : AK} (nd : js.Nodup) (hk : selK js κ = some κl) : G (Frg.of K.K) B (selR js ρ) κl H := by
  obtain ⟨lk, sel⟩ := selK_get hk
  have get : ∀ {i : Nat} {p : Addr}, (selR js ρ)[i]? = some p → ∃ j c, js[i]? = some j ∧ ρ[j]? = some p ∧ κ[j]? = some c ∧ κl[i]? = some c ∧ clC c = true := fun {i p} h => by
    unfold selR at h
    rw [List.getElem?_map] at h
    obtain ⟨j, hj, e⟩ := Option.map_eq_some_iff.mp h
    obtain ⟨c, e1, e2, e3⟩ := sel i j hj
    have lt : j < ρ.length := by rw [g.len]; exact (List.getElem?_eq_some_iff.mp e1).1
    rw [List.getD_eq_getElem?_getD, List.getElem?_eq_getElem lt] at e
    exact ⟨j, c, hj, by rw [List.getElem?_eq_getElem lt]; exact congrArg some e, e1, e2, e3⟩
  refine ⟨g.ex, by unfold selR; rw [List.length_map, lk], fun i i' p h1 h2 => ?_, fun i p c h1 h2 => ?_, True.intro⟩
  · obtain ⟨j, _, y1, y2, _⟩ := get h1
    obtain ⟨j', _, z1, z2, _⟩ := get h2
    have e := g.inj j j' p y2 z2
    subst e
    have l1 := (List.getElem?_eq_some_iff.mp y1)
    have l2 := (List.getElem?_eq_some_iff.mp z1)
    obtain ⟨a1, b1⟩ := l1
    obtain ⟨a2, b2⟩ := l2
    exact (List.getElem_inj nd).mp (b1.trans b2.symm)
  · obtain ⟨j, c', y1, y2, y3, y4, y5⟩ := get h1
    rw [h2] at y4; cases y4
    exact (g.at' j p c y2 y3).cl y5
theorem se_call {F : FSp} {ta : TA} {fa : AA} {E : XK} {E' : AX → AK → Prop} (ha : SA K ta fa) (hx : ∀ B' ρ' κ' H' x cls d, G K B' ρ' κ' H' → E' x κ' → RepX K B' x cls d → E cls d H') : SE K (tCall (spA K F) [] E ta) (aCall F E' fa) := fun B ρ δ κ σ H R Q s g h q =>
  ha B ρ δ κ σ H _ _ s g h fun B1 ρ1 κ1 H1 as vs w1 g1 r1 hcw => by
    obtain ⟨js, asl, κl, nd, e1, e2, hF⟩ := callW_e hcw
    show spA K F (vs ++ []) H1 Q E
    rw [List.append_nil]
    refine ⟨B1, selR js ρ1, κl, asl, _, _, sel_ok g1 nd e2, selAs_ok (fun i j p h1 h2 => selR_get h1 h2) e1 r1, hF, ?_, ?_⟩
    · rintro B' ρ' κ' H' a v w2 g2 r2 ⟨l, cl, lv, hR⟩
      obtain ⟨w3, g3, r3⟩ := back_ok g1 nd e2 w2 g2 l cl lv
      exact q _ _ _ _ _ _ (w1.trans w3) g3 (r3 r2) hR
    · rintro B' ρ' κ' H' x cls d w2 g2 r2 ⟨l, cl, lv, hR⟩
      obtain ⟨w3, g3, r3⟩ := back_ok g1 nd e2 w2 g2 l cl lv
      exact hx _ _ _ _ _ _ _ g3 hR r2
section
variable {l : Nat} {fa : Addr} {fd : FuncData} {ps : List Str} {F : FSp} {x : Str} {q pos : Pos} {es : List Expr} {ta : TA} {ga : AA}
/-- f(..) of a def from which nothing is raised -/
theorem ea_call (Fo : FnOk X.prog X.w X.K X.mg X.base CX0 l fa fd ps (spA K F)) (hr : Room l X.A) (hg : Gl X x) (hm : X.mg x = some (.ref fa)) (hk : PySem.W.keepIn X.K (.ref fa) = true) (hb : Binds X.K fd ps []) (ha : PAa K X (e :: es) ta ga)
    (hdb : (x == ("__debug__" : Str)) = false := by decide) (he : starEach (e :: es) X.env = (false, eval e X.env) :: starEach es X.env := by rfl) (hpl : (backTo pos (starEach es X.env)).any (·.1) = false := by rfl) (hK : X.K = K := by rfl) :
    PEa K X (.Call (.Name x q) (e :: es) [] pos) (tCall (spA K F) [] E0 ta) (aCall F (fun _ _ => False) ga) := by
  obtain ⟨K, Kn, KZ, Ku⟩ := K
  change X.K = K at hK
  subst hK
  exact ⟨pe_call Fo hr hg hm hk hb .nil pass0 ha.pa hdb he hpl, se_call ha.sd fun _ _ _ _ _ _ _ _ h => h.elim⟩
end
end Ab
set_option Elab.async false
set_option linter.all false
set_option maxRecDepth 100000
set_option maxHeartbeats 4000000
/-! Ab7: the law's own promise, constants of the top, small things -/
namespace Ab
open PySem L2
variable {K : PySem.W.Frag} {B B' H H' : Hp} {ρ ρ' : List Addr} {κ κ' : AK} {X : Cx}
/-- the law: True at every script -/
def F_law : FSp := fun as κ R _ => ∃ ns : List Int, as = [.d (.list (ns.map .int))] ∧ κ = [] ∧ ns.length ≤ 63 ∧ R (.d (.bool true)) []
theorem dpa_ints : ∀ ns : List Int, DpAll K B (ns.map V.int) (ns.map .int)
  | [] => .nil
  | n :: ns => .cons (.int n) (dpa_ints ns)
theorem law_start {H : Hp} {a : Addr} {ns : List Int} (hl : ns.length ≤ 63) (hS : SqL K H a (ns.map V.int)) : spA K F_law [.ref a] H (fun v _ => v = .bl true) (fun _ _ _ => False) :=
  ⟨H, [], [], [.d (.list (ns.map .int))], fun a _ => a = .d (.bool true), fun _ _ => False, ⟨Same.refl H, rfl, fun i j p h => by simp at h, fun k p c h => by simp at h, True.intro⟩, .cons (.lst hS (dpa_ints ns)) .nil, ⟨ns, rfl, rfl, hl, rfl⟩,
    fun B' ρ' κ' H' a v w g r e => by subst e; exact r.bool, fun _ _ _ _ _ _ _ _ _ _ h => h.elim⟩
theorem len_law : ∀ as κ R E', F_law as κ R E' → as.length = (["script"] : List Str).length := by
  rintro as κ R E' ⟨ns, rfl, _⟩; rfl
theorem fd_all {P : Program} {w : World} {mg : Str → Option Value} {l : Nat} {fa : Addr} {sp : Sp} (h : ∃ fd : FuncData, (∀ (s : Shared) (v : Value), BindsTo s fd ⟨[v], []⟩ [("script", v)]) ∧ ∀ (P : Program) (w : World) (base : Heap), FnOk P w K mg base CX0 l fa fd ["script"] sp) :
    ∃ fd : FuncData, (∀ (s : Shared) (v : Value), BindsTo s fd ⟨[v], []⟩ [("script", v)]) ∧ ∀ base : Heap, K.In base → base.Ns mainGlobals mg → FnOk P w K mg base CX0 l fa fd ["script"] sp := by
  obtain ⟨fd, h1, h2⟩ := h
  exact ⟨fd, h1, fun base _ _ => h2 P w base⟩
theorem sp_imp {F F' : FSp} (h : ∀ as κ R E', F as κ R E' → F' as κ R E') {vs : List V} {Q : VK} {E : XK} (s : spA K F vs H Q E) : spA K F' vs H Q E := by
  obtain ⟨B, ρ, κ, as, R, E', g, r, f, q⟩ := s
  exact ⟨B, ρ, κ, as, R, E', g, r, h _ _ _ _ f, q⟩
/-- a tuple of texts of the top -/
inductive StrVals : List Value → List PyData → Prop where
  | nil : StrVals [] []
  | cons (x : Str) (t : Tok) {vs : List Value} {ds : List PyData} : StrVals vs ds → StrVals (.str x t :: vs) (.str x :: ds)
theorem strVals_v {vs : List Value} {ds : List PyData} (h : StrVals vs ds) : ∃ xs : List V, Vals xs vs ∧ DpAll K B xs ds := by
  induction h with
  | nil => exact ⟨[], .nil, .nil⟩
  | cons x t _ ih => obtain ⟨xs, h1, h2⟩ := ih; exact ⟨.str x :: xs, .cons ⟨t, rfl⟩ h1, .cons (.str x) h2⟩
theorem dp_strs {a : Addr} {o : Obj} {n : Nat} {vs : Array Value} {ds : List PyData} (h : K.lookup a = some o) (hc : o.cls = .type "tuple") (hd : o.data = .seq vs n) (hz : vs.size ≤ sizeLine) (hs : StrVals vs.toList ds) : Dp K B (.ref a) (.tuple ds) := by
  obtain ⟨xs, h1, h2⟩ := strVals_v (K := K) (B := B) hs
  exact .tup (.inr ⟨o, vs, n, h, hc, hd, hz, h1⟩) h2
/-- min of two numbers -/
def aMin2 : List AV → AK → AR → Prop := fun as κ R => match as with
  | [.d (.int i), .d (.int j)] => R (.d (.int (if j < i then j else i))) κ
  | _ => False
theorem ca_min {K : Frg} (hc : X.calm = true) : CallA K X (.builtin "min") (fun xs H Q => ∃ i j, xs = [.int i, .int j] ∧ Q (.int (if j < i then j else i)) H) aMin2 := ⟨call_min2 hc, fun B ρ κ H xs as R Q g rs h q => by
  unfold aMin2 at h
  split at h
  · obtain ⟨x, y, rfl, r1, r2⟩ := reps2 rs
    exact ⟨_, _, by rw [r1.int, r2.int], q.at0 g (rp_int _) h⟩
  · exact h.elim⟩
/-- isinstance's answers -/
theorem kit_b (a b : String) (r : Bool) (h : kitB a b = some r) : kitB a b = some r := h

/-! comprehensions: over known items, over a range, over a text, over the cell at k -/
variable {ag : AG} {pt : AT} {f : AE} {vs : List Nat} {δ : AD} {κ1 : AK} {R : AR}
theorem lc_d {xs : List PyData} (Pv : Nat → List PyData → AK → Prop) (h0 : Pv 0 [] κ1) (hd : ∀ acc κ', Pv xs.length acc κ' → R (.d (.list acc)) κ')
    (hs : ∀ i x acc κ', xs[i]? = some x → Pv i acc κ' → ag (.d x) (wipeA δ vs) κ' fun δ2 κ2 => pt δ2 κ2 fun b κ3 => bsel b (f δ2 κ3 fun y κ4 => ∃ d, y = .d d ∧ acc.length < sizeLine ∧ Pv (i + 1) (acc ++ [d]) κ4) (Pv (i + 1) acc κ3)) : LcW (itD xs) ag pt f vs δ κ1 R := by
  refine lcw.mpr ⟨fun i m acc κ' => m = xs.length - i ∧ i ≤ xs.length ∧ Pv i acc κ', ⟨_, rfl, Nat.zero_le _, h0⟩, ?_⟩
  rintro i m acc κ' ⟨rfl, hi, p⟩
  by_cases hlt : i < xs.length
  · refine .inr ⟨hlt, Pv (i + 1), fun _ _ q => ⟨xs.length - (i + 1), by omega, rfl, hlt, q⟩, ?_⟩
    rintro a ⟨x, hx, rfl⟩
    exact hs i x acc κ' hx p
  · have e : i = xs.length := by omega
    subst e
    exact .inl ⟨Nat.le_refl _, hd _ _ p⟩
theorem lc_r {lo : Int} {N : Nat} (Pv : Nat → List PyData → AK → Prop) (h0 : Pv 0 [] κ1) (hd : ∀ acc κ', Pv N acc κ' → R (.d (.list acc)) κ')
    (hs : ∀ i acc κ', i < N → Pv i acc κ' → ag (.d (.int (lo + i))) (wipeA δ vs) κ' fun δ2 κ2 => pt δ2 κ2 fun b κ3 => bsel b (f δ2 κ3 fun y κ4 => ∃ d, y = .d d ∧ acc.length < sizeLine ∧ Pv (i + 1) (acc ++ [d]) κ4) (Pv (i + 1) acc κ3)) : LcW (itR lo N) ag pt f vs δ κ1 R := by
  refine lcw.mpr ⟨fun i m acc κ' => m = N - i ∧ i ≤ N ∧ Pv i acc κ', ⟨_, rfl, Nat.zero_le _, h0⟩, ?_⟩
  rintro i m acc κ' ⟨rfl, hi, p⟩
  by_cases hlt : i < N
  · refine .inr ⟨hlt, Pv (i + 1), fun _ _ q => ⟨N - (i + 1), by omega, rfl, hlt, q⟩, ?_⟩
    rintro a rfl
    exact hs i acc κ' hlt p
  · have e : i = N := by omega
    subst e
    exact .inl ⟨Nat.le_refl _, hd _ _ p⟩
theorem lc_c {k : Nat} {xs : List PyData} (Pv : Nat → List PyData → AK → Prop) (h0 : Pv 0 [] κ1) (hk : ∀ i acc κ', Pv i acc κ' → κ'[k]? = some (.ld xs)) (hd : ∀ acc κ', Pv xs.length acc κ' → R (.d (.list acc)) κ')
    (hs : ∀ i x acc κ', xs[i]? = some x → Pv i acc κ' → ag (.d x) (wipeA δ vs) κ' fun δ2 κ2 => pt δ2 κ2 fun b κ3 => bsel b (f δ2 κ3 fun y κ4 => ∃ d, y = .d d ∧ acc.length < sizeLine ∧ Pv (i + 1) (acc ++ [d]) κ4) (Pv (i + 1) acc κ3)) : LcW (itC k) ag pt f vs δ κ1 R := by
  refine lcw.mpr ⟨fun i m acc κ' => m = xs.length - i ∧ i ≤ xs.length ∧ Pv i acc κ', ⟨_, rfl, Nat.zero_le _, h0⟩, ?_⟩
  rintro i m acc κ' ⟨rfl, hi, p⟩
  by_cases hlt : i < xs.length
  · refine .inr ⟨⟨xs, hk _ _ _ p, hlt⟩, Pv (i + 1), fun _ _ q => ⟨xs.length - (i + 1), by omega, rfl, hlt, q⟩, ?_⟩
    rintro a ⟨ys, x, hy, hx, rfl⟩
    rw [hk _ _ _ p] at hy; cases hy
    exact hs i x acc κ' hx p
  · have e : i = xs.length := by omega
    subst e
    exact .inl ⟨⟨xs, hk _ _ _ p, Nat.le_refl _⟩, hd _ _ p⟩
/-! items at places -/
theorem at_mem {α : Type} {xs : List α} {i : Int} (h0 : 0 ≤ i) (h : i < xs.length) : ∃ w, atI xs i = some w ∧ w ∈ xs ∧ xs[i.toNat]? = some w := by
  obtain ⟨j, rfl⟩ := Int.eq_ofNat_of_zero_le h0
  have hj : j < xs.length := by omega
  exact ⟨xs[j], atI_nat (List.getElem?_eq_getElem hj), List.getElem_mem hj, by simpa using List.getElem?_eq_getElem hj⟩
theorem at_nat {α : Type} {xs : List α} {j : Nat} {w : α} (h : xs[j]? = some w) : atI xs (j : Int) = some w := atI_nat h
/-! texts -/
abbrev tl (x : Str) : List Nat := x.cps.toList
theorem tl_app (a b : Str) : tl (a ++ b) = tl a ++ tl b := by
  show (a.cps ++ b.cps).toList = _
  rw [Array.toList_append]
theorem tl_len (a : Str) : a.length = (tl a).length := by
  show a.cps.size = a.cps.toList.length
  rw [Array.length_toList]
theorem tl_inj {a b : Str} (h : tl a = tl b) : a = b := by
  obtain ⟨x⟩ := a
  obtain ⟨y⟩ := b
  congr 1
  exact Array.toList_inj.mp h
theorem tl_one (c : Nat) : tl ⟨#[c]⟩ = [c] := rfl
theorem inD_str (z : Str) (xs : List Str) : inD (.str z) (xs.map .str) = decide (z ∈ xs) := by
  induction xs with
  | nil => rfl
  | cons x xs ih =>
    show (x == z || inD (.str z) (xs.map .str)) = _
    rw [ih, Bool.eq_iff_iff]
    simp only [Bool.or_eq_true, beq_iff_eq, decide_eq_true_eq, List.mem_cons]
    constructor
    · rintro (h | h)
      · exact .inl h.symm
      · exact .inr h
    · rintro (h | h)
      · exact .inl h.symm
      · exact .inr h
theorem flat_strs (xs : List Str) : (xs.map PyData.str).all flatD = true := by
  induction xs with
  | nil => rfl
  | cons x xs ih => exact ih
/-! slots forgotten -/
theorem wipeA_some {δ : AD} : ∀ {vs : List Nat} {i : Nat} {a : AV}, (wipeA δ vs)[i]? = some (some a) → δ[i]? = some (some a)
  | [], _, _, h => h
  | v :: vs, i, a, h => by
    have h : ((wipeA δ vs).set v none)[i]? = some (some a) := h
    rw [List.getElem?_set] at h
    split at h
    · split at h <;> cases h
    · exact wipeA_some h
theorem wipeA_len (δ : AD) : ∀ vs : List Nat, (wipeA δ vs).length = δ.length
  | [] => rfl
  | v :: vs => by
    show ((wipeA δ vs).set v none).length = _
    rw [List.length_set, wipeA_len]
theorem GhS.wipe {n : Nat} {δ : AD} (vs : List Nat) (l : n ≤ κ.length) : GhS K n δ κ (wipeA δ vs) κ := GhS.forget l (wipeA_len δ vs) fun _ _ h => wipeA_some h
end Ab
set_option Elab.async false
set_option linter.all false
set_option maxRecDepth 100000
set_option maxHeartbeats 4000000
/-! Ab8: lists one behind the other, pop, insert, tuple(x), join, f-strings, dicts -/
namespace Ab
open PySem L2
variable {K : Frg} {B B' B2 H H' H2 : Hp} {ρ ρ' ρ2 : List Addr} {κ κ' : AK} {δ : AD} {σ : L2.St} {p : Addr} {k : Nat} {v x y z : V} {a b c : AV}
variable {X : Cx} {e e2 : Expr} {t u : TE} {f f2 : AE} {pos : Pos}

/-! ### items -/
/-- the items of a list of data -/
def ldOf (κ : AK) : AV → Option (List PyData)
  | .d (.list xs) => some xs
  | .c k => match κ[k]? with
    | some (.ld xs) => some xs
    | _ => none
  | _ => none
theorem ldOf_ok (g : G K B ρ κ H) (r : Rep K B ρ a v) {xs : List PyData} (h : ldOf κ a = some xs) : ∃ p vs, v = .ref p ∧ SqL K H p vs ∧ DpAll K B vs xs := by
  unfold ldOf at h
  split at h
  · cases h; exact of_listG g r
  · obtain ⟨p, hp, rfl⟩ := r
    split at h
    · rename_i ys ek
      cases h
      obtain ⟨p', hp', _, vs, d1, eH⟩ := g.cell ek
      rw [hp] at hp'; cases hp'
      exact ⟨p, vs, rfl, .inl (.inl eH), d1⟩
    · cases h
  · cases h
def rCatS (K : PySem.W.Frag) : R2 := fun x y H Q => ∃ l b xs zs, x = .ref l ∧ y = .ref b ∧ SqL K H l xs ∧ SqL K H b zs ∧ xs.length + zs.length ≤ sizeLine ∧ ∀ p, H p = none → Q (.ref p) (upd H p (.lst (xs ++ zs)))
theorem op_catS : OpR X (binaryOp .Add) (rCatS X.K) := by
  intro pins s σ H x y v u Q I rx ry h
  obtain ⟨l, b, xs, zs, rfl, rfl, hx, hy, hz, q⟩ := h
  cases rx
  cases ry
  obtain ⟨its, r1, ⟨⟨cls, dd, data, sl⟩, n, ho, hc, hdn, hd⟩, _⟩ := I.list hx
  obtain ⟨its2, r2, ⟨⟨cls2, dd2, data2, sl2⟩, n2, ho2, hc2, hdn2, hd2⟩, _⟩ := I.list hy
  simp only at hc hd hc2 hd2
  subst hc hd hc2 hd2
  have e1 := r1.length
  have e2 := r2.length
  have e : its.toArray ++ its2.toArray = (its ++ its2).toArray := by simp
  refine concat_meets ⟨_, ho, rfl⟩ ⟨_, ho2, rfl⟩ noFill_list_add seq_list_add PySem.F.slot_list_add PySem.F.entry_list_add (PySem.F.args_list_add_2 _ _) (PyProof.Rows.list_addW l b its.toArray its2.toArray n n2 dd dd2 sl sl2 (by simp only [List.size_toArray]; omega)) ⟨ho, ho2, ?_⟩
  rw [e]
  exact ⟨.ref _, _, I.lnew (t' := s.toks) (r1.append r2) (by rw [List.length_append]; omega), rfl, q _ I.fresh⟩
/-- lists one behind the other: a new list as data, as a cell -/
def aCat (m : Bool) : AO := fun a b κ R => ∃ xs ys, ldOf κ a = some xs ∧ ldOf κ b = some ys ∧ xs.length + ys.length ≤ sizeLine ∧ (match m with
  | true => R (.c κ.length) (κ ++ [.ld (xs ++ ys)])
  | false => R (.d (.list (xs ++ ys))) κ)
theorem oa_cat (m : Bool) (hK : X.K = K := by rfl) : OpA K X (binaryOp .Add) (rCatS K) (aCat m) := by
  obtain ⟨K, Kn, KZ, Ku⟩ := K
  change X.K = K at hK
  subst hK
  refine ⟨op_catS, ?_⟩
  intro B ρ κ H x y a b R Q g rx ry h q
  obtain ⟨xs, ys, h1, h2, hz, h⟩ := h
  obtain ⟨p, vs, rfl, s1, d1⟩ := ldOf_ok g rx h1
  obtain ⟨p', vs', rfl, s2, d2⟩ := ldOf_ok g ry h2
  refine ⟨_, _, vs, vs', rfl, rfl, s1, s2, by rw [dpa_len d1, dpa_len d2]; exact hz, fun p hp => ?_⟩
  cases m with
  | true =>
    obtain ⟨u4, g4, r4⟩ := new_ld g hp (dpa_app d1 d2)
    exact q _ _ _ _ _ _ u4 g4 r4 h
  | false =>
    obtain ⟨u4, g4, r4⟩ := new_lst g hp (dpa_app d1 d2)
    exact q _ _ _ _ _ _ u4 g4 r4 h
/-- a text none or one times -/
def aMulS : AO := fun a b κ R => match a, b with
  | .d (.str s), .d (.int n) => (n = 0 ∧ R (.d (.str Str.empty)) κ) ∨ (n = 1 ∧ R (.d (.str s)) κ)
  | _, _ => False
def rMulS : R2 := fun x y H Q => ∃ s n, x = .str s ∧ y = .int n ∧ ((n = 0 ∧ Q (.str Str.empty) H) ∨ (n = 1 ∧ Q (.str s) H))
theorem op_mulS : OpR X (binaryOp .Mult) rMulS := by
  intro pins s σ H x y v u Q I rx ry h
  obtain ⟨z, n, rfl, rfl, h⟩ := h
  obtain ⟨t, rfl⟩ := rx
  obtain ⟨t2, rfl⟩ := ry
  rcases h with ⟨rfl, q⟩ | ⟨rfl, q⟩
  · exact PySem.SB.mul ⟨by decide, fun h => absurd (by decide) h, fun h => absurd (by decide) h⟩ fun t' k => ⟨.str _, H, I.tok k, ⟨t', rfl⟩, q⟩
  · exact PySem.SB.mul ⟨by decide, fun _ h => (by simp at h), fun _ h => (by simp at h)⟩ fun t' k => ⟨.str z, H, I.tok k, ⟨t', rfl⟩, q⟩
theorem oa_mulS : OpA K X (binaryOp .Mult) rMulS aMulS := by
  refine ⟨op_mulS, ?_⟩
  intro B ρ κ H x y a b R Q g rx ry h q
  unfold aMulS at h
  split at h
  · refine ⟨_, _, rx.str, ry.int, ?_⟩
    rcases h with ⟨e, h⟩ | ⟨e, h⟩
    · exact .inl ⟨e, q.at0 g (rp_str _) h⟩
    · exact .inr ⟨e, q.at0 g (rp_str _) h⟩
  · exact h.elim

/-! ### tuple(x) -/
def aTupOf : List AV → AK → AR → Prop := fun as κ R => match as with
  | [.d (.tuple ds)] => R (.d (.tuple ds)) κ
  | [a] => ∃ ds, ldOf κ a = some ds ∧ R (.d (.tuple ds)) κ
  | _ => False
theorem ca_tuple (hK : X.K = K := by rfl) : CallA K X (.type "tuple") (fun xs H Q => ∃ p ys, xs = [.ref p] ∧ ((SqL K H p ys ∧ ∀ l, H l = none → Q (.ref l) (upd H l (.tup ys))) ∨ (SqT K H p ys ∧ Q (.ref p) H))) aTupOf := by
  obtain ⟨K, Kn, KZ, Ku⟩ := K
  change X.K = K at hK
  subst hK
  refine ⟨call_tuple_of, fun B ρ κ H xs as R Q g rs h q => ?_⟩
  unfold aTupOf at h
  split at h
  · obtain ⟨x, rfl, r⟩ := reps1 rs
    have r' := r
    obtain ⟨p, vs, rfl, s1, d1⟩ := of_tupG g r
    exact ⟨p, vs, rfl, .inr ⟨s1, q.at0 g r' h⟩⟩
  · obtain ⟨x, rfl, r⟩ := reps1 rs
    obtain ⟨ds, hd, h⟩ := h
    obtain ⟨p, vs, rfl, s1, d1⟩ := ldOf_ok g r hd
    refine ⟨p, vs, rfl, .inl ⟨s1, fun l hl => ?_⟩⟩
    obtain ⟨u4, g4, r4⟩ := new_tup g hl d1
    exact q _ _ _ _ _ _ u4 g4 r4 h
  · exact h.elim

/-! ### methods -/
theorem dpa_erase : ∀ {ds : List PyData} {vs : List V} (n : Nat), DpAll K B vs ds → DpAll K B (vs.eraseIdx n) (ds.eraseIdx n)
  | [], _, n, h => by cases h; simp; exact .nil
  | d :: ds, _, n, h => by
    cases h with
    | cons h1 h2 =>
      cases n with
      | zero => exact h2
      | succ n => exact .cons h1 (dpa_erase n h2)
/-- xs.pop(i), i not below 0 -/
def aPopAt : AV → List AV → AK → AR → Prop := fun a as κ R => match a, as with
  | .c k, [.d (.int i)] => ∃ xs w, κ[k]? = some (.ld xs) ∧ 0 ≤ i ∧ i < 2 ^ 63 ∧ xs[i.toNat]? = some w ∧ R (.d w) (κ.set k (.ld (xs.eraseIdx i.toNat)))
  | _, _ => False
theorem ma_popAt : MtA K X "list.pop" rPopAt aPopAt := by
  refine ⟨mt_popAt, fun B ρ κ H x xs a as R Q g rx rs h q => ?_⟩
  unfold aPopAt at h
  split at h
  · rename_i k i
    obtain ⟨p, hp, rfl⟩ := rx
    obtain ⟨y, rfl, ry⟩ := reps1 rs
    obtain ⟨ys, w, ek, h0, h63, hw, h⟩ := h
    obtain ⟨vs, r, eH, wr⟩ := g.ldAt hp ek
    obtain ⟨v, hv, rv⟩ := dpa_get r hw
    obtain ⟨u2, g2⟩ := wr _ _ (dpa_erase i.toNat r)
    have hl : i.toNat < vs.length := (List.getElem?_eq_some_iff.mp hv).1
    refine ⟨p, vs, i, i.toNat, v, rfl, by rw [ry.int], eH, by omega, h63, ?_, hv, q _ _ _ _ (.d w) _ u2 g2 (dp_up u2.s _ _ rv) h⟩
    have hneg : ¬ i < 0 := by omega
    have hpos : (decide (0 ≤ i) && decide (i < (vs.length : Int))) = true := by rw [Bool.and_eq_true]; exact ⟨decide_eq_true h0, decide_eq_true (by omega)⟩
    simp [seqIndex?, hneg, h0]
    omega
  · exact h.elim
/-- xs.pop() -/
def aPop : AV → List AV → AK → AR → Prop := fun a as κ R => match a, as with
  | .c k, [] => ∃ xs w, κ[k]? = some (.ld (xs ++ [w])) ∧ R (.d w) (κ.set k (.ld xs))
  | _, _ => False
theorem ma_pop : MtA K X "list.pop" rPop aPop := by
  refine ⟨mt_pop, fun B ρ κ H x xs a as R Q g rx rs h q => ?_⟩
  unfold aPop at h
  split at h
  · rename_i k
    obtain ⟨p, hp, rfl⟩ := rx
    cases rs
    obtain ⟨ys, w, ek, h⟩ := h
    obtain ⟨vs, r, eH, wr⟩ := g.ldAt hp ek
    have hl := dpa_len r
    rw [List.length_append, List.length_singleton] at hl
    obtain ⟨v, hv, rv⟩ := dpa_get r (i := ys.length) (d := w) (by simp)
    have r2 : DpAll K B vs.dropLast ys := by
      have := dpa_take (vs.length - 1) r
      rw [← List.dropLast_eq_take, List.take_append_of_le_length (by omega), List.take_of_length_le (by omega)] at this
      exact this
    obtain ⟨u2, g2⟩ := wr _ _ r2
    refine ⟨p, vs, v, rfl, rfl, eH, by rw [hl]; exact hv, q _ _ _ _ (.d w) _ u2 g2 (dp_up u2.s _ _ rv) h⟩
  · exact h.elim
/-- xs.insert(i, y), i not below 0 -/
def aInsert : AV → List AV → AK → AR → Prop := fun a as κ R => match a, as with
  | .c k, [.d (.int i), .d z] => ∃ xs, κ[k]? = some (.ld xs) ∧ xs.length < sizeLine ∧ 0 ≤ i ∧ i < 2 ^ 63 ∧ R (.d .none) (κ.set k (.ld (xs.take i.toNat ++ [z] ++ xs.drop i.toNat)))
  | _, _ => False
theorem ma_insert : MtA K X "list.insert" (fun x vs H Q => ∃ (l : Addr) (xs : List V) (i : Int) (y : V), x = .ref l ∧ vs = [.int i, y] ∧ H l = some (.lst xs) ∧ xs.length < sizeLine ∧ 0 ≤ i ∧ i < 2 ^ 63 ∧
    Q .non (upd H l (.lst (xs.take i.toNat ++ [y] ++ xs.drop i.toNat)))) aInsert := by
  refine ⟨mt_insert, fun B ρ κ H x xs a as R Q g rx rs h q => ?_⟩
  unfold aInsert at h
  split at h
  · obtain ⟨p, hp, rfl⟩ := rx
    obtain ⟨y, z, rfl, r1, r2⟩ := reps2 rs
    obtain ⟨ys, ek, hl, h0, h1, h⟩ := h
    obtain ⟨vs, r, eH, wr⟩ := g.ldAt hp ek
    obtain ⟨u2, g2⟩ := wr _ _ (dpa_app (dpa_app (dpa_take _ r) (.cons r2 .nil)) (dpa_drop _ r))
    exact ⟨p, vs, _, z, rfl, by rw [r1.int], eH, by rw [dpa_len r]; exact hl, h0, h1, q _ _ _ _ _ _ u2 g2 rp_non h⟩
  · exact h.elim
theorem dpa_strs : ∀ {ys : List Str} {vs : List V}, DpAll K B vs (ys.map .str) → vs = ys.map V.str
  | [], _, h => by cases h; rfl
  | y :: ys, _, h => by
    cases h with
    | cons h1 h2 =>
      cases h1
      rw [dpa_strs h2]; rfl
/-- s.join(x) -/
def aJoin : AV → List AV → AK → AR → Prop := fun a as κ R => match a, as with
  | .d (.str s), [.d (.tuple ds)] => ∃ ys : List Str, ds = ys.map .str ∧ (ys.map (·.length)).sum + ys.length * s.length ≤ 16777216 ∧ R (.d (.str (Txt.join s ys))) κ
  | .d (.str s), [b] => ∃ ys : List Str, ldOf κ b = some (ys.map .str) ∧ (ys.map (·.length)).sum + ys.length * s.length ≤ 16777216 ∧ R (.d (.str (Txt.join s ys))) κ
  | _, _ => False
theorem ma_join (hK : X.K = K := by rfl) : MtA K X "str.join" (fun x xs H Q => ∃ a p, ∃ ys : List Str, x = .str a ∧ xs = [.ref p] ∧ (SqL K H p (ys.map V.str) ∨ SqT K H p (ys.map V.str)) ∧
    (ys.map (·.length)).sum + ys.length * a.length ≤ 16777216 ∧ Q (.str (Txt.join a ys)) H) aJoin := by
  obtain ⟨K, Kn, KZ, Ku⟩ := K
  change X.K = K at hK
  subst hK
  refine ⟨mt_join, fun B ρ κ H x xs a as R Q g rx rs h q => ?_⟩
  unfold aJoin at h
  split at h
  · obtain ⟨y, rfl, ry⟩ := reps1 rs
    cases rx.str
    obtain ⟨ys, rfl, hz, h⟩ := h
    obtain ⟨p, vs, rfl, s1, d1⟩ := of_tupG g ry
    obtain rfl := dpa_strs d1
    exact ⟨_, p, ys, rfl, rfl, .inr s1, hz, q.at0 g (rp_str _) h⟩
  · obtain ⟨y, rfl, ry⟩ := reps1 rs
    cases rx.str
    obtain ⟨ys, hl, hz, h⟩ := h
    obtain ⟨p, vs, rfl, s1, d1⟩ := ldOf_ok g ry hl
    obtain rfl := dpa_strs d1
    exact ⟨_, p, ys, rfl, rfl, .inl s1, hz, q.at0 g (rp_str _) h⟩
  · exact h.elim

/-! ### f-strings -/
def aFmt (f : AE) : AE := fun δ κ R => f δ κ fun a κ1 => match a with
  | .d (.str y) => y.length ≤ sizeLine ∧ R (.d (.str y)) κ1
  | .d (.int i) => i.natAbs.log2 < 1920 ∧ R (.d (.str (toString i))) κ1
  | _ => False
theorem ea_fmt (h : PEa K X e t f) : PEa K X (.FormattedValue e (-1) none pos) (tFmt t) (aFmt f) :=
  ⟨pe_fmt h.pe, fun B ρ δ κ σ H R Q s g hh q => h.sd B ρ δ κ σ H _ _ s g hh fun B1 ρ1 κ1 H1 a x u1 g1 r1 h1 => by
    split at h1
    · exact .inl ⟨_, r1.str, h1.1, q _ _ _ _ _ _ u1 g1 (rp_str _) h1.2⟩
    · exact .inr ⟨_, r1.int, h1.1, q _ _ _ _ _ _ u1 g1 (rp_str _) h1.2⟩
    · exact h1.elim⟩
abbrev AJ := Str → AD → AK → (Str → AK → Prop) → Prop
def aJNil : AJ := fun acc _ κ R => R acc κ
def aJCons (f : AE) (g : AJ) : AJ := fun acc δ κ R => f δ κ fun a κ1 => match a with
  | .d (.str y) => (acc ++ y).length ≤ sizeLine ∧ g (acc ++ y) δ κ1 R
  | _ => False
def SJ (K : Frg) (ts : List TE) (g : AJ) : Prop := ∀ acc B ρ δ κ σ H (R : Str → AK → Prop) (Q : Str → Hp → Prop), S K B ρ δ σ → G K B ρ κ H → g acc δ κ R →
  (∀ B' ρ' κ' H' out, Up B ρ H B' ρ' H' → G K B' ρ' κ' H' → R out κ' → Q out H') → tJs ts acc σ H Q
structure PJa (K : Frg) (X : Cx) (es : List Expr) (ts : List TE) (g : AJ) : Prop where
  pj : PJ X es ts
  sd : SJ K ts g
variable {es : List Expr} {ts : List TE} {gj : AJ}
theorem ja_nil : PJa K X [] [] aJNil := ⟨.nil, fun acc B ρ δ κ σ H R Q s g h q => q _ _ _ _ _ Up.refl g h⟩
theorem ja_cons (h1 : PEa K X e t f) (h2 : PJa K X es ts gj) : PJa K X (e :: es) (t :: ts) (aJCons f gj) :=
  ⟨.cons h1.pe h2.pj, fun acc B ρ δ κ σ H R Q s g hh q => h1.sd B ρ δ κ σ H _ _ s g hh fun B1 ρ1 κ1 H1 a x u1 g1 r1 k1 => by
    split at k1
    · exact ⟨_, r1.str, k1.1, h2.sd _ _ _ _ _ _ _ _ _ (s.up u1.g) g1 k1.2 fun B2 ρ2 κ2 H2 out u2 g2 h2 => q _ _ _ _ _ (u1.trans u2) g2 h2⟩
    · exact k1.elim⟩
def aJoined (g : AJ) : AE := fun δ κ R => g Str.empty δ κ fun out κ1 => R (.d (.str out)) κ1
theorem ea_joined {v1 v2 : Expr} {rest : List Expr} (h : PJa K X (v1 :: v2 :: rest) ts gj) : PEa K X (.JoinedStr (v1 :: v2 :: rest) pos) (fun σ H Q => tJs ts Str.empty σ H fun out H1 => Q (.str out) H1) (aJoined gj) :=
  ⟨pe_joined h.pj, fun B ρ δ κ σ H R Q s g hh q => h.sd _ _ _ _ _ _ _ _ _ s g hh fun B1 ρ1 κ1 H1 out u1 g1 h1 => q _ _ _ _ _ _ u1 g1 (rp_str _) h1⟩

/-! ### dicts with texts and numbers as keys, data as values -/
def keyD : L2.Key → PyData
  | .inl i => .int i
  | .inr s => .str s
theorem rep_key {k : L2.Key} (h : Rep K B ρ (.d (keyD k)) v) : v = kV k := by
  cases k with
  | inl i => exact h.int
  | inr s => exact h.str
def valD (kvs : List (L2.Key × PyData)) (k : L2.Key) : Option PyData := (kvs.find? fun kv => decide (kv.1 = k)).map (·.2)
def putD (kvs : List (L2.Key × PyData)) (k : L2.Key) (v : PyData) : List (L2.Key × PyData) :=
  if (kvs.any fun kv => decide (kv.1 = k)) = true then kvs.map (fun kv => if kv.1 = k then (kv.1, v) else kv) else kvs ++ [(k, v)]
def mergeD (kvs more : List (L2.Key × PyData)) : List (L2.Key × PyData) := more.foldl (fun acc kv => putD acc kv.1 kv.2) kvs
theorem valD_pos {k k' : L2.Key} {d : PyData} {r : List (L2.Key × PyData)} (h : k' = k) : valD ((k', d) :: r) k = some d := by simp [valD, List.find?_cons, h]
theorem valD_neg {k k' : L2.Key} {d : PyData} {r : List (L2.Key × PyData)} (h : k' ≠ k) : valD ((k', d) :: r) k = valD r k := by simp [valD, List.find?_cons, h]
theorem dpks_val {kvs : List (L2.Key × PyData)} {ws : List (L2.Key × V)} {k : L2.Key} {d : PyData} (h : DpKs K B kvs ws) : valD kvs k = some d → ∃ v, valV ws k = some v ∧ Dp K B v d := by
  unfold DpKs at h
  induction h with
  | nil => intro e; cases e
  | @cons p q ps qs h1 h2 ih =>
    obtain ⟨k1, d1⟩ := p
    obtain ⟨k2, v2⟩ := q
    obtain ⟨e, r⟩ := h1
    have e : k1 = k2 := e
    subst e
    intro hd
    by_cases hk : k1 = k
    · rw [valD_pos hk] at hd
      cases hd
      exact ⟨v2, valV_pos hk, r⟩
    · rw [valD_neg hk] at hd
      obtain ⟨v, h3, h4⟩ := ih hd
      exact ⟨v, by rw [valV_neg (p := (k1, v2)) hk]; exact h3, h4⟩
theorem dpks_any {kvs : List (L2.Key × PyData)} {ws : List (L2.Key × V)} {k : L2.Key} (h : DpKs K B kvs ws) : (kvs.any fun kv => decide (kv.1 = k)) = ws.any fun kv => decide (kv.1 = k) := by
  unfold DpKs at h
  induction h with
  | nil => rfl
  | @cons p q ps qs h1 h2 ih => rw [List.any_cons, List.any_cons, ih, h1.1]
theorem dpks_app {kvs kvs2 : List (L2.Key × PyData)} {ws ws2 : List (L2.Key × V)} (h : DpKs K B kvs ws) (h2 : DpKs K B kvs2 ws2) : DpKs K B (kvs ++ kvs2) (ws ++ ws2) := by
  unfold DpKs at h
  induction h with
  | nil => exact h2
  | cons h1 _ ih => exact .cons h1 ih
theorem dpks_put {kvs : List (L2.Key × PyData)} {ws : List (L2.Key × V)} {k : L2.Key} {d : PyData} (h : DpKs K B kvs ws) (r : Dp K B v d) : DpKs K B (putD kvs k d) (L2.putK ws k v) := by
  unfold putD L2.putK
  rw [dpks_any h]
  split
  · unfold DpKs at h
    induction h with
    | nil => exact .nil
    | @cons p q ps qs h1 h2 ih =>
      rw [List.map_cons, List.map_cons]
      refine .cons ?_ ?_
      · rw [h1.1]
        by_cases hk : q.1 = k
        · rw [if_pos hk, if_pos hk]; exact ⟨rfl, r⟩
        · rw [if_neg hk, if_neg hk]; exact h1
      · rename_i hany
        by_cases ha : (qs.any fun kv => decide (kv.1 = k)) = true
        · exact ih ha
        · have none : ∀ q ∈ qs, q.1 ≠ k := fun q hq e => ha (List.any_eq_true.mpr ⟨q, hq, decide_eq_true e⟩)
          have : ∀ {ps : List (L2.Key × PyData)} {qs : List (L2.Key × V)}, Paired (fun (p : L2.Key × PyData) (q : L2.Key × V) => p.1 = q.1 ∧ Dp K B q.2 p.2) ps qs → (∀ q ∈ qs, q.1 ≠ k) →
              Paired (fun (p : L2.Key × PyData) (q : L2.Key × V) => p.1 = q.1 ∧ Dp K B q.2 p.2) (ps.map fun kv => if kv.1 = k then (kv.1, d) else kv) (qs.map fun kv => if kv.1 = k then (kv.1, v) else kv) := by
            intro ps qs hp
            induction hp with
            | nil => intro _; exact .nil
            | @cons p q ps qs h1 h2 ih =>
              intro hn
              have hq := hn q (List.mem_cons_self ..)
              rw [List.map_cons, List.map_cons, h1.1, if_neg hq, if_neg hq]
              exact .cons h1 (ih fun z hz => hn z (List.mem_cons_of_mem _ hz))
          exact this h2 none
  · exact dpks_app h (.cons ⟨rfl, r⟩ .nil)
theorem dpks_merge : ∀ {more : List (L2.Key × PyData)} {rs : List (L2.Key × V)} {kvs : List (L2.Key × PyData)} {ws : List (L2.Key × V)}, DpKs K B more rs → DpKs K B kvs ws → DpKs K B (mergeD kvs more) (mergeK ws rs) := by
  intro more rs kvs ws r
  unfold DpKs at r
  induction r generalizing kvs ws with
  | nil => intro q; exact q
  | @cons p q ps qs h t ih =>
    intro r0
    refine ih (kvs := putD kvs p.1 p.2) (ws := L2.putK ws q.1 q.2) ?_
    rw [h.1]
    exact dpks_put r0 h.2
/-- a dict cell -/
theorem G.dkAt (g : G K B ρ κ H) {xs : List (L2.Key × PyData)} (hp : ρ[k]? = some p) (ek : κ[k]? = some (.dK xs)) : ∃ vs, DpKs K B xs vs ∧ H p = some (.dK vs) ∧
    ∀ xs' vs', DpKs K B xs' vs' → Up B ρ H B ρ (upd H p (.dK vs')) ∧ G K B ρ (κ.set k (.dK xs')) (upd H p (.dK vs')) := by
  obtain ⟨p', hp', hb, vs, r, eH⟩ := g.cell ek
  rw [hp] at hp'; cases hp'
  refine ⟨vs, r, eH, fun xs' vs' r' => ⟨G.writeUp hp, ?_⟩⟩
  have hc : CellOk K B ρ (upd H p (.dK vs')) p (.dK xs') := ⟨hb, vs', r', upd_same⟩
  exact g.write hp hb hc
/-- d[y] -/
def aDGet (f f2 : AE) : AE := fun δ κ R => f δ κ fun a κ1 => f2 δ κ1 fun b κ2 => match a with
  | .c k => ∃ kvs key d, κ2[k]? = some (.dK kvs) ∧ b = .d (keyD key) ∧ valD kvs key = some d ∧ R (.d d) κ2
  | _ => False
theorem ea_dget {l : Nat} (hr : Room l X.A) (h1 : PEa K X e t f) (h2 : PEa K X e2 u f2) (hs : NoSl e2 := by exact fun _ _ => rfl) : PEa K X (.Subscript e e2 pos) (tDGet t u) (aDGet f f2) :=
  ⟨pe_dget (Nat.lt_of_le_of_lt (by omega) hr.units) h1.pe h2.pe hs, fun B ρ δ κ σ H R Q s g hh q => h1.sd B ρ δ κ σ H _ _ s g hh fun B1 ρ1 κ1 H1 a x u1 g1 r1 k1 => h2.sd _ _ _ _ _ _ _ _ (s.up u1.g) g1 k1 fun B2 ρ2 κ2 H2 b y u2 g2 r2 k2 => by
    split at k2
    · obtain ⟨kvs, key, d, ek, rfl, hv, k2⟩ := k2
      obtain ⟨p, hp, rfl⟩ := r1.up u2.g
      obtain ⟨vs, r, eH, _⟩ := g2.dkAt hp ek
      obtain ⟨v, hv', rv⟩ := dpks_val r hv
      have := rep_key r2
      subst this
      exact ⟨p, v, rfl, by rw [← hv']; exact DGet.k eH, q _ _ _ _ (.d d) _ (u1.trans u2) g2 rv k2⟩
    · exact k2.elim⟩
/-- d[y] = v -/
def aDPut (fo fi fv : AE) : AS := fun A δ κ => fv δ κ fun v κ1 => fo δ κ1 fun a κ2 => fi δ κ2 fun b κ3 => match a with
  | .c k => ∃ kvs key d, κ3[k]? = some (.dK kvs) ∧ b = .d (keyD key) ∧ v = .d d ∧ kvs.length < sizeLine ∧ A.nx δ (κ3.set k (.dK (putD kvs key d)))
  | _ => False
variable {o i val : Expr} {to' ti tv : TE} {fo fi fv : AE} {pos' : Pos}
theorem sa_dput {l : Nat} (hr : Room l X.A) (ho : PEa K X o to' fo) (hi : PEa K X i ti fi) (hv : PEa K X val tv fv) (hs : swapsWith val (some (.Subscript o i pos')) pos.line X.env = pure false := by rfl) :
    PSa K X (.Assign [.Subscript o i pos'] val pos) (sDPut to' ti tv) (aDPut fo fi fv) :=
  ⟨ps_dput (Nat.lt_of_le_of_lt (by omega) hr.units) ho.pe hi.pe hv.pe hs, fun B ρ δ κ σ H A D s g l hh im => hv.sd B ρ δ κ σ H _ _ s g hh fun B1 ρ1 κ1 H1 vv xv u1 g1 r1 k1 => ho.sd _ _ _ _ _ _ _ _ (s.up u1.g) g1 k1 fun B2 ρ2 κ2 H2 a xo u2 g2 r2 k2 => hi.sd _ _ _ _ _ _ _ _ (s.up (u1.trans u2).g) g2 k2 fun B3 ρ3 κ3 H3 b xi u3 g3 r3 k3 => by
    split at k3
    · obtain ⟨kvs, key, d, ek, rfl, rfl, hl, k3⟩ := k3
      obtain ⟨p, hp, rfl⟩ := r2.up u3.g
      obtain ⟨vs, r, eH, wr⟩ := g3.dkAt hp ek
      have := rep_key r3
      subst this
      have rd : Dp K B3 xv d := dp_up (u2.trans u3).s _ _ r1
      obtain ⟨u4, g4⟩ := wr _ _ (dpks_put (k := key) r rd)
      have w := ((u1.trans u2).trans u3).trans u4
      refine ⟨p, _, rfl, DPut.k eH (by rw [← Paired.length r]; exact hl), im.nx _ _ _ _ _ _ w.n g4 (s.up w.g) (Nat.le_trans l (w.len g g4)) k3⟩
    · exact k3.elim⟩
/-- {k: v, ..} -/
abbrev APs := AD → AK → (List (AV × AV) → AK → Prop) → Prop
def aPNil : APs := fun _ κ R => R [] κ
def aPCons (fk fv : AE) (g : APs) : APs := fun δ κ R => fk δ κ fun a κ1 => fv δ κ1 fun b κ2 => g δ κ2 fun ps κ3 => R ((a, b) :: ps) κ3
abbrev RepP (K : PySem.W.Frag) (B : Hp) (ρ : List Addr) : List (AV × AV) → List (V × V) → Prop := Paired fun p q => Rep K B ρ p.1 q.1 ∧ Rep K B ρ p.2 q.2
theorem RepP.up (w : Ug B ρ B' ρ') {as : List (AV × AV)} {vs : List (V × V)} (h : RepP K B ρ as vs) : RepP K B' ρ' as vs := Paired.mapP h fun _ _ r => ⟨r.1.up w, r.2.up w⟩
def SP (K : Frg) (ts : List (TE × TE)) (g : APs) : Prop := ∀ B ρ δ κ σ H (R : List (AV × AV) → AK → Prop) (Q : List (V × V) → Hp → Prop), S K B ρ δ σ → G K B ρ κ H → g δ κ R →
  (∀ B' ρ' κ' H' as vs, Up B ρ H B' ρ' H' → G K B' ρ' κ' H' → RepP K B' ρ' as vs → R as κ' → Q vs H') → tPairs ts σ H Q
structure PPa (K : Frg) (X : Cx) (pos : Pos) (keys : List (Option Expr)) (values : List Expr) (ts : List (TE × TE)) (g : APs) : Prop where
  pp : PPs X pos keys values ts
  sd : SP K ts g
variable {ks : List (Option Expr)} {vs : List Expr} {tps : List (TE × TE)} {gp : APs}
theorem pa_pnil : PPa K X pos [] [] [] aPNil := ⟨pps_nil, fun B ρ δ κ σ H R Q s g h q => q _ _ _ _ _ _ Up.refl g .nil h⟩
theorem pa_pcons (h1 : PEa K X e t f) (h2 : PEa K X e2 u f2) (h3 : PPa K X pos ks vs tps gp) : PPa K X pos (some e :: ks) (e2 :: vs) ((t, u) :: tps) (aPCons f f2 gp) :=
  ⟨pps_cons h1.pe h2.pe h3.pp, fun B ρ δ κ σ H R Q s g hh q => h1.sd B ρ δ κ σ H _ _ s g hh fun B1 ρ1 κ1 H1 a x u1 g1 r1 k1 => h2.sd _ _ _ _ _ _ _ _ (s.up u1.g) g1 k1 fun B2 ρ2 κ2 H2 b y u2 g2 r2 k2 =>
    h3.sd _ _ _ _ _ _ _ _ (s.up (u1.trans u2).g) g2 k2 fun B3 ρ3 κ3 H3 as ws u3 g3 r3 k3 => q _ _ _ _ _ _ ((u1.trans u2).trans u3) g3 (.cons ⟨r1.up (u2.trans u3).g, r2.up u3.g⟩ r3) k3⟩
def aDisp (g : APs) : AE := fun δ κ R => g δ κ fun ps κ1 => ∃ kvs : List (L2.Key × PyData), ps = kvs.map (fun p => (.d (keyD p.1), .d p.2)) ∧ kvs.length ≤ 15 ∧ R (.c κ1.length) (κ1 ++ [.dK (mergeD [] kvs)])
theorem repP_kvs : ∀ {kvs : List (L2.Key × PyData)} {ps : List (V × V)}, RepP K B ρ (kvs.map (fun p => (.d (keyD p.1), .d p.2))) ps → ∃ ws : List (L2.Key × V), ps = ws.map (fun p => (kV p.1, p.2)) ∧ DpKs K B kvs ws
  | [], _, h => by cases h; exact ⟨[], rfl, .nil⟩
  | p :: kvs, _, h => by
    rw [List.map_cons] at h
    cases h with
    | @cons _ b _ bs h1 h2 =>
      obtain ⟨ws, rfl, r⟩ := repP_kvs h2
      obtain ⟨b1, b2⟩ := b
      have e : b1 = kV p.1 := rep_key h1.1
      subst e
      exact ⟨(p.1, b2) :: ws, rfl, .cons ⟨rfl, h1.2⟩ r⟩
theorem ea_disp {keys : List (Option Expr)} {values : List Expr} (h : PPa K X pos keys values tps gp) (hall : keys.all (·.isSome) = true := by rfl) (hl : keys.length = values.length := by rfl) (h0 : keys ≠ [] := by exact List.cons_ne_nil _ _)
    (h15 : keys.length ≤ 15 := by decide) : PEa K X (.Dict keys values pos) (tDisp tps) (aDisp gp) :=
  ⟨pe_disp h.pp hall hl h0 h15, fun B ρ δ κ σ H R Q s g hh q => by
    intro p hp
    have hb := g.fresh hp
    have hr : p ∉ ρ := fun z => by
      obtain ⟨i, hi⟩ := List.mem_iff_getElem?.mp z
      exact g.nin hp hi rfl
    refine h.sd B ρ δ κ σ _ _ _ s (g.off hb hr (K.up _ _ _ _ _ _ (Up.refl.off hp).n g.z)) hh fun B1 ρ1 κ1 H1 as vs u1 g1 r1 h1 => ?_
    obtain ⟨kvs, rfl, h15, h1⟩ := h1
    obtain ⟨ws, rfl, rd⟩ := repP_kvs r1
    obtain ⟨eD, b1, n1⟩ := u1.f p (.dK []) upd_same (.inl hb) hr
    have b1 : B1 p = none := b1.elim id fun ⟨ws, z⟩ => by cases z
    refine ⟨eD, ws, rfl, by rw [← Paired.length rd]; exact h15, ?_⟩
    have wz : Up B ρ H B1 (ρ1 ++ [p]) (upd H1 p (.dK (mergeK [] ws))) := by
      refine ⟨u1.s, fun i a h => get_app (u1.p i a h), fun r o h1 h2 h3 => ?_⟩
      have hq := ne_of_none h1 hp
      obtain ⟨y1, y2, y3⟩ := u1.f r o (by rw [upd_ne hq]; exact h1) h2 h3
      refine ⟨by rw [upd_ne hq]; exact y1, y2, fun z => ?_⟩
      rcases List.mem_append.mp z with z | z
      · exact y3 z
      · exact hq (by simpa using z)
    -- the dict becomes a cell
    have g2 : G K B1 (ρ1 ++ [p]) (κ1 ++ [.dK (mergeD [] kvs)]) (upd H1 p (.dK (mergeK [] ws))) := by
      have hc : CellOk K B1 ρ1 (upd H1 p (.dK (mergeK [] ws))) p (.dK (mergeD [] kvs)) := ⟨b1, _, dpks_merge rd .nil, upd_same⟩
      refine ⟨fun b u e => ?_, by rw [List.length_append, List.length_append, g1.len] <;> rfl, fun i j r h1 h2 => ?_, fun i r c h1 h2 => ?_, K.up _ _ _ _ _ _ wz.n g.z⟩
      · rw [upd_ne (ne_of_none e b1)]; exact g1.ex b u e
      · rcases get_snoc h1 with ⟨l1, e1⟩ | ⟨l1, e1⟩
        · rcases get_snoc h2 with ⟨l2, e2⟩ | ⟨l2, e2⟩
          · exact g1.inj i j r e1 e2
          · subst e2; exact absurd (mem_of_get e1) n1
        · rcases get_snoc h2 with ⟨l2, e2⟩ | ⟨l2, e2⟩
          · subst e1; exact absurd (mem_of_get e2) n1
          · rw [l1, l2]
      · rcases get_snoc h1 with ⟨l1, e1⟩ | ⟨l1, e1⟩
        · rw [List.getElem?_append_left (g1.len ▸ l1)] at h2
          have hq : r ≠ p := fun z => n1 (z ▸ mem_of_get e1)
          exact (g1.at' i r c e1 h2).up up_snoc Or.inl fun o' e => by rw [upd_ne hq]; exact e
        · subst e1
          rcases get_snoc h2 with ⟨l2, e2⟩ | ⟨l2, e2⟩
          · rw [l1, g1.len] at l2; exact absurd l2 (Nat.lt_irrefl _)
          · subst e2; exact hc.up up_snoc Or.inl fun _ e => e
    exact q B1 (ρ1 ++ [p]) _ _ _ _ wz g2 (rep_new g1) h1⟩
end Ab
set_option Elab.async false
set_option linter.all false
set_option maxRecDepth 100000
set_option maxHeartbeats 4000000
/-! Ab9: objects: attributes, methods, new ones; a try from whose body nothing is raised -/
namespace Ab
open PySem L2
variable {K : Frg} {B B' B2 H H' H2 : Hp} {ρ ρ' ρ2 : List Addr} {κ κ' : AK} {δ : AD} {σ : L2.St} {p : Addr} {k : Nat} {v x y z : V} {a b c : AV}
variable {X : Cx} {e e2 : Expr} {t u : TE} {f f2 : AE} {pos : Pos}
/-! ### attributes -/
def lookA (g : Str) : List (Str × AV) → Option AV
  | [] => none
  | (h, x) :: r => if h = g then some x else lookA g r
def putA (g : Str) (v : AV) : List (Str × AV) → List (Str × AV)
  | [] => [(g, v)]
  | (h, x) :: r => if h = g then (h, v) :: r else (h, x) :: putA g v r
theorem look_cons_eq {g : Str} {v : V} {r : List (Str × V)} : List.lookup g ((g, v) :: r) = some v := by simp
theorem look_cons_ne {g h : Str} {v : V} {r : List (Str × V)} (n : h ≠ g) : List.lookup g ((h, v) :: r) = List.lookup g r := by
  have : (g == h) = false := by simpa using fun e => n (Eq.symm e)
  simp [List.lookup, this]
theorem repKs_look {g : Str} : ∀ {fs : List (Str × AV)} {ws : List (Str × V)} {b : AV}, RepKs K B ρ fs ws → lookA g fs = some b → ∃ v, ws.lookup g = some v ∧ Rep K B ρ b v
  | _, _, _, .nil, e => by cases e
  | (h, x) :: r, (h', w) :: ws, b, .cons h1 h2, e => by
    obtain ⟨e1, r1⟩ := h1
    have e1 : h = h' := e1
    subst e1
    unfold lookA at e
    by_cases hg : h = g
    · rw [if_pos hg] at e; cases e
      subst hg
      exact ⟨w, look_cons_eq, r1⟩
    · rw [if_neg hg] at e
      obtain ⟨v, h3, h4⟩ := repKs_look h2 e
      exact ⟨v, by rw [look_cons_ne hg]; exact h3, h4⟩
theorem repKs_none {g : Str} : ∀ {fs : List (Str × AV)} {ws : List (Str × V)}, RepKs K B ρ fs ws → lookA g fs = none → ws.lookup g = none
  | _, _, .nil, _ => rfl
  | (h, x) :: r, (h', w) :: ws, .cons h1 h2, e => by
    obtain ⟨e1, r1⟩ := h1
    have e1 : h = h' := e1
    subst e1
    unfold lookA at e
    by_cases hg : h = g
    · rw [if_pos hg] at e; cases e
    · rw [if_neg hg] at e
      rw [look_cons_ne hg]
      exact repKs_none h2 e
theorem repKs_put {g : Str} {b : AV} {v : V} (rb : Rep K B ρ b v) : ∀ {fs : List (Str × AV)} {ws : List (Str × V)}, RepKs K B ρ fs ws → RepKs K B ρ (putA g b fs) (putF g v ws)
  | _, _, .nil => .cons ⟨rfl, rb⟩ .nil
  | (h, x) :: r, (h', w) :: ws, .cons h1 h2 => by
    obtain ⟨e1, r1⟩ := h1
    have e1 : h = h' := e1
    subst e1
    show RepKs K B ρ (if h = g then (h, b) :: r else (h, x) :: putA g b r) (if h = g then (h, v) :: ws else (h, w) :: putF g v ws)
    by_cases hg : h = g
    · rw [if_pos hg, if_pos hg]; exact .cons ⟨rfl, rb⟩ h2
    · rw [if_neg hg, if_neg hg]; exact .cons ⟨rfl, r1⟩ (repKs_put rb h2)
theorem repKs_len : ∀ {fs : List (Str × AV)} {ws : List (Str × V)}, RepKs K B ρ fs ws → ws.length = fs.length
  | _, _, .nil => rfl
  | _ :: _, _ :: _, .cons _ h2 => congrArg (· + 1) (repKs_len h2)
theorem G.insAt (g : G K B ρ κ H) {C : Addr} {fs : List (Str × AV)} (hp : ρ[k]? = some p) (ek : κ[k]? = some (.ins C fs)) : ∃ dx ws, RepKs K B ρ fs ws ∧ H p = some (.ins C dx ws) ∧
    ∀ fs' ws', RepKs K B ρ fs' ws' → Up B ρ H B ρ (upd H p (.ins C dx ws')) ∧ G K B ρ (κ.set k (.ins C fs')) (upd H p (.ins C dx ws')) := by
  obtain ⟨p', hp', hb, dx, ws, r, eH⟩ := g.cell ek
  rw [hp] at hp'; cases hp'
  refine ⟨dx, ws, r, eH, fun fs' ws' r' => ⟨G.writeUp hp, ?_⟩⟩
  have hc : CellOk K B ρ (upd H p (.ins C dx ws')) p (.ins C fs') := ⟨hb, dx, ws', r', upd_same⟩
  exact g.write hp hb hc
/-- o.g -/
def aFld (C : Addr) (g : Str) (fo : AE) : AE := fun δ κ R => fo δ κ fun a κ1 => match a with
  | .c k => ∃ fs b, κ1[k]? = some (.ins C fs) ∧ lookA g fs = some b ∧ R b κ1
  | _ => False
theorem ea_fld {C : Addr} {g : Str} (hc : Cls K C) (hn : NoAttr K C g) (h : PEa K X e t f) (hb : attributeBase e g X.env (eval e X.env) = eval e X.env := by rfl) (hK : X.K = K := by rfl) : PEa K X (.Attribute e g pos) (tFld K t g) (aFld C g f) := by
  obtain ⟨K, Kn, KZ, Ku⟩ := K
  change X.K = K at hK
  subst hK
  exact ⟨pe_fld h.pe hb, fun B ρ δ κ σ H R Q s gg hh q => h.sd B ρ δ κ σ H _ _ s gg hh fun B1 ρ1 κ1 H1 a x u1 g1 r1 h1 => by
    split at h1
    · obtain ⟨fs, b, ek, lb, h1⟩ := h1
      obtain ⟨p, hp, rfl⟩ := r1
      obtain ⟨dx, ws, r, eH, _⟩ := g1.insAt hp ek
      obtain ⟨v, lv, rv⟩ := repKs_look r lb
      exact ⟨p, C, dx, ws, v, rfl, eH, hc, hn, lv, q _ _ _ _ _ _ u1 g1 rv h1⟩
    · exact h1.elim⟩
/-- o.g = v -/
def aFldSet (C : Addr) (g : Str) (fo fv : AE) : AS := fun A δ κ => fv δ κ fun v κ1 => fo δ κ1 fun a κ2 => match a with
  | .c k => ∃ fs, κ2[k]? = some (.ins C fs) ∧ fs.length < 1000 ∧ A.nx δ (κ2.set k (.ins C (putA g v fs)))
  | _ => False
variable {o val : Expr} {to' tv : TE} {fo fv : AE} {pos' : Pos}
theorem sa_fld {C : Addr} {g : Str} (hc : Cls K C) (hn : NoAttr K C g) (ho : PEa K X o to' fo) (hv : PEa K X val tv fv) (hs : swapsWith val (some (.Attribute o g pos')) pos.line X.env = pure false := by rfl) (hK : X.K = K := by rfl) :
    PSa K X (.Assign [.Attribute o g pos'] val pos) (sFld K to' tv g) (aFldSet C g fo fv) := by
  obtain ⟨K, Kn, KZ, Ku⟩ := K
  change X.K = K at hK
  subst hK
  exact ⟨ps_fld ho.pe hv.pe hs, fun B ρ δ κ σ H A D s gg l hh im => hv.sd B ρ δ κ σ H _ _ s gg hh fun B1 ρ1 κ1 H1 vv xv u1 g1 r1 k1 => ho.sd _ _ _ _ _ _ _ _ (s.up u1.g) g1 k1 fun B2 ρ2 κ2 H2 a xo u2 g2 r2 k2 => by
    split at k2
    · obtain ⟨fs, ek, hl, k2⟩ := k2
      obtain ⟨p, hp, rfl⟩ := r2
      obtain ⟨dx, ws, r, eH, wr⟩ := g2.insAt hp ek
      obtain ⟨u3, g3⟩ := wr _ _ (repKs_put (g := g) (r1.up u2.g) r)
      have w := (u1.trans u2).trans u3
      exact ⟨p, C, dx, ws, rfl, eH, hc, hn, by rw [repKs_len r]; exact hl, im.nx _ _ _ _ _ _ w.n g3 (s.up w.g) (Nat.le_trans l (w.len gg g3)) k2⟩
    · exact k2.elim⟩
/-- o.g op= v, numbers -/
def aFldAug (C : Addr) (g : Str) (h : Int → Int → Int) (fo fv : AE) : AS := fun A δ κ => fo δ κ fun a κ1 => match a with
  | .c k => ∃ fs i, κ1[k]? = some (.ins C fs) ∧ lookA g fs = some (.d (.int i)) ∧ fv δ κ1 fun b κ2 => match b with
    | .d (.int j) => ∃ fs', κ2[k]? = some (.ins C fs') ∧ fs'.length < 1000 ∧ A.nx δ (κ2.set k (.ins C (putA g (.d (.int (h i j))) fs')))
    | _ => False
  | _ => False
theorem sa_fldaug {C : Addr} {g : Str} {op : Operator} {h : Int → Int → Int} (hc : Cls K C) (hn : NoAttr K C g) (hop : InOp X op (fun x y H Q => ∃ i j, x = .int i ∧ y = .int j ∧ Q (.int (h i j)) H)) (ho : PEa K X o to' fo) (hv : PEa K X val tv fv) (hK : X.K = K := by rfl) :
    PSa K X (.AugAssign (.Attribute o g pos') op val pos) (sFldAug K to' tv (fun x y H Q => ∃ i j, x = .int i ∧ y = .int j ∧ Q (.int (h i j)) H) g) (aFldAug C g h fo fv) := by
  obtain ⟨K, Kn, KZ, Ku⟩ := K
  change X.K = K at hK
  subst hK
  exact ⟨ps_fldaug ho.pe hv.pe hop, fun B ρ δ κ σ H A D s gg l hh im => ho.sd _ _ _ _ _ _ _ _ s gg hh fun B1 ρ1 κ1 H1 a xo u1 g1 r1 k1 => by
    split at k1
    · obtain ⟨fs, i, ek, lb, k1⟩ := k1
      obtain ⟨p, hp, rfl⟩ := r1
      obtain ⟨dx, ws, r, eH, wr⟩ := g1.insAt hp ek
      obtain ⟨v, lv, rv⟩ := repKs_look r lb
      refine ⟨p, C, dx, ws, v, rfl, eH, hc, hn, lv, hv.sd _ _ _ _ _ _ _ _ (s.up u1.g) g1 k1 fun B2 ρ2 κ2 H2 b xv u2 g2 r2 k2 => ?_⟩
      split at k2
      · rename_i j
        obtain ⟨fs', ek', hl, k2⟩ := k2
        have hp2 := u2.p _ _ hp
        obtain ⟨dx', ws', r', eH', wr'⟩ := g2.insAt hp2 ek'
        obtain ⟨u3, g3⟩ := wr' _ _ (repKs_put (g := g) (rp_int (h i j)) r')
        have w := (u1.trans u2).trans u3
        exact ⟨i, j, rv.int, r2.int, dx', ws', eH', by rw [repKs_len r']; exact hl, im.nx _ _ _ _ _ _ w.n g3 (s.up w.g) (Nat.le_trans l (w.len gg g3)) k2⟩
      · exact k2.elim
    · exact k1.elim⟩
/-! ### methods -/
def aMeth (C : Addr) (m : Str) (F : FSp) (fo : AE) (fa : AA) : AE := fun δ κ R => fo δ κ fun a κ1 => match a with
  | .c k => ∃ fs, κ1[k]? = some (.ins C fs) ∧ lookA m fs = none ∧ fa δ κ1 fun as κ2 => callW F (fun _ _ => False) (.c k :: as) κ2 R
  | _ => False
variable {ta : TA} {fa : AA} {es : List Expr}
theorem callW_sd {F : FSp} {E : XK} {as : List AV} {vs : List V} {R : AR} {Q : VK} (g : G K B ρ κ H) (r : Reps K B ρ as vs) (h : callW F (fun _ _ => False) as κ R) (q : Nx K B ρ H R Q) : spA K F vs H Q E := by
  obtain ⟨js, asl, κl, nd, e1, e2, hF⟩ := callW_e h
  refine ⟨B, selR js ρ, κl, asl, _, _, sel_ok g nd e2, selAs_ok (fun i j p h1 h2 => selR_get h1 h2) e1 r, hF, ?_, ?_⟩
  · rintro B' ρ' κ' H' a v w2 g2 r2 ⟨l, cl, lv, hR⟩
    obtain ⟨w3, g3, r3⟩ := back_ok g nd e2 w2 g2 l cl lv
    exact q _ _ _ _ _ _ w3 g3 (r3 r2) hR
  · rintro B' ρ' κ' H' x cls d w2 g2 r2 ⟨l, cl, lv, hR⟩
    exact hR.elim
theorem se_meth {C : Addr} {m : Str} {F : FSp} {E : XK} (ho : SE K t f) (ha : SA K ta fa) : SE K (tMeth C m (spA K F) [] E t ta) (aMeth C m F f fa) := fun B ρ δ κ σ H R Q s g hh q =>
  ho B ρ δ κ σ H _ _ s g hh fun B1 ρ1 κ1 H1 a x u1 g1 r1 h1 => by
    split at h1
    · rename_i j
      obtain ⟨fs, ek, ln, h1⟩ := h1
      obtain ⟨p, hp, rfl⟩ := id r1
      obtain ⟨dx, ws, r, eH, _⟩ := g1.insAt hp ek
      refine ⟨p, dx, ws, rfl, eH, repKs_none r ln, ha _ _ _ _ _ _ _ _ (s.up u1.g) g1 h1 fun B2 ρ2 κ2 H2 as vs u2 g2 r2 h2 => ?_⟩
      show spA K F (.ref p :: (vs ++ [])) H2 Q E
      rw [List.append_nil]
      exact callW_sd g2 (.cons (r1.up u2.g) r2) h2 (q.later (u1.trans u2))
    · exact h1.elim
section
variable {l : Nat} {fm C : Addr} {fd : FuncData} {ps : List Str} {F : FSp} {m : Str} {apos : Pos} {pl : Sem Bool}
theorem ea_meth (Fo : FnOk X.prog X.w X.K X.mg X.base CX0 l fm fd ps (spA K F)) (hr : Room l X.A) (hc : Cls K C) (hm : Meth K C m fm) (hb : Binds K fd ps []) (ho : PEa K X o t f) (ha : PAa K X (e :: es) ta fa)
    (hst : starEach (e :: es) X.env = (false, eval e X.env) :: starEach es X.env := by rfl) (hpl : (backTo pos (starEach es X.env)).any (·.1) = false := by rfl)
    (ht : eval (.Call (.Attribute o m apos) (e :: es) [] pos) X.env = (do
      let ov ← eval o X.env
      standAt apos.atName
      let (f, first) ← holding [ov] (getMethod ov m pl)
      callWith pos f first (backTo pos (starEach (e :: es) X.env)) (backToKw pos (keywordEach [] X.env))) := by rfl) (hK : X.K = K := by rfl) :
    PEa K X (.Call (.Attribute o m apos) (e :: es) [] pos) (tMeth C m (spA K F) [] E0 t ta) (aMeth C m F f fa) := by
  obtain ⟨K, Kn, KZ, Ku⟩ := K
  change X.K = K at hK
  subst hK
  exact ⟨pe_meth (pl := pl) ho.pe hc hm Fo hr hb .nil pass0 ha.pa hst hpl ht, se_meth ho.sd ha.sd⟩
theorem ea_meth0 (Fo : FnOk X.prog X.w X.K X.mg X.base CX0 l fm fd ps (spA K F)) (hr : Room l X.A) (hc : Cls K C) (hm : Meth K C m fm) (hb : Binds K fd ps []) (ho : PEa K X o t f)
    (ht : eval (.Call (.Attribute o m apos) [] [] pos) X.env = (do
      let ov ← eval o X.env
      standAt apos.atName
      let (f, first) ← holding [ov] (getMethod ov m pl)
      callWith pos f first (backTo pos (starEach [] X.env)) (backToKw pos (keywordEach [] X.env))) := by rfl) (hK : X.K = K := by rfl) :
    PEa K X (.Call (.Attribute o m apos) [] [] pos) (tMeth C m (spA K F) [] E0 t tNil) (aMeth C m F f aNil) := by
  obtain ⟨K, Kn, KZ, Ku⟩ := K
  change X.K = K at hK
  subst hK
  exact ⟨pe_meth0 (pl := pl) ho.pe hc hm Fo hr hb .nil pass0 ht, se_meth ho.sd fun B ρ δ κ σ H R Q s g h q => q _ _ _ _ _ _ Up.refl g .nil h⟩
end
/-! ### a new object -/
def aMake (C : Addr) (F : FSp) (fa : AA) : AE := fun δ κ R => fa δ κ fun as κ1 => callW F (fun _ _ => False) (.c κ1.length :: as) (κ1 ++ [.ins C []]) fun a κ2 => a = .d .none ∧ R (.c κ1.length) κ2
theorem se_make {C : Addr} {F : FSp} {E : XK} (ha : SA K ta fa) : SE K (tMake C (spA K F) [] E ta) (aMake C F fa) := fun B ρ δ κ σ H R Q s g hh q =>
  ha B ρ δ κ σ H _ _ s g hh fun B1 ρ1 κ1 H1 as vs u1 g1 r1 h1 => by
    intro x dx hx hdx hne
    show spA K F (.ref x :: (vs ++ [])) _ _ E
    rw [List.append_nil]
    have nin : ∀ {q : Addr}, H1 q = none → q ∉ ρ1 := fun {q} hq z => by
      obtain ⟨i, hi⟩ := List.mem_iff_getElem?.mp z
      exact g1.nin hq hi rfl
    have g2 : G K B1 ρ1 κ1 (upd H1 dx (.own x)) := g1.off (g1.fresh hdx) (nin hdx) (K.up _ _ _ _ _ _ (Up.refl.off hdx).n g1.z)
    have hx2 : (upd H1 dx (.own x)) x = none := by rw [upd_ne (Ne.symm hne)]; exact hx
    have g3 : G K B1 (ρ1 ++ [x]) (κ1 ++ [.ins C []]) (upd (upd H1 dx (.own x)) x (.ins C dx [])) := g2.alloc hx2 (show CellOk K B1 ρ1 _ x (.ins C []) from ⟨g1.fresh hx, dx, [], .nil, upd_same⟩)
    have up3 : Up B1 ρ1 H1 B1 (ρ1 ++ [x]) (upd (upd H1 dx (.own x)) x (.ins C dx [])) := ⟨Same.refl B1, fun _ _ h => get_app h, fun q o' h1 h2 h3 => by
      have n1 := ne_of_none h1 hx
      have n2 := ne_of_none h1 hdx
      rw [upd_ne n1, upd_ne n2]
      refine ⟨h1, h2, fun z => ?_⟩
      rcases List.mem_append.mp z with z | z
      · exact h3 z
      · exact n1 (by simpa using z)⟩
    have rx : Rep K B1 (ρ1 ++ [x]) (.c κ1.length) (.ref x) := rep_new g1
    refine callW_sd g3 (.cons rx (Reps.up up3.g r1)) h1 ?_
    rintro B4 ρ4 κ4 H4 a v w4 g4 r4 ⟨rfl, hR⟩
    exact ⟨r4.non, q _ _ _ _ _ _ ((u1.trans up3).trans w4) g4 (rx.up w4.g) hR⟩
section
variable {l : Nat} {fI C : Addr} {fd : FuncData} {ps : List Str} {F : FSp} {x : Str} {q : Pos}
theorem ea_make (M : Mk K C fI) (Fo : FnOk X.prog X.w X.K X.mg X.base CX0 l fI fd ps (spA K F)) (hr : Room (l + 1) X.A) (hg : Gl X x) (hm : X.mg x = some (.ref C)) (hb : Binds K fd ps []) (ha : PAa K X (e :: es) ta fa)
    (hdb : (x == ("__debug__" : Str)) = false := by decide) (he : starEach (e :: es) X.env = (false, eval e X.env) :: starEach es X.env := by rfl) (hpl : (backTo pos (starEach es X.env)).any (·.1) = false := by rfl) (hK : X.K = K := by rfl) :
    PEa K X (.Call (.Name x q) (e :: es) [] pos) (tMake C (spA K F) [] E0 ta) (aMake C F fa) := by
  obtain ⟨K, Kn, KZ, Ku⟩ := K
  change X.K = K at hK
  subst hK
  exact ⟨pe_make M Fo hr hg hm hb .nil pass0 ha.pa hdb he hpl, se_make ha.sd⟩
end
/-! ### a try from whose body nothing is raised -/
variable {t1 : TS} {f1 : AS}
theorem sa_try0 {x n : Str} {c : Value} {i : Nat} {body suite : List Stmt} {b₀ : Stmt} {np : Pos} (hs : X.stack = X.env :: X.outer) (hf : X.env.frame = some X.env.locals) (hN : X.N.Nodup) (hi : X.N[i]? = some n) (hln : X.env.kindOf n = some .local) (hc : Names X x c)
    (hb : ∀ (pn : List (Addr × Obj)) (xe : Value → Shared → Prop), PSsa K (X.tr pn xe) body t1 f1) : PSa K X (.Try body [.ExceptHandler (some (.Name x np)) (some n) (b₀ :: suite) pos'] [] [] pos) t1 f1 :=
  ⟨ps_try_as (tb := fun _ => t1) (ts := fun _ _ _ => tNever) (Wout := fun _ _ _ _ => False) hs hf hN hi hln hc (fun u s' h => by obtain ⟨a, B, sI, pins, σ, H, cls, d, e, I, nb, up, sky, na, os, ag, w⟩ := h; exact w.elim)
    (fun W pn xe tk hp => (hb pn xe).ps) (fun a oe cls d pn _ _ => pss_never), (hb [] (fun _ _ => True)).sd⟩
end Ab
set_option Elab.async false
set_option linter.all false
set_option maxRecDepth 100000
set_option maxHeartbeats 4000000
/-! Ab10: list * n, slices of tuples, in of a dict, enumerate of a list -/
namespace Ab
open PySem L2
variable {K : Frg} {B B' B2 H H' H2 : Hp} {ρ ρ' ρ2 : List Addr} {κ κ' : AK} {δ : AD} {σ : L2.St} {p : Addr} {k : Nat} {v x y z : V} {a b c : AV}
variable {X : Cx} {e e2 : Expr} {t u : TE} {f f2 : AE} {pos : Pos}
/-! ### list * n -/
theorem q_mul_int (l : Addr) (items : Array Value) (n : Nat) (d : Option Addr) (sl : Array (Option Value)) (x : Int) (u : Tok) (hc0 : ¬(!Builtin.List.listFitsIndex x) = true) (hc1 : ¬items.size * x.toNat > (2 ^ 63 - 1) / 8) (hc2 : ¬Builtin.List.listTooLong (items.size * x.toNat) = true) :
    Meets (Builtin.«list.__mul__» ⟨[.ref l, .int x u], []⟩) (fun _ R s => s.heap.get? l = some { cls := .type "list", dict := d, data := .seq items n, slots := sl } ∧ R (.ok (.ret (Value.ref s.heap.objs.size))) { s with heap := s.heap.push { cls := Value.type "list", data := Data.seq (List.foldl (fun x1 x2 => x1 ++ x2) #[] (List.replicate (if items.isEmpty = true then 0 else x.toNat) items)) }, toks := s.toks }) :=
  .of_wp fun prog w A R s h => by
    obtain ⟨hp, g, d, tk, os⟩ := s; obtain ⟨hl, h⟩ := h
    have hsz := AutoListH.joined_fits hc2
    wp_walk; refine wpAny_ite_false (decide_eq_false (Nat.not_lt.mpr hsz)) ?_; wp_walk; exact ⟨_, rfl, h⟩
theorem q_rmul_int (a : Int) (t : Tok) (l : Addr) (items : Array Value) (n : Nat) (d : Option Addr) (sl : Array (Option Value)) :
    Meets (Builtin.«int.__rmul__» ⟨[.int a t, .ref l], []⟩) (fun _ R s => s.heap.get? l = some { cls := .type "list", dict := d, data := .seq items n, slots := sl } ∧ R (.ok (.ret Value.notImplemented)) s) :=
  .of_wp fun prog w A R s h => by obtain ⟨hp, g, d, tk, os⟩ := s; obtain ⟨hl, h⟩ := h; wp_walk; exact ⟨_, rfl, h⟩
def rMulL (K : PySem.W.Frag) : R2 := fun x y H Q => ∃ a xs n, x = V.ref a ∧ y = V.int n ∧ SqL K H a xs ∧ (n = 0 ∨ n = 1) ∧ ∀ p, H p = none → Q (.ref p) (upd H p (.lst (List.replicate n.toNat xs).flatten))
theorem op_mulL : OpR X (binaryOp .Mult) (rMulL X.K) := by
  intro pins s σ H x y v u Q I rx ry h
  obtain ⟨a, xs, n, rfl, rfl, hs, hn, q⟩ := h
  obtain rfl : v = Value.ref a := rx
  obtain ⟨tk, rfl⟩ := ry
  obtain ⟨its, rv, ⟨⟨cls, dd, data, sl⟩, m, ho, hc, hdn, hd⟩, hlen⟩ := I.list hs
  have hc1 : cls = Value.type "list" := hc
  have hd1 : data = Data.seq its.toArray m := hd
  subst hc1 hd1
  have hz : its.length ≤ sizeLine := by rw [← rv.length]; exact hlen
  have hsl := sizeLine_eq
  have hk : n.toNat ≤ 1 := by rcases hn with rfl | rfl <;> decide
  have hm : its.toArray.size * n.toNat ≤ its.length := by
    rw [List.size_toArray]
    exact Nat.le_trans (Nat.mul_le_mul_left _ hk) (Nat.le_of_eq (Nat.mul_one _))
  refine wpAny_binaryOp_repeat_ref (T := "list") (U := "int") (by decide) ⟨_, ho, rfl⟩ (fun s' => typeIs_int s' n tk) noFill_list_mul PySem.F.fills_int_mul PySem.F.slot_int_rmul repeat_list PySem.F.slot_int_index.lookup
    (call_meets PySem.F.slot_int_rmul (typeIs_int s n tk) PySem.F.entry_int_rmul (PySem.F.args_int_rmul_2 _ _) (q_rmul_int n tk a its.toArray m dd sl)
      ⟨ho, rfl, ⟨_, ho, rfl⟩, call_meets PySem.F.slot_list_mul ⟨_, ho, rfl⟩ PySem.F.entry_list_mul (PySem.F.args_list_mul_2 _ _)
        (q_mul_int a its.toArray m dd sl n tk (by rcases hn with rfl | rfl <;> decide) (by omega) (by simp only [Builtin.List.listTooLong, decide_eq_true_eq]; omega))
        ⟨ho, ?_⟩⟩)
  have e : List.foldl (fun x1 x2 => x1 ++ x2) #[] (List.replicate (if its.toArray.isEmpty = true then 0 else n.toNat) its.toArray) = (List.replicate n.toNat its).flatten.toArray := by
    rw [PyProof.Rows.listMul_foldl_if]
  rw [e]
  refine ⟨.ref _, _, I.lnew (t' := s.toks) (rv.rep n.toNat) ?_, rfl, q _ I.fresh⟩
  rw [PyProof.Rows.lm_len_rep_flat]
  have : n.toNat * xs.length ≤ 1 * xs.length := Nat.mul_le_mul_right _ hk
  omega
theorem dpa_rep {ds : List PyData} {vs : List V} (h : DpAll K B vs ds) : ∀ n : Nat, DpAll K B (List.replicate n vs).flatten (List.replicate n ds).flatten
  | 0 => .nil
  | n + 1 => by
    rw [List.replicate_succ, List.replicate_succ, List.flatten_cons, List.flatten_cons]
    exact dpa_app h (dpa_rep h n)
/-- a list of data none or one times -/
def aMulL : AO := fun a b κ R => match a, b with
  | .d (.list xs), .d (.int n) => (n = 0 ∧ R (.d (.list [])) κ) ∨ (n = 1 ∧ R (.d (.list xs)) κ)
  | _, _ => False
theorem oa_mulL (hK : X.K = K := by rfl) : OpA K X (binaryOp .Mult) (rMulL K) aMulL := by
  obtain ⟨K, Kn, KZ, Ku⟩ := K
  change X.K = K at hK
  subst hK
  refine ⟨op_mulL, ?_⟩
  intro B ρ κ H x y a b R Q g rx ry h q
  unfold aMulL at h
  split at h
  · rename_i xs n
    obtain ⟨p, vs, rfl, s1, d1⟩ := of_listG g rx
    refine ⟨p, vs, n, rfl, ry.int, s1, ?_, fun l hl => ?_⟩
    · rcases h with ⟨e, _⟩ | ⟨e, _⟩
      · exact .inl e
      · exact .inr e
    · obtain ⟨u4, g4, r4⟩ := new_lst g hl (dpa_rep d1 n.toNat)
      rcases h with ⟨rfl, h⟩ | ⟨rfl, h⟩
      · exact q _ _ _ _ _ _ u4 g4 r4 h
      · have e : (List.replicate (1 : Int).toNat xs).flatten = xs := by simp
        rw [e] at r4
        exact q _ _ _ _ _ _ u4 g4 r4 h
  · exact h.elim
/-! ### slices of tuples -/
theorem cut_all {α : Type} (xs : List α) (lo hi : Option Int) (h : HT.sIx xs.length 0 lo = 0 ∧ HT.sIx xs.length xs.length hi = xs.length) : cutD xs lo hi = xs := by
  unfold cutD
  rw [h.1, h.2, List.drop_zero, Nat.sub_zero, List.take_length]
def aSlT (f : AE) (l h : AOp) : AE := fun δ κ R => f δ κ fun a κ1 => l δ κ1 fun lo κ2 => h δ κ2 fun hi κ3 => match a with
  | .d (.tuple xs) => R (.d (.tuple (cutD xs lo hi))) κ3
  | _ => False
theorem ea_sliceT {lo hi : Option Expr} {p2 : Pos} {tl th : TO} {fl fh : AOp} (h1 : PEa K X e t f) (hl : POa K X lo tl fl) (hh : POa K X hi th fh) (hK : X.K = K := by rfl) :
    PEa K X (.Subscript e (.Slice lo hi none p2) pos) (tSl (rSlA K) t tl th) (aSlT f fl fh) := by
  obtain ⟨K, Kn, KZ, Ku⟩ := K
  change X.K = K at hK
  subst hK
  refine ⟨pe_slice sl_tupA h1.pe hl.po hh.po, fun B ρ δ κ σ H R Q s g h q => ?_⟩
  refine h1.sd B ρ δ κ σ H _ _ s g h fun B1 ρ1 κ1 H1 a x u1 g1 r1 h1 => ?_
  refine hl.sd B1 ρ1 δ κ1 σ H1 _ _ (s.up u1.g) g1 h1 fun B2 ρ2 κ2 H2 lo u2 g2 h2 => ?_
  refine hh.sd B2 ρ2 δ κ2 σ H2 _ _ (s.up (u1.trans u2).g) g2 h2 fun B3 ρ3 κ3 H3 hi u3 g3 h3 => ?_
  have r3 := r1.up (u2.trans u3).g
  have q3 := q.later ((u1.trans u2).trans u3)
  split at h3
  · rename_i xs
    have r3' := r3
    obtain ⟨p, vs, rfl, s1, d1⟩ := of_tupG g3 r3
    have hlen := dpa_len d1
    refine ⟨p, vs, rfl, s1, fun hw => ?_, fun _ l hl => ?_⟩
    · rw [hlen] at hw
      rw [cut_all xs lo hi hw] at h3
      exact q3.at0 g3 r3' h3
    · obtain ⟨u4, g4, r4⟩ := new_tup g3 hl (dpa_cut d1 lo hi)
      exact q3 _ _ _ _ _ _ u4 g4 r4 h3
  · exact h3.elim
/-! ### y in d -/
theorem dpks_isSome {kvs : List (L2.Key × PyData)} {ws : List (L2.Key × V)} {k : L2.Key} (h : DpKs K B kvs ws) : (valV ws k).isSome = (valD kvs k).isSome := by
  have h1 := dpks_any (k := k) h
  rw [valV_any] at h1
  rw [← h1]
  unfold valD
  rw [Option.isSome_map, Bool.eq_iff_iff, List.any_eq_true, List.find?_isSome]
/-- y in d, y not in d -/
def aDIn (n : Bool → Bool) (fi fo : AE) : AE := fun δ κ R => fi δ κ fun b κ1 => fo δ κ1 fun a κ2 => match a with
  | .c k => ∃ kvs key, κ2[k]? = some (.dK kvs) ∧ b = .d (keyD key) ∧ R (.d (.bool (n (valD kvs key).isSome))) κ2
  | _ => False
variable {o i : Expr} {to' ti : TE} {fo fi : AE}
theorem se_din {n : Bool → Bool} (hi : SE K ti fi) (ho : SE K to' fo) : SE K (fun σ H Q => ti σ H fun y H1 => to' σ H1 fun x H2 => ∃ a o, x = .ref a ∧ DGet H2 a y o ∧ Q (.bl (n o.isSome)) H2) (aDIn n fi fo) := fun B ρ δ κ σ H R Q s g hh q =>
  hi _ _ _ _ _ _ _ _ s g hh fun B1 ρ1 κ1 H1 b y u1 g1 r1 h1 => ho _ _ _ _ _ _ _ _ (s.up u1.g) g1 h1 fun B2 ρ2 κ2 H2 a x u2 g2 r2 h2 => by
    split at h2
    · obtain ⟨kvs, key, ek, rfl, h2⟩ := h2
      obtain ⟨p, hp, rfl⟩ := r2
      obtain ⟨vs, r, eH, _⟩ := g2.dkAt hp ek
      have := rep_key (r1.up u2.g)
      subst this
      refine ⟨p, valV vs key, rfl, DGet.k eH, ?_⟩
      rw [dpks_isSome r]
      exact q _ _ _ _ _ _ (u1.trans u2) g2 (rp_bl _) h2
    · exact h2.elim
theorem ea_din {l : Nat} (hr : Room l X.A) (hi : PEa K X i ti fi) (ho : PEa K X o to' fo) (hm : behindInMarks .In o = false := by first | exact nomark _ | rfl) : PEa K X (.Compare i [.In] [o] pos) (tDIn ti to') (aDIn id fi fo) := ⟨pe_cmp (pc_din (Nat.lt_of_le_of_lt (by omega) hr.units) hi.pe ho.pe) hm, se_din (n := id) hi.sd ho.sd⟩
theorem ea_dnotin {l : Nat} (hr : Room l X.A) (hi : PEa K X i ti fi) (ho : PEa K X o to' fo) (hm : behindInMarks .NotIn o = false := by first | exact nomark _ | rfl) : PEa K X (.Compare i [.NotIn] [o] pos) (tDNotIn ti to') (aDIn not fi fo) := ⟨pe_cmp (pc_dnotin (Nat.lt_of_le_of_lt (by omega) hr.units) hi.pe ho.pe) hm, se_din (n := not) hi.sd ho.sd⟩
theorem ta_din {l : Nat} (hr : Room l X.A) (hi : PEa K X i ti fi) (ho : PEa K X o to' fo) (hm : behindInMarks .In o = false := by first | exact nomark _ | rfl) : PTa K X (.Compare i [.In] [o] pos) (tTest (tDIn ti to')) (aB (aDIn id fi fo)) := ⟨pt_cmp (pc_din (Nat.lt_of_le_of_lt (by omega) hr.units) hi.pe ho.pe) hm, st_B (se_din (n := id) hi.sd ho.sd)⟩
theorem ta_dnotin {l : Nat} (hr : Room l X.A) (hi : PEa K X i ti fi) (ho : PEa K X o to' fo) (hm : behindInMarks .NotIn o = false := by first | exact nomark _ | rfl) : PTa K X (.Compare i [.NotIn] [o] pos) (tTest (tDNotIn ti to')) (aB (aDIn not fi fo)) := ⟨pt_cmp (pc_dnotin (Nat.lt_of_le_of_lt (by omega) hr.units) hi.pe ho.pe) hm, st_B (se_din (n := not) hi.sd ho.sd)⟩
/-- {} -/
def aDNew : AE := fun _ κ R => R (.c κ.length) (κ ++ [.dK []])
theorem ea_dnew : PEa K X (.Dict [] [] pos) tDNewK aDNew := ⟨pe_dnewK, fun B ρ δ κ σ H R Q s g h q => by
  intro p hp
  refine q _ _ _ _ _ _ (g.allocUp hp) (g.alloc hp (show CellOk K B ρ _ p (.dK []) from ⟨g.fresh hp, [], .nil, upd_same⟩)) (rep_new g) h⟩
/-! ### enumerate of a list of data -/
/-- known items, with their places -/
def itE (xs : List PyData) : AIt := ⟨fun i _ => i < xs.length, fun i _ a => ∃ x, xs[i]? = some x ∧ a = .d (.tuple [.int (i : Nat), x]), fun i _ => xs.length ≤ i⟩
theorem ri_enum {xs : List PyData} {p : Addr} {vs : List V} (hs : SqL K B p vs) (d : DpAll K B vs xs) : RI K B ρ H (Ite K p) (itE xs) := by
  intro B2 ρ2 κ2 H2 w2 g2 i
  have hs2 : SqL K H2 p vs := g2.ex.seq (w2.s.seq hs)
  have hl := dpa_len d
  refine ⟨fun h => ⟨vs, hs2, by rw [hl]; exact h⟩, fun h => ?_⟩
  obtain ⟨w, hw, r⟩ := dpa_get d (getLt h)
  refine ⟨⟨vs, w, hs2, hw⟩, fun x H3 hy => ?_⟩
  obtain ⟨T, x0, rfl, hT, rfl, f⟩ := hy
  have e := (f vs hs2).symm.trans hw
  cases e
  obtain ⟨u4, g4, r4⟩ := new_tup g2 hT (ds := [.int (i : Nat), xs[i]'h]) (.cons (.int _) (.cons (dp_up w2.s _ _ r) .nil))
  exact ⟨_, _, u4, g4, r4, _, getLt h, rfl⟩
def aEnum (fa : AA) : AI := fun δ κ R => fa δ κ fun as κ1 => match as with
  | [.d (.list xs)] => R (itE xs) κ1
  | _ => False
variable {ta : TA} {fa : AA}
theorem ia_enum {a : Expr} {elts : List Expr} {kk : Nat} {tpos q pos : Pos} (hg : Gl X "enumerate") (hm : X.mg "enumerate" = none) (ha : PAa K X [a] ta fa) (hs : starEach [a] X.env = [(false, eval a X.env)] := by rfl) (hK : X.K = K := by rfl) :
    PIa K X (.Tuple elts kk tpos) (.Call (.Name "enumerate" q) [a] [] pos) (iEnum K ta) (aEnum fa) := by
  obtain ⟨K, Kn, KZ, Ku⟩ := K
  change X.K = K at hK
  subst hK
  exact ⟨pi_enum hg hm ha.pa hs, fun B ρ δ κ σ H R Q s g hh q => ha.sd _ _ _ _ _ _ _ _ s g hh fun B1 ρ1 κ1 H1 as vs w1 g1 r1 h1 => by
    split at h1
    · obtain ⟨x, rfl, r⟩ := reps1 r1
      obtain ⟨p, vs, rfl, s1, d1⟩ := r.list
      exact ⟨p, vs, rfl, g1.ex.seq s1, q _ _ _ _ _ _ w1 g1 (ri_enum s1 d1) h1⟩
    · exact h1.elim⟩
end Ab
set_option Elab.async false
set_option linter.all false
set_option maxRecDepth 100000
set_option maxHeartbeats 4000000
/-! Ab11: enumerate of a tuple -/
namespace Ab
open PySem L2 PySem.Spec PyProof.Rows
theorem meets_enumerate_newT (l : Addr) (items : Array Value) (n : Nat) (dct : Option Addr) (sl : Array (Option Value)) :
    Meets (Builtin.«enumerate.__new__» ⟨[.type "enumerate", .ref l], []⟩) (fun _ R s => s.heap.get? l = some { cls := .type "tuple", dict := dct, data := .seq items n, slots := sl } ∧
      R (.ok (.ret (.ref (s.heap.push { cls := .type "tuple_iterator", data := .fields #[.ref l, .int 0 0] }).objs.size)))
        { s with heap := (s.heap.push { cls := .type "tuple_iterator", data := .fields #[.ref l, .int 0 0] }).push { cls := .type "enumerate", data := .fields #[.none, .bool false, .ref s.heap.objs.size, rawInt 0, .none, .none] } }) :=
  .of_wp fun prog w A R s h => by
    obtain ⟨hp, g, d, tk, os⟩ := s; obtain ⟨hl, h⟩ := h
    have hsub := sub_enumerate
    have hL : Heap.IsTuple (Shared.heap ⟨hp, g, d, tk, os⟩) l items := ⟨_, hl, rfl, n, rfl⟩
    wp_walk using wpAny_loadPart' hl
    refine wpAny_stack_any fun st => wpAny_pure ?_
    split
    · rename_i c _ _ _ _ _
      cases (c == Value.type "enumerate")
      · wp_walk using wpAny_loadPart' hl, wpAny_pyIter_tuple hL
        exact ⟨_, rfl, h⟩
      · wp_walk using wpAny_loadPart' hl, wpAny_pyIter_tuple hL
        exact ⟨_, rfl, h⟩
    · wp_walk using wpAny_loadPart' hl, wpAny_pyIter_tuple hL
      exact ⟨_, rfl, h⟩
section
variable {prog : Program} {w : World} {A : Around} {E : Value → Shared → Prop} {s : Shared}
theorem call_enumerate_tuple {l : Addr} {items : Array Value} {Q : Value → Shared → Prop} (hL : s.heap.IsTuple l items)
    (h : ∀ h', IsEnum h' (s.heap.objs.size + 1) s.heap.objs.size 0 .none → h'.IsTupleIter s.heap.objs.size l 0 → h'.objs.size = s.heap.objs.size + 2 →
      (∀ b o, s.heap.get? b = some o → h'.get? b = some o) → Q (.ref (s.heap.objs.size + 1)) { s with heap := h' }) :
    wpAny (model prog w) A (call (.type "enumerate") [.ref l]) Q E s := by
  obtain ⟨⟨c, dct, dt, sl⟩, hl, hc, n, hd⟩ := hL
  replace hc : c = .type "tuple" := hc
  replace hd : dt = .seq items n := hd
  subst hc hd
  refine callType_new PySem.F.called_enumerate (by decide) (PySem.F.typeCall_enumerate_1 _) (PySem.F.newCall_enumerate_1 _) (fun obj => PySem.F.args_object_init_2 obj _) PySem.F.entry_enumerate_new
    (meets_enumerate_newT l items n dct sl) ⟨hl, ?_⟩
  have hz : (s.heap.push { cls := .type "tuple_iterator", data := .fields #[.ref l, .int 0 0] }).objs.size = s.heap.objs.size + 1 := Heap.size_push ..
  show _ ∧ _
  rw [hz]
  have he : IsEnum ((s.heap.push { cls := .type "tuple_iterator", data := .fields #[.ref l, .int 0 0] }).push
      { cls := .type "enumerate", data := .fields #[.none, .bool false, .ref s.heap.objs.size, rawInt 0, .none, .none] }) (s.heap.objs.size + 1) s.heap.objs.size 0 .none := by
    have := Heap.get?_push_size (s.heap.push { cls := .type "tuple_iterator", data := .fields #[.ref l, .int 0 0] })
      (o := { cls := .type "enumerate", data := .fields #[.none, .bool false, .ref s.heap.objs.size, rawInt 0, .none, .none] }) rfl
    rw [hz] at this; exact this
  refine ⟨⟨_, he, rfl⟩, h _ he ⟨_, Heap.get?_push_of_some _ (Heap.get?_push_size _ rfl), rfl, rfl⟩ (by rw [Heap.size_push, hz]) fun b o x => Heap.get?_push_of_some _ (Heap.get?_push_of_some _ x)⟩
theorem draws_tuple (hh : A.handled = none) (it l : Addr) (items : Array Value) : Draws prog w A it [it, l] items.size (fun i x => items[i]? = some x) (fun i h => h.IsTupleIter it l i ∧ h.IsTuple l items ∧ it ≠ l) where
  live := fun i h ⟨⟨o, ho, _⟩, _⟩ => ⟨o, ho⟩
  frame := fun i h h' ⟨⟨o, ho, c, d⟩, ⟨o2, ho2, r⟩, ne⟩ k => ⟨⟨o, k it (by simp) o ho, c, d⟩, ⟨o2, k l (by simp) o2 ho2, r⟩, ne⟩
  item := fun i s Q E hi ⟨hit, ht, ne⟩ hQ => RZ.nextOf_tuple_item hit ht (Array.getElem?_eq_getElem hi) fun h' hit' sb => by
    have := hQ items[i] h' s.toks (Array.getElem?_eq_getElem hi) ⟨hit', ht.extBut sb.extBut (Ne.symm ne), ne⟩ sb
    exact this
  done := fun s Q E ⟨hit, ht, ne⟩ hE => RZ.nextOf_tuple_end hh hit ht (by simp) fun h' e he hc => hE h' e he hc
theorem draws_end (hh : A.handled = none) (it l : Addr) (items : Array Value) (n : Nat) (hn : items[n]? = none) : Draws prog w A it [it, l] n (fun _ _ => False) (fun i h => i = n ∧ h.IsTupleIter it l i ∧ h.IsTuple l items) where
  live := fun i h ⟨_, ⟨o, ho, _⟩, _⟩ => ⟨o, ho⟩
  frame := fun i h h' ⟨e, ⟨o, ho, c, d⟩, ⟨o2, ho2, r⟩⟩ k => ⟨e, ⟨o, k it (by simp) o ho, c, d⟩, ⟨o2, k l (by simp) o2 ho2, r⟩⟩
  item := fun i s Q E hi ⟨e, _⟩ hQ => by omega
  done := fun s Q E ⟨_, hit, ht⟩ hE => RZ.nextOf_tuple_end hh hit ht hn fun h' e he hc => hE h' e he hc
end
/-- the tuple at a, the items in new pairs -/
def Itq (K : PySem.W.Frag) (a : Addr) : It :=
  ⟨fun i H => ∃ (xs : List V) (x : V), SqT K H a xs ∧ xs[i]? = some x, fun i H v H' => ∃ T x, v = .ref T ∧ H T = none ∧ H' = upd H T (.tup [.int (i : Nat), x]) ∧ ∀ xs, SqT K H a xs → xs[i]? = some x, fun i H => ∃ xs : List V, SqT K H a xs ∧ xs.length ≤ i⟩
theorem turn_enumT {P : Program} {w : World} {K : PySem.W.Frag} {elts : List Expr} {kk : Nat} {tpos : Pos} (a e it : Addr) :
    Turn P w K (.Tuple elts kk tpos) (Itq K a) [e, it] e (fun i h => (∃ old, IsEnum h e it ((i : Nat) : Int) old) ∧ h.IsTupleIter it a i ∧ e ≠ it) where
  mem := by simp
  obj := fun i h st b hb => by
    obtain ⟨⟨old, he⟩, ⟨o, ho, hc, hd⟩, _⟩ := st
    have e' : b = e ∨ b = it := by simpa using hb
    rcases e' with z | z
    · rw [z]; exact ⟨_, he, fun v q => nomatch q⟩
    · rw [z]; exact ⟨o, ho, fun v q => by rw [hd] at q; cases q⟩
  keep := fun i h h' st k => let ⟨⟨old, he⟩, hi, hne⟩ := st; ⟨⟨old, k e (by simp) _ he⟩, hi.at fun o q => k it (by simp) o q, hne⟩
  item := by
    intro X hP hw hK hc i pins s σ H E I hf st hg
    subst hP hw hK
    obtain ⟨⟨old, he⟩, hit, hne⟩ := st
    obtain ⟨xs, x, hq, hx⟩ := hg
    obtain ⟨its, rv, p, hz⟩ := I.tuple hq
    obtain ⟨u, hu, ru⟩ := rv.get hx
    have hel : e < s.heap.objs.size := Heap.lt_size he
    have hil : it < s.heap.objs.size := by obtain ⟨_, q, _⟩ := hit; exact Heap.lt_size q
    have hea : e ≠ a := fun z => by
      obtain ⟨o, ho, hcl, _⟩ := p
      rw [← z, he] at ho
      cases ho
      exact absurd (show Value.type "enumerate" = Value.type "tuple" from hcl) (by decide +kernel)
    have hia : it ≠ a := fun z => by
      obtain ⟨o, ho, hcl, _⟩ := p
      obtain ⟨o2, ho2, hc2, _⟩ := id hit
      rw [← z, ho2] at ho
      cases ho
      rw [hc2] at hcl
      exact absurd hcl (by decide +kernel)
    have hlt : i < its.toArray.size := by
      have := (List.getElem?_eq_some_iff.mp hu).1
      simpa using this
    refine wpAny_pyNext_enum_itemD (draws_tuple (A := X.A.in1) (I.ok.hd hc) it a its.toArray) he ⟨hit, p, hia⟩ hlt hne (by simp [hne, hea]) fun x' h' tk hPx ho st' hT hsz hk => ?_
    have hxu : x' = u := by
      have h2 : its[i]? = some x' := by simpa using hPx
      rw [hu] at h2; cases h2; rfl
    subst hxu
    have hit' := st'.1
    refine ⟨_, rfl, wpAny_letOwnedTupleGo_enum (s := { s with heap := h', toks := tk + 1 }) ho fun h'' he' sb => ?_⟩
    have hT2 : h''.get? s.heap.objs.size = some { cls := .type "tuple", data := .seq #[.int i tk, x'] } := (sb.2 _ (Nat.ne_of_gt hel)).trans hT
    have new : ObjOk X.prog X.w (upd H s.heap.objs.size (.tup [.int (i : Nat), x])) h'' s.heap.objs.size (.tup [.int (i : Nat), x]) :=
      ⟨by show 2 ≤ sizeLine; decide, [.int i tk, x'], .cons ⟨_, rfl⟩ (.cons ru .nil), ⟨_, hT2, rfl, _, rfl⟩⟩
    have I1 : Inv X pins σ (upd H s.heap.objs.size (.tup [.int (i : Nat), x])) { s with heap := h'', toks := tk + 1 } :=
      I.turnedNew (ch := [e, it]) (fun b ob hb q => (sb.2 b (fun z => hb (by simp [z]))).trans (hk b ob (fun z => hb (by simp [z])) (fun z => hb (by simp [z])) q)) hf (Nat.le_refl _) new
    refine ⟨.ref s.heap.objs.size, _, I1, rfl, ⟨_, x, rfl, I.hok.fresh (Nat.le_refl _), rfl, fun ys hy => by rw [I.tuple_inj hy hq]; exact hx⟩, ⟨⟨x', ?_⟩, hit'.at fun o q => (sb.2 it (Ne.symm hne)).trans q, hne⟩, fun b hb => ?_⟩
    · have e1 : ((i + 1 : Nat) : Int) = (i : Int) + 1 := by omega
      rw [e1]; exact he'
    · have hb' : b < s.heap.objs.size := by
        have e' : b = e ∨ b = it := by simpa using hb
        rcases e' with z | z
        · rw [z]; exact hel
        · rw [z]; exact hil
      rw [upd_ne (Nat.ne_of_lt hb')]
      exact (hf b hb).1
  done := by
    intro X hP hw hK hc i pins s σ H E I hf st hg
    subst hP hw hK
    obtain ⟨⟨old, he⟩, hit, hne⟩ := st
    obtain ⟨xs, hq, hx⟩ := hg
    obtain ⟨its, rv, p, hz⟩ := I.tuple hq
    obtain ⟨f0, f1, f2, f3, f4, f5⟩ := hf it (by simp)
    have hl := rv.length
    exact wpAny_pyNext_enum_endD (draws_end (A := X.A.in1) (I.ok.hd hc) it a its.toArray i (by simp; omega)) he ⟨rfl, hit, p⟩ fun h' eb => ⟨rfl, I.turned (t' := s.toks) (fun b o hb q => eb b o hb q) f0 f1 f3 f4 f5⟩
  self := fun A i s Q E st h => let ⟨⟨_, he⟩, _⟩ := st; wpAny_pyIter_enum he h
def iEnumT (K : PySem.W.Frag) (ta : TA) : TI := fun σ H R => ta σ H fun vs H1 => ∃ a xs, vs = [.ref a] ∧ SqT K H1 a xs ∧ R (Itq K a) H1
theorem pi_enumT {X : Cx} {e : Expr} {ta : TA} {p pos tpos : Pos} {elts : List Expr} {kk : Nat} (hg : Gl X "enumerate") (hm : X.mg "enumerate" = none) (ha : PA X [e] ta) (hs : starEach [e] X.env = [(false, eval e X.env)] := by rfl) :
    PI X (.Tuple elts kk tpos) (.Call (.Name "enumerate" p) [e] [] pos) (iEnumT X.K ta) := by
  refine ⟨fun pins s σ H R I h => ?_⟩
  refine Call_ (ld_blt I hg hm boot_enumerate (PyProof.Rows.callWith_type1 (thn (ha.run pos pins s σ H _ I h) fun us s1 ⟨vs, H1, I1, r1, q1⟩ => ?_) hs rfl))
  obtain ⟨a, xs, ex, hq, q⟩ := q1
  subst ex
  cases r1 with
  | cons r rr =>
    cases rr
    cases r
    obtain ⟨its, rv, p', hz⟩ := I1.tuple hq
    refine call_enumerate_tuple p' fun h' he hit hsz hk => wpAny_pyIter_enum he ?_
    have I2 : Inv X pins σ H1 { s1 with heap := h' } := I1.kept (t' := s1.toks) hk
    refine ⟨s1.heap.objs.size + 1, [s1.heap.objs.size + 1, s1.heap.objs.size], _, _, H1, rfl, I2, turn_enumT a (s1.heap.objs.size + 1) s1.heap.objs.size, ⟨⟨.none, he⟩, hit, Nat.succ_ne_self _⟩, fun b hb => ?_, q⟩
    have e' : b = s1.heap.objs.size + 1 ∨ b = s1.heap.objs.size := by simpa using hb
    have hle : s1.heap.objs.size ≤ b := by
      rcases e' with z | z
      · rw [z]; exact Nat.le_add_right _ _
      · rw [z]; exact Nat.le_refl _
    exact I1.fpOk hle (I1.hok.fresh hle)
theorem ri_enumT {K : Frg} {B H : Hp} {ρ : List Addr} {xs : List PyData} {p : Addr} {vs : List V} (hs : SqT K B p vs) (d : DpAll K B vs xs) : RI K B ρ H (Itq K p) (itE xs) := by
  intro B2 ρ2 κ2 H2 w2 g2 i
  have hs2 : SqT K H2 p vs := sqt_up g2.ex (sqt_up w2.s hs)
  have hl := dpa_len d
  refine ⟨fun h => ⟨vs, hs2, by rw [hl]; exact h⟩, fun h => ?_⟩
  obtain ⟨w, hw, r⟩ := dpa_get d (getLt h)
  refine ⟨⟨vs, w, hs2, hw⟩, fun x H3 hy => ?_⟩
  obtain ⟨T, x0, rfl, hT, rfl, f⟩ := hy
  have e := (f vs hs2).symm.trans hw
  cases e
  obtain ⟨u4, g4, r4⟩ := new_tup g2 hT (ds := [.int (i : Nat), xs[i]'h]) (.cons (.int _) (.cons (dp_up w2.s _ _ r) .nil))
  exact ⟨_, _, u4, g4, r4, _, getLt h, rfl⟩
/-- enumerate of a tuple of data -/
def aEnumT (fa : AA) : AI := fun δ κ R => fa δ κ fun as κ1 => match as with
  | [.d (.tuple xs)] => R (itE xs) κ1
  | _ => False
theorem ia_enumT {K : Frg} {X : Cx} {ta : TA} {fa : AA} {a : Expr} {elts : List Expr} {kk : Nat} {tpos q pos : Pos} (hg : Gl X "enumerate") (hm : X.mg "enumerate" = none) (ha : PAa K X [a] ta fa) (hs : starEach [a] X.env = [(false, eval a X.env)] := by rfl) (hK : X.K = K := by rfl) :
    PIa K X (.Tuple elts kk tpos) (.Call (.Name "enumerate" q) [a] [] pos) (iEnumT K ta) (aEnumT fa) := by
  obtain ⟨K, Kn, KZ, Ku⟩ := K
  change X.K = K at hK
  subst hK
  exact ⟨pi_enumT hg hm ha.pa hs, fun B ρ δ κ σ H R Q s g hh q => ha.sd _ _ _ _ _ _ _ _ s g hh fun B1 ρ1 κ1 H1 as vs w1 g1 r1 h1 => by
    split at h1
    · obtain ⟨x, rfl, r⟩ := reps1 r1
      obtain ⟨p, vs, rfl, s1, d1⟩ := r.tuple
      exact ⟨p, vs, rfl, sqt_up g1.ex s1, q _ _ _ _ _ _ w1 g1 (ri_enumT s1 d1) h1⟩
    · exact h1.elim⟩
end Ab
set_option Elab.async false
set_option linter.all false
set_option maxRecDepth 100000
set_option maxHeartbeats 4000000
/-! Ab12: calls whose cells may refer to one another -/
namespace Ab
open PySem L2
variable {K : Frg} {B B' B2 H H' H2 : Hp} {ρ ρ' ρ2 : List Addr} {κ κ' : AK} {δ : AD} {σ : L2.St} {p : Addr} {k : Nat} {v x y z : V} {a b c : AV}
def selF (js : List Nat) : List (Str × AV) → Option (List (Str × AV))
  | [] => some []
  | (g, a) :: r => match selA js a, selF js r with
    | some x, some xs => some ((g, x) :: xs)
    | _, _ => none
def selC (js : List Nat) : Cell → Option Cell
  | .lst xs => match selAs js xs with
    | some ys => some (.lst ys)
    | none => none
  | .tup xs => match selAs js xs with
    | some ys => some (.tup ys)
    | none => none
  | .ins C fs => match selF js fs with
    | some ys => some (.ins C ys)
    | none => none
  | c => some c
def selKX (js0 : List Nat) (κ : AK) : List Nat → Option AK
  | [] => some []
  | j :: r => match κ[j]?, selKX js0 κ r with
    | some c, some cs => match selC js0 c with
      | some c' => some (c' :: cs)
      | none => none
    | _, _ => none
def backC (js : List Nat) (n : Nat) : Cell → Cell
  | .lst xs => .lst (xs.map (backA js n))
  | .tup xs => .tup (xs.map (backA js n))
  | .ins C fs => .ins C (fs.map fun p => (p.1, backA js n p.2))
  | c => c
def backKX (js : List Nat) (κ κ' : AK) : AK := backK js κ (κ'.map (backC js κ.length))
@[irreducible] def callX (F : FSp) (E : AX → AK → Prop) (as : List AV) (κ1 : AK) (R : AR) : Prop := ∃ js asl κl, js.Nodup ∧ selAs js as = some asl ∧ selKX js κ1 js = some κl ∧
  F asl κl (fun a κ' => js.length ≤ κ'.length ∧ (κ'.drop js.length).all liveC = true ∧ R (backA js κ1.length a) (backKX js κ1 κ')) (fun x κ' => js.length ≤ κ'.length ∧ (κ'.drop js.length).all liveC = true ∧ E x (backKX js κ1 κ'))
theorem callX_i {F : FSp} {E : AX → AK → Prop} {as : List AV} {κ1 : AK} {R : AR} (h : ∃ js asl κl, js.Nodup ∧ selAs js as = some asl ∧ selKX js κ1 js = some κl ∧
  F asl κl (fun a κ' => js.length ≤ κ'.length ∧ (κ'.drop js.length).all liveC = true ∧ R (backA js κ1.length a) (backKX js κ1 κ')) (fun x κ' => js.length ≤ κ'.length ∧ (κ'.drop js.length).all liveC = true ∧ E x (backKX js κ1 κ'))) : callX F E as κ1 R := by
  unfold callX; exact h
theorem callX_e {F : FSp} {E : AX → AK → Prop} {as : List AV} {κ1 : AK} {R : AR} (h : callX F E as κ1 R) : ∃ js asl κl, js.Nodup ∧ selAs js as = some asl ∧ selKX js κ1 js = some κl ∧
  F asl κl (fun a κ' => js.length ≤ κ'.length ∧ (κ'.drop js.length).all liveC = true ∧ R (backA js κ1.length a) (backKX js κ1 κ')) (fun x κ' => js.length ≤ κ'.length ∧ (κ'.drop js.length).all liveC = true ∧ E x (backKX js κ1 κ')) := by
  unfold callX at h; exact h
theorem selF_ok {js : List Nat} (hr : ∀ (i j : Nat) (p : Addr), js[i]? = some j → ρ[j]? = some p → ρ'[i]? = some p) : ∀ {fs fsl : List (Str × AV)} {ws : List (Str × V)}, selF js fs = some fsl → RepKs K B ρ fs ws → RepKs K B ρ' fsl ws
  | [], _, _, h, r => by cases h; cases r; exact .nil
  | (g, a) :: fs, _, _, h, r => by
    unfold selF at h
    split at h
    · rename_i x xs e1 e2
      cases h
      cases r with
      | @cons _ q _ qs r1 r2 =>
        refine .cons ⟨r1.1, ?_⟩ (selF_ok hr e2 r2)
        have := selAs_ok (K := K) (B := B) (vs := [q.2]) hr (as := [a]) (asl := [x]) (by unfold selAs; rw [e1]; rfl) (.cons r1.2 .nil)
        cases this with
        | cons z _ => exact z
    · cases h
theorem CellOk.sel {js : List Nat} (hr : ∀ (i j : Nat) (p : Addr), js[i]? = some j → ρ[j]? = some p → ρ'[i]? = some p) {cl cl' : Cell} (h : selC js cl = some cl') (ok : CellOk K B ρ H p cl) : CellOk K B ρ' H p cl' := by
  cases cl with
  | dead => cases h; exact ok
  | ld ys => cases h; exact ok
  | dK ys => cases h; exact ok
  | dT ys => cases h; exact ok
  | lst ys =>
    have h : (match selAs js ys with | some zs => some (Cell.lst zs) | none => none) = some cl' := h
    split at h
    · rename_i zs e; cases h
      obtain ⟨n, ws, r, eH⟩ := ok
      exact ⟨n, ws, selAs_ok hr e r, eH⟩
    · cases h
  | tup ys =>
    have h : (match selAs js ys with | some zs => some (Cell.tup zs) | none => none) = some cl' := h
    split at h
    · rename_i zs e; cases h
      obtain ⟨ws, r, eH⟩ := ok
      exact ⟨ws, selAs_ok hr e r, eH⟩
    · cases h
  | ins C ys =>
    have h : (match selF js ys with | some zs => some (Cell.ins C zs) | none => none) = some cl' := h
    split at h
    · rename_i zs e; cases h
      obtain ⟨n, dx, ws, r, eH⟩ := ok
      exact ⟨n, dx, ws, selF_ok hr e r, eH⟩
    · cases h
theorem selKX_get {js0 : List Nat} : ∀ {js : List Nat} {κ κl : AK}, selKX js0 κ js = some κl → κl.length = js.length ∧ ∀ (i j : Nat), js[i]? = some j → ∃ c c', κ[j]? = some c ∧ selC js0 c = some c' ∧ κl[i]? = some c'
  | [], κ, κl, h => by cases h; exact ⟨rfl, fun i j e => by simp at e⟩
  | j :: js, κ, κl, h => by
    unfold selKX at h
    split at h
    · rename_i c cs e1 e2
      split at h
      · rename_i c' hc
        cases h
        obtain ⟨l, f⟩ := selKX_get e2
        refine ⟨by simp [l], fun i j' e => ?_⟩
        cases i with
        | zero => simp at e; subst e; exact ⟨c, c', e1, hc, rfl⟩
        | succ i => obtain ⟨d, d', y1, y2, y3⟩ := f i j' (by simpa using e); exact ⟨d, d', y1, y2, by simpa using y3⟩
      · cases h
    · cases h
theorem sel_okX (g : G K B ρ κ H) {js : List Nat} {κl : AK} (nd : js.Nodup) (hk : selKX js κ js = some κl) : G (Frg.of K.K) B (selR js ρ) κl H := by
  obtain ⟨lk, sel⟩ := selKX_get hk
  have get : ∀ {i : Nat} {p : Addr}, (selR js ρ)[i]? = some p → ∃ j c c', js[i]? = some j ∧ ρ[j]? = some p ∧ κ[j]? = some c ∧ κl[i]? = some c' ∧ selC js c = some c' := fun {i p} h => by
    unfold selR at h
    rw [List.getElem?_map] at h
    obtain ⟨j, hj, e⟩ := Option.map_eq_some_iff.mp h
    obtain ⟨c, c', e1, e2, e3⟩ := sel i j hj
    have lt : j < ρ.length := by rw [g.len]; exact (List.getElem?_eq_some_iff.mp e1).1
    rw [List.getD_eq_getElem?_getD, List.getElem?_eq_getElem lt] at e
    exact ⟨j, c, c', hj, by rw [List.getElem?_eq_getElem lt]; exact congrArg some e, e1, e3, e2⟩
  refine ⟨g.ex, by unfold selR; rw [List.length_map, lk], fun i i' p h1 h2 => ?_, fun i p c h1 h2 => ?_, True.intro⟩
  · obtain ⟨j, _, _, y1, y2, _⟩ := get h1
    obtain ⟨j', _, _, z1, z2, _⟩ := get h2
    have e := g.inj j j' p y2 z2
    subst e
    obtain ⟨a1, b1⟩ := List.getElem?_eq_some_iff.mp y1
    obtain ⟨a2, b2⟩ := List.getElem?_eq_some_iff.mp z1
    exact (List.getElem_inj nd).mp (b1.trans b2.symm)
  · obtain ⟨j, c0, c', y1, y2, y3, y4, y5⟩ := get h1
    rw [h2] at y4; cases y4
    exact (g.at' j p c0 y2 y3).sel (fun i j p h1 h2 => selR_get h1 h2) y5
theorem Reps.back {js : List Nat} {n : Nat} (hrep : ∀ {a : AV} {v : V}, Rep K B ρ a v → Rep K B ρ' (backA js n a) v) : ∀ {as : List AV} {vs : List V}, Reps K B ρ as vs → Reps K B ρ' (as.map (backA js n)) vs
  | _, _, .nil => .nil
  | _, _, .cons h1 h2 => .cons (hrep h1) (Reps.back hrep h2)
theorem RepKs.back {ι : Type} {js : List Nat} {n : Nat} (hrep : ∀ {a : AV} {v : V}, Rep K B ρ a v → Rep K B ρ' (backA js n a) v) : ∀ {as : List (ι × AV)} {vs : List (ι × V)}, RepKs K B ρ as vs → RepKs K B ρ' (as.map fun p => (p.1, backA js n p.2)) vs
  | _, _, .nil => .nil
  | _, _, .cons h1 h2 => .cons ⟨h1.1, hrep h1.2⟩ (RepKs.back hrep h2)
theorem CellOk.back {js : List Nat} {n : Nat} (hrep : ∀ {a : AV} {v : V}, Rep K B ρ a v → Rep K B ρ' (backA js n a) v) {cl : Cell} (ok : CellOk K B ρ H p cl) : CellOk K B ρ' H p (backC js n cl) := by
  cases cl with
  | dead => exact ok
  | ld ys => exact ok
  | dK ys => exact ok
  | dT ys => exact ok
  | lst ys => obtain ⟨n, ws, r, e⟩ := ok; exact ⟨n, ws, Reps.back hrep r, e⟩
  | tup ys => obtain ⟨ws, r, e⟩ := ok; exact ⟨ws, Reps.back hrep r, e⟩
  | ins C ys => obtain ⟨n, dx, ws, r, e⟩ := ok; exact ⟨n, dx, ws, RepKs.back hrep r, e⟩
theorem back_okX (g : G K B ρ κ H) {js : List Nat} {κl : AK} (nd : js.Nodup) (hk : selKX js κ js = some κl) {ρl' : List Addr} (w : Up B (selR js ρ) H B' ρl' H') (g' : G (Frg.of K.K) B' ρl' κ' H') (l : js.length ≤ κ'.length) (lv : (κ'.drop js.length).all liveC = true) :
    Up B ρ H B' (ρ ++ ρl'.drop js.length) H' ∧ G K B' (ρ ++ ρl'.drop js.length) (backKX js κ κ') H' ∧ ∀ {a : AV} {v : V}, Rep K B' ρl' a v → Rep K B' (ρ ++ ρl'.drop js.length) (backA js κ.length a) v := by
  obtain ⟨lk, sel⟩ := selKX_get hk
  have jlt : ∀ {i j : Nat}, js[i]? = some j → j < κ.length := fun h => by
    obtain ⟨c, _, e, _⟩ := sel _ _ h
    exact (List.getElem?_eq_some_iff.mp e).1
  have rl : ∀ {i j : Nat} {p : Addr}, js[i]? = some j → ρ[j]? = some p → ρl'[i]? = some p := fun h hp => w.p _ _ (selR_get h hp)
  have memsel : ∀ {i : Nat} {p : Addr}, ρ[i]? = some p → p ∈ selR js ρ → i ∈ js := fun {i p} hp hm => by
    unfold selR at hm
    obtain ⟨j, hj, e⟩ := List.mem_map.mp hm
    obtain ⟨m, hm⟩ := List.mem_iff_getElem?.mp hj
    have lt := jlt hm
    rw [← g.len] at lt
    rw [List.getD_eq_getElem?_getD, List.getElem?_eq_getElem lt] at e
    have : ρ[j]? = some p := by rw [List.getElem?_eq_getElem lt]; exact congrArg some e
    rw [g.inj i j p hp this]; exact hj
  have newne : ∀ {i m : Nat} {p : Addr}, ρ[i]? = some p → (ρl'.drop js.length)[m]? = some p → False := fun {i m p} h1 h2 => by
    rw [List.getElem?_drop] at h2
    by_cases hj : i ∈ js
    · obtain ⟨q, hq⟩ := List.mem_iff_getElem?.mp hj
      have := g'.inj q _ p (rl hq h1) h2
      have := (List.getElem?_eq_some_iff.mp hq).1
      omega
    · have hm : js.length + m < κ'.length := by rw [← g'.len]; exact (List.getElem?_eq_some_iff.mp h2).1
      have ok := g'.at' _ p _ h2 (List.getElem?_eq_getElem hm)
      have live : liveC κ'[js.length + m] = true := List.all_eq_true.mp lv _ (mem_of_get (by rw [List.getElem?_drop]; exact List.getElem?_eq_getElem hm))
      have bn : B' p = none ∨ ∃ ws, H' p = some (.tup ws) := by
        cases hc : κ'[js.length + m] with
        | dead => rw [hc] at live; cases live
        | ld ys => rw [hc] at ok; exact .inl ok.1
        | lst ys => rw [hc] at ok; exact .inl ok.1
        | tup ys => rw [hc] at ok; obtain ⟨vs, _, e⟩ := ok; exact .inr ⟨vs, e⟩
        | dK ys => rw [hc] at ok; exact .inl ok.1
        | dT ys => rw [hc] at ok; exact .inl ok.1
        | ins C ys => rw [hc] at ok; exact .inl ok.1
      have hi : i < κ.length := by rw [← g.len]; exact (List.getElem?_eq_some_iff.mp h1).1
      have hn := (g.at' i p _ h1 (List.getElem?_eq_getElem hi)).nn
      cases hH : H p with
      | none => exact hn hH
      | some o =>
        have fo : B p = none ∨ IsT o := by
          rcases bn with bn | ⟨ws, e⟩
          · exact .inl (w.s.free bn)
          · cases hB : B p with
            | none => exact .inl rfl
            | some u =>
              have z1 := g.ex p u hB
              rw [hH] at z1; cases z1
              have z2 := g'.ex p _ (w.s p _ hB)
              rw [e] at z2
              exact .inr ⟨ws, (Option.some.inj z2).symm⟩
        exact (w.f p o hH fo fun z => hj (memsel h1 z)).2.2 (mem_of_get h2)
  have w2 : Up B ρ H B' (ρ ++ ρl'.drop js.length) H' := ⟨w.s, fun _ _ h => get_app h, fun p o h1 h2 h3 => by
    have hp : p ∉ selR js ρ := fun z => by
      unfold selR at z
      obtain ⟨j, hj, e⟩ := List.mem_map.mp z
      obtain ⟨m, hm⟩ := List.mem_iff_getElem?.mp hj
      have lt := jlt hm
      rw [← g.len] at lt
      rw [List.getD_eq_getElem?_getD, List.getElem?_eq_getElem lt] at e
      exact h3 (by rw [← e]; exact List.getElem_mem lt)
    obtain ⟨y1, y2, y3⟩ := w.f p o h1 h2 hp
    refine ⟨y1, y2, fun z => ?_⟩
    rcases List.mem_append.mp z with z | z
    · exact h3 z
    · exact y3 (List.mem_of_mem_drop z)⟩
  have hrep : ∀ {a : AV} {v : V}, Rep K B' ρl' a v → Rep K B' (ρ ++ ρl'.drop js.length) (backA js κ.length a) v := fun {a v} r => by
    cases a with
    | d y => exact r
    | r y => exact r
    | c j =>
      obtain ⟨p, hp, rfl⟩ := r
      show Rep K B' _ (match js[j]? with | some k => .c k | none => .c (κ.length + (j - js.length))) _
      cases e : js[j]? with
      | some k =>
        have lt := jlt e
        rw [← g.len] at lt
        have e2 := rl e (List.getElem?_eq_getElem lt)
        rw [hp] at e2; cases e2
        exact ⟨_, get_app (List.getElem?_eq_getElem lt), rfl⟩
      | none =>
        have hj : js.length ≤ j := List.getElem?_eq_none_iff.mp e
        refine ⟨p, ?_, rfl⟩
        rw [← g.len, List.getElem?_append_right (by omega), List.getElem?_drop]
        have : js.length + (ρ.length + (j - js.length) - ρ.length) = j := by omega
        rw [this]; exact hp
  have lb : (putK js (κ'.map (backC js κ.length)) κ).length = ρ.length := by rw [putK_len, g.len]
  refine ⟨w2, ⟨g'.ex, ?_, fun i j p h1 h2 => ?_, fun i p c h1 h2 => ?_, K.up _ _ _ _ _ _ w2.n g.z⟩, hrep⟩
  · rw [backKX, backK_eq, List.length_append, List.length_append, lb, List.length_drop, List.length_drop, List.length_map, g'.len]
  · by_cases hi : i < ρ.length
    · rw [List.getElem?_append_left hi] at h1
      by_cases hj : j < ρ.length
      · rw [List.getElem?_append_left hj] at h2
        exact g.inj i j p h1 h2
      · rw [List.getElem?_append_right (by omega)] at h2
        exact (newne h1 h2).elim
    · rw [List.getElem?_append_right (by omega)] at h1
      by_cases hj : j < ρ.length
      · rw [List.getElem?_append_left hj] at h2
        exact (newne h2 h1).elim
      · rw [List.getElem?_append_right (by omega)] at h2
        rw [List.getElem?_drop] at h1 h2
        have := g'.inj _ _ p h1 h2
        omega
  · rw [backKX, backK_eq] at h2
    by_cases hi : i < ρ.length
    · rw [List.getElem?_append_left hi] at h1
      rw [List.getElem?_append_left (by omega)] at h2
      by_cases hj : i ∈ js
      · obtain ⟨q, hq⟩ := List.mem_iff_getElem?.mp hj
        have hq' : q < κ'.length := Nat.lt_of_lt_of_le (List.getElem?_eq_some_iff.mp hq).1 l
        rw [putK_at nd hq (by rw [List.getElem?_map, List.getElem?_eq_getElem hq']; rfl) (jlt hq)] at h2
        cases h2
        exact (g'.at' q p _ (rl hq h1) (List.getElem?_eq_getElem hq')).back hrep
      · rw [putK_ne hj] at h2
        have ok := g.at' i p c h1 h2
        have hp : p ∉ selR js ρ := fun z => hj (memsel h1 z)
        refine ok.up w2.g (fun bn => ?_) fun o ho => ?_
        · obtain ⟨o, ho⟩ := Option.ne_none_iff_exists'.mp ok.nn
          exact (w.f p o ho (.inl bn) hp).2.1.imp id fun ⟨ws, z⟩ => ⟨ws, by rw [ho, z]⟩
        · cases bp : B p with
          | none => exact (w.f p o ho (.inl bp) hp).1
          | some u =>
            have e1 := g.ex p u bp
            rw [ho] at e1; cases e1
            exact g'.ex p o (w.s p o bp)
    · rw [List.getElem?_append_right (by omega), List.getElem?_drop] at h1
      rw [List.getElem?_append_right (by omega), lb, List.getElem?_drop, List.getElem?_map] at h2
      obtain ⟨c0, hc0, rfl⟩ := Option.map_eq_some_iff.mp h2
      exact (g'.at' _ p c0 h1 hc0).back hrep
def aCallX (F : FSp) (E : AX → AK → Prop) (fa : AA) : AE := fun δ κ R => fa δ κ fun as κ1 => callX F E as κ1 R
theorem callX_sd {F : FSp} {E : XK} {E' : AX → AK → Prop} {as : List AV} {vs : List V} {R : AR} {Q : VK} (g : G K B ρ κ H) (r : Reps K B ρ as vs) (h : callX F E' as κ R) (q : Nx K B ρ H R Q) (hx : ∀ B' ρ' κ' H' x cls d, G K B' ρ' κ' H' → E' x κ' → RepX K B' x cls d → E cls d H') : spA K F vs H Q E := by
  obtain ⟨js, asl, κl, nd, e1, e2, hF⟩ := callX_e h
  refine ⟨B, selR js ρ, κl, asl, _, _, sel_okX g nd e2, selAs_ok (fun i j p h1 h2 => selR_get h1 h2) e1 r, hF, ?_, ?_⟩
  · rintro B' ρ' κ' H' a v w2 g2 r2 ⟨l, lv, hR⟩
    obtain ⟨w3, g3, r3⟩ := back_okX g nd e2 w2 g2 l lv
    exact q _ _ _ _ _ _ w3 g3 (r3 r2) hR
  · rintro B' ρ' κ' H' x cls d w2 g2 r2 ⟨l, lv, hR⟩
    obtain ⟨w3, g3, r3⟩ := back_okX g nd e2 w2 g2 l lv
    exact hx _ _ _ _ _ _ _ g3 hR r2
theorem se_callX {F : FSp} {ta : TA} {fa : AA} {E : XK} {E' : AX → AK → Prop} (ha : SA K ta fa) (hx : ∀ B' ρ' κ' H' x cls d, G K B' ρ' κ' H' → E' x κ' → RepX K B' x cls d → E cls d H') : SE K (tCall (spA K F) [] E ta) (aCallX F E' fa) := fun B ρ δ κ σ H R Q s g h q =>
  ha B ρ δ κ σ H _ _ s g h fun B1 ρ1 κ1 H1 as vs w1 g1 r1 hcw => by
    show spA K F (vs ++ []) H1 Q E
    rw [List.append_nil]
    exact callX_sd g1 r1 hcw (q.later w1) hx
section
variable {X : Cx} {e e2 : Expr} {t u : TE} {f f2 : AE} {pos : Pos}
variable {l : Nat} {fa : Addr} {fd : FuncData} {ps : List Str} {F : FSp} {x : Str} {q pos : Pos} {es : List Expr} {ta : TA} {ga : AA}
theorem ea_callX (Fo : FnOk X.prog X.w X.K X.mg X.base CX0 l fa fd ps (spA K F)) (hr : Room l X.A) (hg : Gl X x) (hm : X.mg x = some (.ref fa)) (hk : PySem.W.keepIn X.K (.ref fa) = true) (hb : Binds X.K fd ps []) (ha : PAa K X (e :: es) ta ga)
    (hdb : (x == ("__debug__" : Str)) = false := by decide) (he : starEach (e :: es) X.env = (false, eval e X.env) :: starEach es X.env := by rfl) (hpl : (backTo pos (starEach es X.env)).any (·.1) = false := by rfl) (hK : X.K = K := by rfl) :
    PEa K X (.Call (.Name x q) (e :: es) [] pos) (tCall (spA K F) [] E0 ta) (aCallX F (fun _ _ => False) ga) := by
  obtain ⟨K, Kn, KZ, Ku⟩ := K
  change X.K = K at hK
  subst hK
  exact ⟨pe_call Fo hr hg hm hk hb .nil pass0 ha.pa hdb he hpl, se_callX ha.sd fun _ _ _ _ _ _ _ _ h => h.elim⟩
end
end Ab
set_option Elab.async false
set_option linter.all false
set_option maxRecDepth 100000
set_option maxHeartbeats 4000000
/-! Ab13: find, split, all, ord, int of a text, a text several times, a list taken apart -/
namespace Ab
open PySem L2
variable {K : Frg} {B B' B2 H H' H2 : Hp} {ρ ρ' ρ2 : List Addr} {κ κ' : AK} {δ : AD} {σ : L2.St} {p : Addr} {k : Nat} {v x y z : V} {a b c : AV}
variable {X : Cx} {e e2 : Expr} {t u : TE} {f f2 : AE} {pos : Pos}
/-- s.find(x, i) -/
def aFind3 : AV → List AV → AK → AR → Prop := fun a as κ R => match a, as with
  | .d (.str s), [.d (.str t), .d (.int i)] => R (.d (.int (Txt.find3 s t i))) κ
  | _, _ => False
theorem ma_find3 : MtA K X "str.find" (fun x xs H Q => ∃ (a b : Str) (i : Int), x = .str a ∧ xs = [.str b, .int i] ∧ Q (.int (Txt.find3 a b i)) H) aFind3 := by
  refine ⟨mt_find3, fun B ρ κ H x xs a as R Q g rx rs h q => ?_⟩
  unfold aFind3 at h
  split at h
  · obtain ⟨y, z, rfl, r1, r2⟩ := reps2 rs
    cases rx.str; cases r1.str; cases r2.int
    exact ⟨_, _, _, rfl, rfl, q.at0 g (rp_int _) h⟩
  · exact h.elim
theorem dpa_strs_of : ∀ ys : List Str, DpAll K B (ys.map V.str) (ys.map .str)
  | [] => .nil
  | y :: ys => .cons (.str y) (dpa_strs_of ys)
/-- s.split(x): data -/
def aSplit : AV → List AV → AK → AR → Prop := fun a as κ R => match a, as with
  | .d (.str s), [.d (.str t)] => (t.length == 0) = false ∧ s.length + 2 ≤ sizeLine ∧ R (.d (.list ((Txt.split s t).map .str))) κ
  | _, _ => False
theorem ma_split : MtA K X "str.split" (fun x xs H Q => ∃ a b, x = .str a ∧ xs = [.str b] ∧ (b.length == 0) = false ∧ a.length + 2 ≤ sizeLine ∧ rNewStrs (Txt.split a b) H Q) aSplit := by
  refine ⟨mt_split, fun B ρ κ H x xs a as R Q g rx rs h q => ?_⟩
  unfold aSplit at h
  split at h
  · obtain ⟨y, rfl, r1⟩ := reps1 rs
    cases rx.str; cases r1.str
    refine ⟨_, _, rfl, rfl, h.1, h.2.1, fun p hp => ?_⟩
    obtain ⟨u4, g4, r4⟩ := new_lst g hp (dpa_strs_of _)
    exact q _ _ _ _ _ _ u4 g4 r4 h.2.2
  · exact h.elim
theorem dpa_bools : ∀ {bs : List Bool} {vs : List V}, DpAll K B vs (bs.map .bool) → vs = bs.map V.bl
  | [], _, h => by cases h; rfl
  | y :: ys, _, h => by
    cases h with
    | cons h1 h2 =>
      cases h1
      rw [dpa_bools h2]; rfl
/-- all([..]) of truths -/
def aAll : List AV → AK → AR → Prop := fun as κ R => match as with
  | [.d (.list ds)] => ∃ bs : List Bool, ds = bs.map .bool ∧ R (.d (.bool (bs.all id))) κ
  | _ => False
theorem ca_all (hc : X.calm = true) (hK : X.K = K := by rfl) : CallA K X (.builtin "all") (rAll K) aAll := by
  obtain ⟨K, Kn, KZ, Ku⟩ := K
  change X.K = K at hK
  subst hK
  refine ⟨cr_all hc, fun B ρ κ H xs as R Q g rs h q => ?_⟩
  unfold aAll at h
  split at h
  · obtain ⟨x, rfl, r⟩ := reps1 rs
    obtain ⟨bs, rfl, h⟩ := h
    obtain ⟨p, vs, rfl, s1, d1⟩ := of_listG g r
    obtain rfl := dpa_bools d1
    exact ⟨p, bs, rfl, s1, q.at0 g (rp_bl _) h⟩
  · exact h.elim
/-- ord(c) -/
def aOrd : List AV → AK → AR → Prop := fun as κ R => match as with
  | [.d (.str s)] => ∃ c, s.cps.toList = [c] ∧ R (.d (.int (c : Nat))) κ
  | _ => False
theorem ca_ord : CallA K X (.builtin "ord") (fun xs H Q => ∃ x, xs = [.str x] ∧ x.length = 1 ∧ Q (.int (x.cps.getD 0 0 : Nat)) H) aOrd := by
  refine ⟨call_ord, fun B ρ κ H xs as R Q g rs h q => ?_⟩
  unfold aOrd at h
  split at h
  · obtain ⟨x, rfl, r⟩ := reps1 rs
    obtain ⟨c, e, h⟩ := h
    rw [str_one e] at r
    refine ⟨⟨#[c]⟩, by rw [r.str], rfl, q.at0 g (rp_int _) h⟩
  · exact h.elim
/-- int of a text of digits -/
def aIntS : List AV → AK → AR → Prop := fun as κ R => match as with
  | [.d (.str s)] => ∃ n, PySem.intText? s = some n ∧ s.length ≤ 640 ∧ R (.d (.int n)) κ
  | _ => False
theorem ca_intS : CallA K X (.type "int") (fun xs H Q => ∃ a n, xs = [.str a] ∧ PySem.intText? a = some n ∧ a.length ≤ 640 ∧ Q (.int n) H) aIntS := by
  refine ⟨call_int_str, fun B ρ κ H xs as R Q g rs h q => ?_⟩
  unfold aIntS at h
  split at h
  · obtain ⟨x, rfl, r⟩ := reps1 rs
    obtain ⟨n, e, hl, h⟩ := h
    cases r.str
    exact ⟨_, n, rfl, e, hl, q.at0 g (rp_int _) h⟩
  · exact h.elim
/-- a text n times -/
def aMulT : AO := fun a b κ R => match a, b with
  | .d (.str s), .d (.int n) => s.length ≤ 1000 ∧ 1 < n ∧ n ≤ 1000 ∧ R (.d (.str (Txt.mul s n))) κ
  | _, _ => False
def rMulT : R2 := fun x y H Q => ∃ s n, x = .str s ∧ y = .int n ∧ s.length ≤ 1000 ∧ 1 < n ∧ n ≤ 1000 ∧ Q (.str (Txt.mul s n)) H
theorem op_mulT : OpR X (binaryOp .Mult) rMulT := by
  intro pins s σ H x y v u Q I rx ry h
  obtain ⟨z, n, rfl, rfl, h1, h2, h3, q⟩ := h
  obtain ⟨t, rfl⟩ := rx
  obtain ⟨t2, rfl⟩ := ry
  refine PySem.SB.mul ⟨?_, fun _ _ => ?_, fun _ _ => ?_⟩ fun t' k => ⟨.str _, H, I.tok k, ⟨t', rfl⟩, q⟩
  · rw [Bool.or_eq_false_iff]
    exact ⟨decide_eq_false (by omega), decide_eq_false (by omega)⟩
  · have : (1000 : Int) ≤ (2 ^ 63 - 1) / n := by
      rw [Int.le_ediv_iff_mul_le (by omega)]; omega
    omega
  · have : z.length * n.toNat ≤ 1000 * 1000 := Nat.mul_le_mul h1 (by omega)
    have hs : (1000000 : Nat) ≤ sizeLine := by decide
    unfold Builtin.Str.tooLong
    exact decide_eq_false (by omega)
theorem oa_mulT : OpA K X (binaryOp .Mult) rMulT aMulT := by
  refine ⟨op_mulT, ?_⟩
  intro B ρ κ H x y a b R Q g rx ry h q
  unfold aMulT at h
  split at h
  · exact ⟨_, _, rx.str, ry.int, h.1, h.2.1, h.2.2.1, q.at0 g (rp_str _) h.2.2.2⟩
  · exact h.elim
/-- a list is taken apart -/
def aGUnl (n : Nat) (gs : AGs) : AG := fun a δ κ R => match a with
  | .d (.list ds) => ds.length = n ∧ gs (ds.map .d) δ κ R
  | _ => False
theorem ga_unl {es : List Expr} {tgs : TGs} {ags : AGs} {kk : Nat} {n : Nat} (hc : X.calm = true) (h : PGsa K X es tgs ags) (hn : (assignEach es X.env).length = n := by rfl) (hst : (assignEach es X.env).findIdx? (·.1) = none := by rfl) (hK : X.K = K := by rfl) : PGa K X (.Tuple es kk pos) (gUnl K n tgs) (aGUnl n ags) := by
  obtain ⟨K, Kn, KZ, Ku⟩ := K
  change X.K = K at hK
  subst hK
  exact ⟨pg_unl hc h.pg hn hst, fun B ρ δ κ σ H a v R Q s g r hh q => by
    unfold aGUnl at hh
    split at hh
    · obtain ⟨p, vs, rfl, s1, d1⟩ := of_listG g r
      exact ⟨p, vs, rfl, s1, by rw [dpa_len d1]; exact hh.1, h.sd _ _ _ _ _ _ _ _ _ _ s g (Reps.all d1) hh.2 q⟩
    · exact hh.elim⟩
end Ab
set_option Elab.async false
set_option linter.all false
set_option maxRecDepth 100000
set_option maxHeartbeats 4000000
/-! Ab14: dicts whose keys are tuples, sorted -/
namespace Ab
open PySem L2 PyProof.Rows PyProof.Rows.G PySem.W
/-! ### keys as rows of numbers and signs -/
def kI (k : List L2.Key) : List (Int ⊕ List Nat) := k.map fun
  | .inl n => .inl n
  | .inr s => .inr s.cps.toList
/-- one shape: which items are texts -/
def okSh (shape : Nat → Bool) : Nat → List L2.Key → Prop
  | _, [] => True
  | i, .inl _ :: r => shape i = false ∧ okSh shape (i + 1) r
  | i, .inr _ :: r => shape i = true ∧ okSh shape (i + 1) r
def kLt (a b : List L2.Key) : Bool := lexLt itemOrd (kI a) (kI b)
def SrtKs (ks : List (List L2.Key)) : Prop := ks.Pairwise fun a b => kLt b a = false
theorem items_of {shape : Nat → Bool} : ∀ {k : List L2.Key} {i : Nat} {its : List Value}, Vals (k.map kV) its → okSh shape i k → tupItems shape i its = some (kI k)
  | [], _, _, h, _ => by cases h; rfl
  | .inl n :: r, i, _, h, hs => by
    cases h with
    | cons h1 h2 =>
      obtain ⟨t, rfl⟩ := h1
      show (if shape i = true then none else (tupItems shape (i + 1) _).map (Sum.inl n :: ·)) = _
      rw [if_neg (by rw [hs.1]; exact Bool.false_ne_true), items_of h2 hs.2]; rfl
  | .inr s :: r, i, _, h, hs => by
    cases h with
    | cons h1 h2 =>
      obtain ⟨t, rfl⟩ := h1
      show (if shape i = true then (tupItems shape (i + 1) _).map (Sum.inr s.cps.toList :: ·) else none) = _
      rw [if_pos hs.1, items_of h2 hs.2]; rfl
/-- a key tuple in the heap -/
def KtAt (h : Heap) (k : List L2.Key) (b : Addr) : Prop := ∃ its, Vals (k.map kV) its ∧ IsTup h b its.toArray
theorem KtAt.keep {h h' : Heap} {k : List L2.Key} {b : Addr} (x : KtAt h k b) (q : ∀ b o, h.get? b = some o → h'.get? b = some o) : KtAt h' k b := let ⟨its, r, t⟩ := x; ⟨its, r, t.keeps q⟩
theorem ktAt_of {P : Program} {w : World} {H : Hp} {h : Heap} {k : List L2.Key} {b : Addr} (ok : HOk P w H h) (hb : H b = some (.tup (k.map kV))) : KtAt h k b := by
  obtain ⟨_, its, rv, t⟩ := (show ObjOk P w H h b (.tup (k.map kV)) from ok b _ hb)
  exact ⟨its, rv, t⟩
theorem keyC_of {h : Heap} {b : Addr} {shape : Nat → Bool} {k : List L2.Key} (hb : KtAt h k b) (hs : okSh shape 0 k) : tupKeyC h shape (.ref b) = some (kI k) := by
  obtain ⟨its, rv, o, ho, hc, n, hd⟩ := hb
  unfold tupKeyC tupKey isTupObj
  simp only [ho, hc, hd]
  rw [if_pos (by simp)]
  exact items_of rv hs
theorem tupOf_of {h : Heap} {b : Addr} {shape : Nat → Bool} {k : List L2.Key} (hb : KtAt h k b) (hs : okSh shape 0 k) (hne : k ≠ []) : ∃ f, TupOf h shape (.ref b) f := by
  obtain ⟨its, rv, o, ho, hc, n, hd⟩ := hb
  cases k with
  | nil => exact absurd rfl hne
  | cons x r =>
    cases rv with
    | @cons _ f _ us h1 h2 =>
      refine ⟨f, b, o, _, n, rfl, ho, hc, hd, by simp, fun h0 => ?_, fun h0 => ?_⟩
      · cases x with
        | inl z => obtain ⟨t, rfl⟩ := h1; exact ⟨z, t, rfl⟩
        | inr z => rw [hs.1] at h0; cases h0
      · cases x with
        | inl z => rw [hs.1] at h0; cases h0
        | inr z => obtain ⟨t, rfl⟩ := h1; exact ⟨z, t, rfl⟩
/-- a list of key tuples, with their places -/
def KAts (h : Heap) (shape : Nat → Bool) (l : List (List L2.Key × Addr)) : Prop := ∀ x ∈ l, KtAt h x.1 x.2 ∧ okSh shape 0 x.1 ∧ x.1 ≠ []
theorem KAts.keep {h h' : Heap} {shape : Nat → Bool} {l : List (List L2.Key × Addr)} (x : KAts h shape l) (q : ∀ b o, h.get? b = some o → h'.get? b = some o) : KAts h' shape l := fun y hy => let ⟨a, b, c⟩ := x y hy; ⟨a.keep q, b, c⟩
theorem tups_of {h : Heap} {shape : Nat → Bool} : ∀ {l : List (List L2.Key × Addr)}, KAts h shape l → ∃ fs, TupsOf h shape (l.map fun x => Value.ref x.2) fs
  | [], _ => ⟨[], .nil⟩
  | x :: l, hl => by
    obtain ⟨h1, h2, h3⟩ := hl x (List.mem_cons_self ..)
    obtain ⟨f, hf⟩ := tupOf_of h1 h2 h3
    obtain ⟨fs, hfs⟩ := tups_of (l := l) fun y hy => hl y (List.mem_cons_of_mem _ hy)
    exact ⟨f :: fs, .cons hf hfs⟩
theorem sort_out {h : Heap} {shape : Nat → Bool} {l : List (List L2.Key × Addr)} (hl : KAts h shape l) {arr : Array Keyed} (hp : arr.Perm (pairsOf (l.map fun x => Value.ref x.2))) (hs : SortedToK (tupKindC h shape) arr (pairsOf (l.map fun x => Value.ref x.2)).size) :
    ∃ l' : List (List L2.Key × Addr), l'.Perm l ∧ (arr.map (·.2)).toList = l'.map (fun x => Value.ref x.2) ∧ SrtKs (l'.map (·.1)) := by
  have hz : arr.toList.Perm ((l.map fun x => Value.ref x.2).zip (l.map fun x => Value.ref x.2)) := by rw [← pairsOf_toList]; exact Array.perm_iff_toList_perm.mp hp
  have ez : ∀ l : List (List L2.Key × Addr), l.map (fun x => ((Value.ref x.2, Value.ref x.2) : Value × Value)) = (l.map fun x => Value.ref x.2).zip (l.map fun x => Value.ref x.2) := by
    intro l
    induction l with
    | nil => rfl
    | cons a l ih => rw [List.map_cons, List.map_cons, List.zip_cons_cons, ih]
  obtain ⟨l', p', e'⟩ := perm_lift (fun x : List L2.Key × Addr => ((Value.ref x.2, Value.ref x.2) : Value × Value)) hz l (ez l)
  have hl' : KAts h shape l' := fun x hx => hl x (p'.mem_iff.mp hx)
  refine ⟨l', p', ?_, ?_⟩
  · rw [Array.toList_map, ← e', List.map_map]; rfl
  · unfold SrtKs
    rw [List.pairwise_map, List.pairwise_iff_getElem]
    intro i j hi hj hij
    have hsz : arr.size = l'.length := by
      have := congrArg List.length e'
      rw [List.length_map, Array.length_toList] at this
      exact this.symm
    have h1 := hs i j (Nat.le_of_lt hij) (by rw [← hp.size_eq, hsz]; exact hj)
    have kk : ∀ m (hm : m < l'.length), KK (tupKindC h shape) arr m = kI l'[m].1 := by
      intro m hm
      have em : arr[m]? = some (Value.ref l'[m].2, Value.ref l'[m].2) := by
        rw [← Array.getElem?_toList, ← e', List.getElem?_map, List.getElem?_eq_getElem hm]; rfl
      obtain ⟨h3, h4, _⟩ := hl' l'[m] (List.getElem_mem hm)
      unfold KK
      rw [em]
      show (tupKeyC h shape (.ref l'[m].2)).getD [] = _
      rw [keyC_of h3 h4]; rfl
    rw [kk i hi, kk j hj] at h1
    exact h1
/-! ### sorted(d): a dict with tuple keys -/
section
variable {X : L2.Cx}
def rSortDT : List V → Hp → VK → Prop := fun xs H Q => ∃ (a : Addr) (kvs : List (List L2.Key × V)) (shape : Nat → Bool), xs = [V.ref a] ∧ Rd H a (.dT kvs) ∧ (∀ kv ∈ kvs, okSh shape 0 kv.1 ∧ kv.1 ≠ []) ∧
  ∀ (l : List (List L2.Key × Addr)) p, (l.map (·.1)).Perm (kvs.map (·.1)) → SrtKs (l.map (·.1)) → (∀ x ∈ l, H x.2 = some (.tup (x.1.map kV))) → H p = none → Q (.ref p) (upd H p (.lst (l.map fun x => V.ref x.2)))
theorem cr_sortedDT (hcalm : X.calm = true) : CallR X (.builtin "sorted") rSortDT := by
  intro pins s σ H xs us Q I r h
  obtain ⟨d, kvs, shape, rfl, hd, hsh, q⟩ := h
  obtain ⟨u, rfl, rx⟩ := r.one
  cases rx
  obtain ⟨z, hs, ks, pr, o, es, ep, ho, hx, hdt, he, hn⟩ := (show ObjOk X.prog X.w H s.heap d (.dT kvs) from hd.ok I.hok)
  have l1 : es.size = ks.length := size_of_entries he
  have l2 : kvs.length = ks.length := Paired.length pr
  refine Calls.call_function_entry kind_sorted plain_sorted entry_sorted (args_sorted1 _) ?_
  unfold Builtin.«sorted»
  refine wpAny_bind (m := checkCount "sorted" 1 1 _) (wpAny_pure ?_)
  refine wpAny_bind (PySem.W.kdu_collect (A := X.A.in1) (kdl_raw hs hx hdt) (I.ok.hd hcalm) ho (by omega) fun h' tk acc hk it => ?_)
  have ea : acc.toList = (ks.map fun x => (x.1, x.2.1)).map fun x => Value.ref x.2 := by
    have hl : acc.toList.length = ks.length := by rw [Array.length_toList, it.1]; exact l1
    apply List.ext_getElem?
    intro j
    rw [List.map_map, List.getElem?_map]
    cases hj : acc.toList[j]? with
    | none =>
      have h1 := List.getElem?_eq_none_iff.mp hj
      rw [List.getElem?_eq_none (by omega)]
      rfl
    | some v =>
      obtain ⟨en, hen, hv⟩ := it.2 j v (by rw [← Array.getElem?_toList]; exact hj)
      have qe := entry_at he j
      rw [hen] at qe
      cases hb : ks[j]? with
      | none =>
        rw [hb] at qe
        exact nomatch (show some en = none from qe)
      | some b =>
        rw [hb] at qe
        have e2 : en = entryOfKey (tupleKind (mixKind X.prog X.w)) b := Option.some.inj qe
        rw [hv, e2]
        rfl
  have hks : ks.map (·.1) = kvs.map (·.1) := by
    have : ∀ {l : List (List L2.Key × V)} {m : List (List L2.Key × Addr × Value)}, KT H l m → m.map (·.1) = l.map (·.1) := by
      intro l m q
      induction q with
      | nil => rfl
      | cons h _ ih => rw [List.map_cons, List.map_cons, h.1, ih]
    exact this pr
  have hH : ∀ x ∈ ks, H x.2.1 = some (.tup (x.1.map kV)) := by
    have : ∀ {l : List (List L2.Key × V)} {m : List (List L2.Key × Addr × Value)}, KT H l m → ∀ x ∈ m, H x.2.1 = some (.tup (x.1.map kV)) := by
      intro l m q
      induction q with
      | nil => intro x hx; cases hx
      | cons h _ ih =>
        intro x hx
        rcases List.mem_cons.mp hx with rfl | hx
        · rw [← h.1]; exact h.2.1
        · exact ih x hx
    exact this pr
  generalize hL : (ks.map fun x => (x.1, x.2.1)) = L at ea
  have hLH : ∀ x ∈ L, H x.2 = some (.tup (x.1.map kV)) := fun x hx => by
    rw [← hL] at hx
    obtain ⟨y, hy, rfl⟩ := List.mem_map.mp hx
    exact hH y hy
  have hLk : L.map (·.1) = kvs.map (·.1) := by rw [← hL, List.map_map, ← hks]; rfl
  have I1 : Inv X pins σ H { s with heap := h', toks := tk } := I.kept hk
  have hLA : KAts h' shape L := fun x hx => by
    have hm : x.1 ∈ kvs.map (·.1) := by rw [← hLk]; exact List.mem_map.mpr ⟨x, hx, rfl⟩
    obtain ⟨kv, hkv, e⟩ := List.mem_map.mp hm
    have := hsh kv hkv
    rw [e] at this
    exact ⟨ktAt_of I1.hok (hLH x hx), this⟩
  have hLl : L.length = kvs.length := by
    have := congrArg List.length hLk
    rwa [List.length_map, List.length_map] at this
  have hal : acc.toList.length = L.length := by rw [ea, List.length_map]
  refine wpAny_bind (wpAny_newList ?_ (by have := z; omega))
  have hoL : (h'.push (seqObj "list" acc.toList.toArray 0)).get? h'.objs.size = some (seqObj "list" acc.toList.toArray 0) := Heap.get?_push_size _ rfl
  show wpAny _ _ _ _ _ { s with heap := h'.push (seqObj "list" acc.toList.toArray 0), toks := tk }
  have hLP : KAts (h'.push (seqObj "list" acc.toList.toArray 0)) shape L := hLA.keep fun _ _ e => Heap.get?_push_of_some _ e
  obtain ⟨fs, hfs⟩ := tups_of hLP
  rw [← ea] at hfs
  refine wpAny_bind (wpAny_holding (wpAny_call_entry slot_list_sort ⟨_, hoL, rfl⟩ entry_list_sort
    (list_sort_tups (s := { s with heap := h'.push (seqObj "list" acc.toList.toArray 0), toks := tk }) (shape := shape) hoL hfs (fun v hv => ?_) (by omega) fun st' hp hs _ => ⟨_, rfl, ?_⟩) (args_list_sort _)))
  · rw [ea] at hv
    obtain ⟨x, hx, rfl⟩ := List.mem_map.mp hv
    exact ⟨_, keyC_of (hLP x hx).1 (hLP x hx).2.1⟩
  · have hp2 : (arrOf st').Perm (pairsOf (L.map fun x => Value.ref x.2)) := by rw [← ea]; exact hp
    have hs2 : SortedToK (tupKindC (h'.push (seqObj "list" acc.toList.toArray 0)) shape) (arrOf st') (pairsOf (L.map fun x => Value.ref x.2)).size := by rw [← ea]; exact hs
    obtain ⟨l', g1, g2, g3⟩ := sort_out hLP hp2 hs2
    obtain ⟨e', he'⟩ := sortedHeap_at (vs := acc.toList) (out := (arrOf st').map (·.2)) hoL
    have hl' : l'.length = L.length := g1.length_eq
    have hlen : (l'.map fun x => V.ref x.2).length ≤ sizeLine := by rw [List.length_map, hl', hLl]; exact z
    refine wpAny_pure ⟨_, rfl, .ref h'.objs.size, upd H h'.objs.size (.lst (l'.map fun x => V.ref x.2)), I1.laid (t' := tk) (fun b u e => ?_) (Nat.le_refl _)
      (show ObjOk X.prog X.w _ _ _ (.lst (l'.map fun x => V.ref x.2)) from ⟨hlen, ((arrOf st').map (·.2)).toList, e', by rw [g2]; exact vals_maps _ _ _ fun x _ => rfl, by rw [Array.toArray_toList]; exact he'⟩), rfl,
      q l' _ ((g1.map _).trans (by rw [hLk])) g3 (fun x hx => hLH x (g1.mem_iff.mp hx)) (I1.hok.fresh (Nat.le_refl _))⟩
    have hb : b < h'.objs.size := Heap.lt_size e
    rw [sortedHeap_old (Nat.ne_of_lt hb) (by rw [size_push']; exact Nat.lt_succ_of_lt hb)]
    exact Heap.get?_push_of_some _ e
end
/-! ### tuples become data -/
section
variable {K : Frg} {B B' : Hp} {ρ : List Addr} {κ : AK} {H : Hp} {X : L2.Cx}
theorem dpa_key : ∀ k : List L2.Key, DpAll K B (k.map kV) (k.map keyD)
  | [] => .nil
  | .inl i :: k => .cons (.int i) (dpa_key k)
  | .inr s :: k => .cons (.str s) (dpa_key k)
theorem absorb1 (g : G K B ρ κ H) {b : Addr} {ws : List V} {ds : List PyData} (hb : H b = some (.tup ws)) (d : DpAll K B ws ds) : ∃ B', Up B ρ H B' ρ H ∧ G K B' ρ κ H ∧ Dp K B' (.ref b) (.tuple ds) := by
  cases hB : B b with
  | some o =>
    have e := g.ex b o hB
    rw [hb] at e; cases e
    exact ⟨B, Up.refl, g, .tup (.inl (.inl hB)) d⟩
  | none =>
    have hs : Same B (upd B b (.tup ws)) := same_upd hB
    have u : Up B ρ H (upd B b (.tup ws)) ρ H := ⟨hs, fun _ _ h => h, fun q o h1 h2 h3 => by
      refine ⟨h1, ?_, h3⟩
      by_cases e : q = b
      · subst e
        rw [hb] at h1; cases h1
        exact .inr ⟨ws, rfl⟩
      · rw [upd_ne e]; exact h2⟩
    refine ⟨_, u, ⟨fun q o e => ?_, g.len, g.inj, fun i q c h1 h2 => ?_, K.up _ _ _ _ _ _ u.n g.z⟩, .tup (.inl (.inl upd_same)) (dpa_up hs _ _ d)⟩
    · by_cases e2 : q = b
      · subst e2; rw [upd_same] at e; rw [hb]; exact e
      · rw [upd_ne e2] at e; exact g.ex q o e
    · refine (g.at' i q c h1 h2).up u.g (fun z => ?_) fun _ e => e
      by_cases e2 : q = b
      · subst e2; exact .inr ⟨ws, hb⟩
      · rw [upd_ne e2]; exact .inl z
theorem absorb : ∀ {l : List (List L2.Key × Addr)} {B : Hp}, G K B ρ κ H → (∀ x ∈ l, H x.2 = some (.tup (x.1.map kV))) → ∃ B', Up B ρ H B' ρ H ∧ G K B' ρ κ H ∧ DpAll K B' (l.map fun x => V.ref x.2) (l.map fun x => PyData.tuple (x.1.map keyD))
  | [], B, g, _ => ⟨B, Up.refl, g, .nil⟩
  | x :: l, B, g, h => by
    obtain ⟨B1, u1, g1, d1⟩ := absorb1 g (h x (List.mem_cons_self ..)) (dpa_key x.1)
    obtain ⟨B2, u2, g2, d2⟩ := absorb (l := l) g1 fun y hy => h y (List.mem_cons_of_mem _ hy)
    exact ⟨B2, u1.trans u2, g2, .cons (dp_up u2.s _ _ d1) d2⟩
theorem dpks_keys {κ' : Type} {kvs : List (κ' × PyData)} {ws : List (κ' × V)} (h : DpKs K B kvs ws) : ws.map (·.1) = kvs.map (·.1) := by
  unfold DpKs at h
  induction h with
  | nil => rfl
  | cons h _ ih => rw [List.map_cons, List.map_cons, ih, h.1]
theorem dpa_ints' : ∀ ns : List Int, DpAll K B (ns.map V.int) (ns.map .int)
  | [] => .nil
  | n :: ns => .cons (.int n) (dpa_ints' ns)
theorem dpa_ints_eq : ∀ {ns : List Int} {vs : List V}, DpAll K B vs (ns.map .int) → vs = ns.map V.int
  | [], _, h => by cases h; rfl
  | n :: ns, _, h => by
    cases h with
    | cons h1 h2 => cases h1; rw [dpa_ints_eq h2]; rfl
theorem dpa_strs_eq : ∀ {ys : List Str} {vs : List V}, DpAll K B vs (ys.map .str) → vs = ys.map V.str
  | [], _, h => by cases h; rfl
  | n :: ns, _, h => by
    cases h with
    | cons h1 h2 => cases h1; rw [dpa_strs_eq h2]; rfl
/-- what sorted makes of a list of data -/
def SortD (ds : List PyData) (R : PyData → Prop) : Prop :=
  (∃ ns : List Int, ds = ns.map .int ∧ ns.length < 64 ∧ ∀ ns' : List Int, ns'.Perm ns → ns'.Pairwise (· ≤ ·) → R (.list (ns'.map .int))) ∨
  ∃ xs : List Str, ds = xs.map .str ∧ xs.length < 64 ∧ ∀ ys : List Str, ys.Perm xs → sortedS ys = true → R (.list (ys.map .str))
/-- sorted(..): numbers, texts, a dict with tuple keys -/
def aSort : List AV → AK → AR → Prop := fun as κ R => match as with
  | [.d (.list ds)] => SortD ds fun x => R (.d x) κ
  | [.c k] => match κ[k]? with
    | some (.ld ds) => SortD ds fun x => R (.d x) κ
    | some (.dT kvs) => ∃ shape, (∀ kv ∈ kvs, okSh shape 0 kv.1 ∧ kv.1 ≠ []) ∧ ∀ ys : List (List L2.Key), ys.Perm (kvs.map (·.1)) → SrtKs ys → R (.d (.list (ys.map fun k => .tuple (k.map keyD)))) κ
    | _ => False
  | _ => False
def rSort3 (K : PySem.W.Frag) : List V → Hp → VK → Prop := fun xs H Q => (rSorted K xs H Q ∨ rSortedS K xs H Q) ∨ rSortDT xs H Q
theorem sortD_ok {Q : VK} {R : AR} {ds : List PyData} {vs : List V} {p : Addr} (g : G K B ρ κ H) (s1 : SqL K H p vs) (d1 : DpAll K B vs ds) (h : SortD ds fun x => R (.d x) κ) (q : Nx K B ρ H R Q) : rSorted K [.ref p] H Q ∨ rSortedS K [.ref p] H Q := by
  rcases h with ⟨ns, rfl, hl, h⟩ | ⟨xs, rfl, hl, h⟩
  · have := dpa_ints_eq d1
    subst this
    refine .inl ⟨p, ns, rfl, s1, hl, fun ns' p' hp hs hn => ?_⟩
    obtain ⟨u, g2, r⟩ := new_lst g hn (dpa_ints' (K := K) (B := B) ns')
    exact q _ _ _ _ _ _ u g2 r (h ns' hp hs)
  · have := dpa_strs_eq d1
    subst this
    refine .inr ⟨p, xs, rfl, s1, hl, fun ys p' hp hs hn => ?_⟩
    obtain ⟨u, g2, r⟩ := new_lst g hn (dpa_strs_of (K := K) (B := B) ys)
    exact q _ _ _ _ _ _ u g2 r (h ys hp hs)
theorem ca_sort (hc : X.calm = true) (hK : X.K = K := by rfl) : CallA K X (.builtin "sorted") (rSort3 K) aSort := by
  obtain ⟨K, Kn, KZ, Ku⟩ := K
  change X.K = K at hK
  subst hK
  refine ⟨callr_or (callr_or cr_sorted cr_sortedS) (cr_sortedDT hc), fun B ρ κ H xs as R Q g rs h q => ?_⟩
  unfold aSort at h
  split at h
  · obtain ⟨x, rfl, r⟩ := reps1 rs
    obtain ⟨p, vs, rfl, s1, d1⟩ := of_listG g r
    exact .inl (sortD_ok g s1 d1 h q)
  · rename_i k
    obtain ⟨x, rfl, r⟩ := reps1 rs
    obtain ⟨p, hp, rfl⟩ := r
    split at h
    · rename_i ds ek
      obtain ⟨p', hp', _, vs, r, eH⟩ := g.cell ek
      rw [hp] at hp'; cases hp'
      exact .inl (sortD_ok g (.inl (.inl eH)) r h q)
    · rename_i kvs ek
      obtain ⟨shape, hsh, h⟩ := h
      obtain ⟨p', hp', _, ws, r, eH⟩ := g.cell ek
      rw [hp] at hp'; cases hp'
      have hk := dpks_keys r
      refine .inr ⟨p, ws, shape, rfl, .inl eH, fun kv hkv => ?_, fun l p2 h1 h2 h3 hn => ?_⟩
      · have hm : kv.1 ∈ kvs.map (·.1) := by rw [← hk]; exact List.mem_map.mpr ⟨kv, hkv, rfl⟩
        obtain ⟨kv', h1, h2⟩ := List.mem_map.mp hm
        rw [← h2]; exact hsh kv' h1
      · obtain ⟨B1, u1, g1, d1⟩ := absorb g h3
        obtain ⟨u2, g2, r2⟩ := new_lst g1 hn d1
        refine q _ _ _ _ _ _ (u1.trans u2) g2 r2 ?_
        have := h (l.map (·.1)) (h1.trans (by rw [hk])) h2
        rw [List.map_map] at this
        exact this
    · exact h.elim
  · exact h.elim
end
end Ab
set_option Elab.async false
set_option linter.all false
set_option maxRecDepth 100000
set_option maxHeartbeats 4000000
/-! Ab15: dicts whose keys are tuples: {}, in, d[k], d[k] = v; a tuple that is always a cell; lists of cells -/
namespace Ab
open PySem L2
variable {K : Frg} {B B' B2 H H' H2 : Hp} {ρ ρ' ρ2 : List Addr} {κ κ' : AK} {δ : AD} {σ : L2.St} {p : Addr} {k : Nat} {v x y z : V} {a b c : AV}
variable {X : Cx} {e e2 : Expr} {t u : TE} {f f2 : AE} {pos : Pos}
section
variable {ι : Type} [DecidableEq ι]
def valT (kvs : List (ι × PyData)) (k : ι) : Option PyData := (kvs.find? fun kv => decide (kv.1 = k)).map (·.2)
def putT (kvs : List (ι × PyData)) (k : ι) (v : PyData) : List (ι × PyData) :=
  if (kvs.any fun kv => decide (kv.1 = k)) = true then kvs.map (fun kv => if kv.1 = k then (kv.1, v) else kv) else kvs ++ [(k, v)]
theorem valT_pos {k k' : ι} {d : PyData} {r : List (ι × PyData)} (h : k' = k) : valT ((k', d) :: r) k = some d := by simp [valT, List.find?_cons, h]
theorem valT_neg {k k' : ι} {d : PyData} {r : List (ι × PyData)} (h : k' ≠ k) : valT ((k', d) :: r) k = valT r k := by simp [valT, List.find?_cons, h]
theorem dpkt_val {kvs : List (ι × PyData)} {ws : List (ι × V)} {k : ι} {d : PyData} (h : DpKs K B kvs ws) : valT kvs k = some d → ∃ v, valV ws k = some v ∧ Dp K B v d := by
  unfold DpKs at h
  induction h with
  | nil => intro e; cases e
  | @cons p q ps qs h1 h2 ih =>
    obtain ⟨k1, d1⟩ := p
    obtain ⟨k2, v2⟩ := q
    obtain ⟨e, r⟩ := h1
    have e : k1 = k2 := e
    subst e
    intro hd
    by_cases hk : k1 = k
    · rw [valT_pos hk] at hd
      cases hd
      exact ⟨v2, valV_pos hk, r⟩
    · rw [valT_neg hk] at hd
      obtain ⟨v, h3, h4⟩ := ih hd
      exact ⟨v, by rw [valV_neg (p := (k1, v2)) hk]; exact h3, h4⟩
theorem dpkt_any {kvs : List (ι × PyData)} {ws : List (ι × V)} {k : ι} (h : DpKs K B kvs ws) : (kvs.any fun kv => decide (kv.1 = k)) = ws.any fun kv => decide (kv.1 = k) := by
  unfold DpKs at h
  induction h with
  | nil => rfl
  | @cons p q ps qs h1 h2 ih => rw [List.any_cons, List.any_cons, ih, h1.1]
theorem dpkt_app {kvs kvs2 : List (ι × PyData)} {ws ws2 : List (ι × V)} (h : DpKs K B kvs ws) (h2 : DpKs K B kvs2 ws2) : DpKs K B (kvs ++ kvs2) (ws ++ ws2) := by
  unfold DpKs at h
  induction h with
  | nil => exact h2
  | cons h1 _ ih => exact .cons h1 ih
theorem dpkt_put {kvs : List (ι × PyData)} {ws : List (ι × V)} {k : ι} {d : PyData} (h : DpKs K B kvs ws) (r : Dp K B v d) : DpKs K B (putT kvs k d) (L2.putK ws k v) := by
  unfold putT L2.putK
  rw [dpkt_any h]
  split
  · unfold DpKs at h
    induction h with
    | nil => exact .nil
    | @cons p q ps qs h1 h2 ih =>
      rw [List.map_cons, List.map_cons]
      refine .cons ?_ ?_
      · rw [h1.1]
        by_cases hk : q.1 = k
        · rw [if_pos hk, if_pos hk]; exact ⟨rfl, r⟩
        · rw [if_neg hk, if_neg hk]; exact h1
      · rename_i hany
        by_cases ha : (qs.any fun kv => decide (kv.1 = k)) = true
        · exact ih ha
        · have none : ∀ q ∈ qs, q.1 ≠ k := fun q hq e => ha (List.any_eq_true.mpr ⟨q, hq, decide_eq_true e⟩)
          have : ∀ {ps : List (ι × PyData)} {qs : List (ι × V)}, Paired (fun (p : ι × PyData) (q : ι × V) => p.1 = q.1 ∧ Dp K B q.2 p.2) ps qs → (∀ q ∈ qs, q.1 ≠ k) →
              Paired (fun (p : ι × PyData) (q : ι × V) => p.1 = q.1 ∧ Dp K B q.2 p.2) (ps.map fun kv => if kv.1 = k then (kv.1, d) else kv) (qs.map fun kv => if kv.1 = k then (kv.1, v) else kv) := by
            intro ps qs hp
            induction hp with
            | nil => intro _; exact .nil
            | @cons p q ps qs h1 h2 ih =>
              intro hn
              have hq := hn q (List.mem_cons_self ..)
              rw [List.map_cons, List.map_cons, h1.1, if_neg hq, if_neg hq]
              exact .cons h1 (ih fun z hz => hn z (List.mem_cons_of_mem _ hz))
          exact this h2 none
  · exact dpkt_app h (.cons ⟨rfl, r⟩ .nil)
theorem dpkt_isSome {kvs : List (ι × PyData)} {ws : List (ι × V)} {k : ι} (h : DpKs K B kvs ws) : (valV ws k).isSome = (valT kvs k).isSome := by
  have h1 := dpkt_any (k := k) h
  rw [valV_any] at h1
  rw [← h1]
  unfold valT
  rw [Option.isSome_map, Bool.eq_iff_iff, List.any_eq_true, List.find?_isSome]
end
/-! ### keys -/
theorem dpa_key_eq : ∀ {k : List L2.Key} {vs : List V}, DpAll K B vs (k.map keyD) → vs = k.map kV
  | [], _, h => by cases h; rfl
  | .inl i :: k, _, h => by
    cases h with
    | cons h1 h2 => cases h1; rw [dpa_key_eq h2]; rfl
  | .inr s :: k, _, h => by
    cases h with
    | cons h1 h2 => cases h1; rw [dpa_key_eq h2]; rfl
/-- a key tuple: a cell; data or a cell -/
def KyC (κ : AK) (b : AV) (key : List L2.Key) : Prop := ∃ j, b = .c j ∧ κ[j]? = some (.tup ((key.map keyD).map .d))
def Ky (κ : AK) (b : AV) (key : List L2.Key) : Prop := b = .d (.tuple (key.map keyD)) ∨ KyC κ b key
theorem kyC_at (g : G K B ρ κ H) {key : List L2.Key} (h : KyC κ b key) (r : Rep K B ρ b y) : ∃ q, y = .ref q ∧ H q = some (.tup (key.map kV)) := by
  obtain ⟨j, rfl, ek⟩ := h
  obtain ⟨q, hq, rfl⟩ := r
  obtain ⟨q', hq', vs, r', eH⟩ := g.cell ek
  rw [hq] at hq'; cases hq'
  have := dpa_key_eq (Reps.of_all r')
  subst this
  exact ⟨q, rfl, eH⟩
theorem ky_at (g : G K B ρ κ H) {key : List L2.Key} (h : Ky κ b key) (r : Rep K B ρ b y) : ∃ q, y = .ref q ∧ SqT K H q (key.map kV) := by
  rcases h with rfl | h
  · obtain ⟨q, xs, rfl, s1, d1⟩ := of_tupG g r
    have := dpa_key_eq d1
    subst this
    exact ⟨q, rfl, s1⟩
  · obtain ⟨q, e, eH⟩ := kyC_at g h r
    exact ⟨q, e, .inl (.inl eH)⟩
theorem G.dtAt (g : G K B ρ κ H) {xs : List (List L2.Key × PyData)} (hp : ρ[k]? = some p) (ek : κ[k]? = some (.dT xs)) : ∃ vs, DpKs K B xs vs ∧ H p = some (.dT vs) ∧
    ∀ xs' vs', DpKs K B xs' vs' → Up B ρ H B ρ (upd H p (.dT vs')) ∧ G K B ρ (κ.set k (.dT xs')) (upd H p (.dT vs')) := by
  obtain ⟨p', hp', hb, vs, r, eH⟩ := g.cell ek
  rw [hp] at hp'; cases hp'
  refine ⟨vs, r, eH, fun xs' vs' r' => ⟨G.writeUp hp, ?_⟩⟩
  have hc : CellOk K B ρ (upd H p (.dT vs')) p (.dT xs') := ⟨hb, vs', r', upd_same⟩
  exact g.write hp hb hc
/-! ### d[k] of a key tuple that stands anywhere -/
section
variable {pins : List (Addr × Obj)} {s : Shared} {A : Around} {E : Value → Shared → Prop} {q w : Value}
theorem key_ofS {pins : List (Addr × Obj)} {s : Shared} {ks : List L2.Key} {q : Addr} (I : Inv X pins σ H s) (h : SqT X.K H q (ks.map kV)) : (tupleKind (mixKind X.prog X.w)).is s.heap ks q := by
  obtain ⟨its, r, ⟨o, h1, h2, n, h3⟩, _⟩ := I.tuple h
  exact ⟨o, its.toArray, n, h1, h2, h3, by simpa using items_are r⟩
def tTGet (K : PySem.W.Frag) (td ty : TE) : TE := fun σ H Q => td σ H fun x H1 => ty σ H1 fun y H2 => ∃ a q v kvs key, x = .ref a ∧ y = .ref q ∧ Rd H2 a (.dT kvs) ∧ SqT K H2 q (key.map kV) ∧ valV kvs key = some v ∧ Q v H2
theorem pe_tget {o i : Expr} {td ty : TE} (hu : X.A.units + 1 < cLine) (ho : PE X o td) (hi : PE X i ty) (hs : NoSl i) : PE X (.Subscript o i pos) (tTGet X.K td ty) := by
  refine ⟨fun pins s σ H Q I h => ?_⟩
  refine subD_of PySem.F.slot_dict_getitem.lookup hs (thn (ho.run pins s σ H _ I h) fun u s1 ⟨x, H1, I1, rx, q1⟩ => thn (hi.run pins s1 σ H1 _ I1 q1) fun iv s2 ⟨y, H2, I2, ry, a, b, v, kvs, key, ex, ey, e, hk, l, q2⟩ => ?_)
  subst ex
  subst ey
  obtain rfl : u = Value.ref a := rx
  obtain rfl : iv = Value.ref b := ry
  obtain ⟨z, hd, xs, rel, dd⟩ := dt_rd I2.hok e
  refine ⟨dd.typeIs, ?_⟩
  obtain ⟨w', hw, rw'⟩ := RelO.some_of (v := v) (o := (atKey xs key).map (·.2)) (by rw [← l]; exact rel.val key)
  obtain ⟨p, hp, hp2⟩ := Option.map_eq_some_iff.mp hw
  refine wpAny_getItem_heap (tupleKind_room_in1 hu) (key_ofS I2 hk) dd hp ?_
  rw [hp2]
  exact ⟨v, H2, I2.tok _, rw', q2⟩
end
def aTGet (f f2 : AE) : AE := fun δ κ R => f δ κ fun a κ1 => f2 δ κ1 fun b κ2 => match a with
  | .c k => ∃ kvs key d, κ2[k]? = some (.dT kvs) ∧ Ky κ2 b key ∧ valT kvs key = some d ∧ R (.d d) κ2
  | _ => False
theorem ea_tget {l : Nat} (hr : Room l X.A) (h1 : PEa K X e t f) (h2 : PEa K X e2 u f2) (hs : NoSl e2 := by exact fun _ _ => rfl) (hK : X.K = K := by rfl) : PEa K X (.Subscript e e2 pos) (tTGet K t u) (aTGet f f2) := by
  obtain ⟨K, Kn, KZ, Ku⟩ := K
  change X.K = K at hK
  subst hK
  exact ⟨pe_tget (Nat.lt_of_le_of_lt (by omega) hr.units) h1.pe h2.pe hs, fun B ρ δ κ σ H R Q s g hh q => h1.sd B ρ δ κ σ H _ _ s g hh fun B1 ρ1 κ1 H1 a x u1 g1 r1 k1 => h2.sd _ _ _ _ _ _ _ _ (s.up u1.g) g1 k1 fun B2 ρ2 κ2 H2 b y u2 g2 r2 k2 => by
    split at k2
    · obtain ⟨kvs, key, d, ek, hk, hv, k2⟩ := k2
      obtain ⟨p, hp, rfl⟩ := r1.up u2.g
      obtain ⟨vs, r, eH, _⟩ := g2.dtAt hp ek
      obtain ⟨v, hv', rv⟩ := dpkt_val r hv
      obtain ⟨qa, rfl, sq⟩ := ky_at g2 hk r2
      exact ⟨p, qa, v, vs, key, rfl, rfl, .inl eH, sq, hv', q _ _ _ _ (.d d) _ (u1.trans u2) g2 rv k2⟩
    · exact k2.elim⟩
/-- d[k] = v -/
def aTPut (fo fi fv : AE) : AS := fun A δ κ => fv δ κ fun v κ1 => fo δ κ1 fun a κ2 => fi δ κ2 fun b κ3 => match a with
  | .c k => ∃ kvs key d, κ3[k]? = some (.dT kvs) ∧ KyC κ3 b key ∧ v = .d d ∧ kvs.length < sizeLine ∧ A.nx δ (κ3.set k (.dT (putT kvs key d)))
  | _ => False
variable {o i val : Expr} {to' ti tv : TE} {fo fi fv : AE} {pos' : Pos}
theorem sa_tput {l : Nat} (hr : Room l X.A) (ho : PEa K X o to' fo) (hi : PEa K X i ti fi) (hv : PEa K X val tv fv) (hs : swapsWith val (some (.Subscript o i pos')) pos.line X.env = pure false := by rfl) :
    PSa K X (.Assign [.Subscript o i pos'] val pos) (sDPut to' ti tv) (aTPut fo fi fv) :=
  ⟨ps_dput (Nat.lt_of_le_of_lt (by omega) hr.units) ho.pe hi.pe hv.pe hs, fun B ρ δ κ σ H A D s g l hh im => hv.sd B ρ δ κ σ H _ _ s g hh fun B1 ρ1 κ1 H1 vv xv u1 g1 r1 k1 => ho.sd _ _ _ _ _ _ _ _ (s.up u1.g) g1 k1 fun B2 ρ2 κ2 H2 a xo u2 g2 r2 k2 => hi.sd _ _ _ _ _ _ _ _ (s.up (u1.trans u2).g) g2 k2 fun B3 ρ3 κ3 H3 b y u3 g3 r3 k3 => by
    split at k3
    · obtain ⟨kvs, key, d, ek, hk, rfl, hl, k3⟩ := k3
      obtain ⟨p, hp, rfl⟩ := r2.up u3.g
      obtain ⟨vs, r, eH, wr⟩ := g3.dtAt hp ek
      obtain ⟨qa, rfl, eb⟩ := kyC_at g3 hk r3
      have rd : Dp K B3 xv d := dp_up (u2.trans u3).s _ _ r1
      obtain ⟨u4, g4⟩ := wr _ _ (dpkt_put (k := key) r rd)
      have w := ((u1.trans u2).trans u3).trans u4
      refine ⟨p, _, rfl, DPut.t eH eb (by rw [← Paired.length r]; exact hl), im.nx _ _ _ _ _ _ w.n g4 (s.up w.g) (Nat.le_trans l (w.len g g4)) k3⟩
    · exact k3.elim⟩
/-- k in d, k not in d: the key a cell -/
def aTIn (n : Bool → Bool) (fi fo : AE) : AE := fun δ κ R => fi δ κ fun b κ1 => fo δ κ1 fun a κ2 => match a with
  | .c k => ∃ kvs key, κ2[k]? = some (.dT kvs) ∧ KyC κ2 b key ∧ R (.d (.bool (n (valT kvs key).isSome))) κ2
  | _ => False
theorem se_tin {n : Bool → Bool} (hi : SE K ti fi) (ho : SE K to' fo) : SE K (fun σ H Q => ti σ H fun y H1 => to' σ H1 fun x H2 => ∃ a o, x = .ref a ∧ DGet H2 a y o ∧ Q (.bl (n o.isSome)) H2) (aTIn n fi fo) := fun B ρ δ κ σ H R Q s g hh q =>
  hi _ _ _ _ _ _ _ _ s g hh fun B1 ρ1 κ1 H1 b y u1 g1 r1 h1 => ho _ _ _ _ _ _ _ _ (s.up u1.g) g1 h1 fun B2 ρ2 κ2 H2 a x u2 g2 r2 h2 => by
    split at h2
    · obtain ⟨kvs, key, ek, hk, h2⟩ := h2
      obtain ⟨p, hp, rfl⟩ := r2
      obtain ⟨vs, r, eH, _⟩ := g2.dtAt hp ek
      obtain ⟨qa, rfl, eb⟩ := kyC_at g2 hk (r1.up u2.g)
      refine ⟨p, valV vs key, rfl, DGet.t eH eb, ?_⟩
      rw [dpkt_isSome r]
      exact q _ _ _ _ _ _ (u1.trans u2) g2 (rp_bl _) h2
    · exact h2.elim
theorem ea_tin {l : Nat} (hr : Room l X.A) (hi : PEa K X i ti fi) (ho : PEa K X o to' fo) (hm : behindInMarks .In o = false := by first | exact nomark _ | rfl) : PEa K X (.Compare i [.In] [o] pos) (tDIn ti to') (aTIn id fi fo) := ⟨pe_cmp (pc_din (Nat.lt_of_le_of_lt (by omega) hr.units) hi.pe ho.pe) hm, se_tin (n := id) hi.sd ho.sd⟩
theorem ea_tnotin {l : Nat} (hr : Room l X.A) (hi : PEa K X i ti fi) (ho : PEa K X o to' fo) (hm : behindInMarks .NotIn o = false := by first | exact nomark _ | rfl) : PEa K X (.Compare i [.NotIn] [o] pos) (tDNotIn ti to') (aTIn not fi fo) := ⟨pe_cmp (pc_dnotin (Nat.lt_of_le_of_lt (by omega) hr.units) hi.pe ho.pe) hm, se_tin (n := not) hi.sd ho.sd⟩
theorem ta_tin {l : Nat} (hr : Room l X.A) (hi : PEa K X i ti fi) (ho : PEa K X o to' fo) (hm : behindInMarks .In o = false := by first | exact nomark _ | rfl) : PTa K X (.Compare i [.In] [o] pos) (tTest (tDIn ti to')) (aB (aTIn id fi fo)) := ⟨pt_cmp (pc_din (Nat.lt_of_le_of_lt (by omega) hr.units) hi.pe ho.pe) hm, st_B (se_tin (n := id) hi.sd ho.sd)⟩
theorem ta_tnotin {l : Nat} (hr : Room l X.A) (hi : PEa K X i ti fi) (ho : PEa K X o to' fo) (hm : behindInMarks .NotIn o = false := by first | exact nomark _ | rfl) : PTa K X (.Compare i [.NotIn] [o] pos) (tTest (tDNotIn ti to')) (aB (aTIn not fi fo)) := ⟨pt_cmp (pc_dnotin (Nat.lt_of_le_of_lt (by omega) hr.units) hi.pe ho.pe) hm, st_B (se_tin (n := not) hi.sd ho.sd)⟩
/-- {}: one whose keys will be tuples -/
def aTNew : AE := fun _ κ R => R (.c κ.length) (κ ++ [.dT []])
theorem ea_tnew : PEa K X (.Dict [] [] pos) tDNewT aTNew := ⟨pe_dnewT, fun B ρ δ κ σ H R Q s g h q => by
  intro p hp
  refine q _ _ _ _ _ _ (g.allocUp hp) (g.alloc hp (show CellOk K B ρ _ p (.dT []) from ⟨g.fresh hp, [], .nil, upd_same⟩)) (rep_new g) h⟩
/-- a tuple that is a cell in any case -/
def aTupC (g : AA) : AE := fun δ κ R => g δ κ fun as κ1 => as.length ≤ sizeLine ∧ R (.c κ1.length) (κ1 ++ [.tup as])
theorem ea_tupC {es : List Expr} {ta : TA} {fa : AA} {x1} (h : PAa K X es ta fa) : PEa K X (.Tuple es x1 pos) (tTup ta) (aTupC fa) := by
  refine ⟨pe_tup h.pa, fun B ρ δ κ σ H R Q s g hh q => h.sd B ρ δ κ σ H _ _ s g hh fun B1 ρ1 κ1 H1 as xs u1 g1 r1 h1 => ?_⟩
  refine ⟨by rw [← r1.len]; exact h1.1, fun p hp => ?_⟩
  obtain ⟨u2, g2, r2⟩ := new_tcell g1 hp r1
  exact q _ _ _ _ _ _ (u1.trans u2) g2 r2 h1.2
end Ab
set_option Elab.async false
set_option linter.all false
set_option maxRecDepth 100000
set_option maxHeartbeats 4000000
/-! Ab16: comprehensions that give cells; lists of cells walked -/
namespace Ab
open PySem L2
variable {K : Frg} {B B' B2 H H' H2 : Hp} {ρ ρ' ρ2 : List Addr} {κ κ' : AK} {δ : AD} {σ : L2.St} {p : Addr} {k : Nat} {v x y z : V} {a b c : AV}
variable {X : Cx} {e e2 : Expr} {t u : TE} {f f2 : AE} {pos : Pos}
/-- [elt for target in iter if ..]: a list that is a cell, of any things -/
def LcCd (J : AIt) (ag : AG) (p : AT) (f : AE) (vs : List Nat) (δ : AD) (κ1 : AK) (R : AR) : Prop := ∃ W : Nat → Nat → List AV → AK → Prop, (∃ m, W 0 m [] κ1) ∧ ∀ i m acc κ', W i m acc κ' →
  (J.stop i κ' ∧ R (.c κ'.length) (κ' ++ [.lst acc])) ∨ (J.go i κ' ∧ ∃ N : List AV → AK → Prop, (∀ acc2 κ2, N acc2 κ2 → ∃ m', m' < m ∧ W (i + 1) m' acc2 κ2) ∧ ∀ a, J.yld i κ' a → ag a (wipeA δ vs) κ' fun δ2 κ2 => p δ2 κ2 fun b κ3 =>
    bsel b (f δ2 κ3 fun y κ4 => acc.length < sizeLine ∧ N (acc ++ [y]) κ4) (N acc κ3))
@[irreducible] def LcC (J : AIt) (ag : AG) (p : AT) (f : AE) (vs : List Nat) (δ : AD) (κ1 : AK) (R : AR) : Prop := LcCd J ag p f vs δ κ1 R
theorem lcC {J : AIt} {ag : AG} {p : AT} {f : AE} {vs : List Nat} {δ : AD} {κ1 : AK} {R : AR} : LcC J ag p f vs δ κ1 R ↔ LcCd J ag p f vs δ κ1 R := by
  unfold LcC; exact Iff.rfl
def aLcC (ai : AI) (ag : AG) (p : AT) (f : AE) (vs : List Nat) : AE := fun δ κ R => ai δ κ fun J κ1 => LcC J ag p f vs δ κ1 R
theorem se_lcC {wi : TI} {ai : AI} {tg : TG} {ag : AG} {tt : TT} {pt : AT} {vs : List Nat} (hi : SI K wi ai) (hg : SGw K tg ag vs) (ht : ST K tt pt) (he : SE K t f) : SE K (tLc wi tg tt t vs) (aLcC ai ag pt f vs) := fun B ρ δ κ σ H R Q s g hh q =>
  hi B ρ δ κ σ H _ _ s g hh fun B1 ρ1 κ1 H1 J Ja w1 g1 ri hlc => by
    obtain ⟨W, ⟨m0, w0⟩, turn⟩ := lcC.mp hlc
    intro D hD
    have q1 := q.later w1
    refine ⟨fun i m H' => ∃ B' ρ' κ' accV acc, Up B1 ρ1 H1 B' ρ' H' ∧ G K B' ρ' κ' H' ∧ H' D = some (.lst accV) ∧ B' D = none ∧ D ∉ ρ' ∧ Reps K B' ρ' acc accV ∧ W i m acc κ', ⟨m0, B1, ρ1, κ1, [], [], Up.refl.off hD, g1.off (g1.fresh hD) (fun z => ?_) (K.up _ _ _ _ _ _ (Up.refl.off hD).n g1.z), upd_same, g1.fresh hD, fun z => ?_, .nil, w0⟩, ?_⟩
    · obtain ⟨i, hi⟩ := List.mem_iff_getElem?.mp z
      exact g1.nin hD hi rfl
    · obtain ⟨i, hi⟩ := List.mem_iff_getElem?.mp z
      exact g1.nin hD hi rfl
    rintro i m H2 ⟨B2, ρ2, κ2, accV, acc, w2, g2, eD, bD, rD, da, hw⟩
    have r := ri B2 ρ2 κ2 H2 w2 g2 i
    rcases turn i m acc κ2 hw with ⟨h1, h2⟩ | ⟨h1, N, hN, h2⟩
    · refine .inl ⟨r.1 h1, ?_⟩
      have g3 : G K B2 (ρ2 ++ [D]) (κ2 ++ [.lst acc]) H2 := by
        have hc : CellOk K B2 ρ2 H2 D (.lst acc) := ⟨bD, _, da, eD⟩
        refine ⟨g2.ex, by rw [List.length_append, List.length_append, g2.len] <;> rfl, fun i j r h1 h2 => ?_, fun i r c h1 h2 => ?_, K.up _ _ _ _ _ _ (w2.newR hD).n g1.z⟩
        · rcases get_snoc h1 with ⟨l1, e1⟩ | ⟨l1, e1⟩
          · rcases get_snoc h2 with ⟨l2, e2⟩ | ⟨l2, e2⟩
            · exact g2.inj i j r e1 e2
            · subst e2; exact absurd (mem_of_get e1) rD
          · rcases get_snoc h2 with ⟨l2, e2⟩ | ⟨l2, e2⟩
            · subst e1; exact absurd (mem_of_get e2) rD
            · rw [l1, l2]
        · rcases get_snoc h1 with ⟨l1, e1⟩ | ⟨l1, e1⟩
          · rw [List.getElem?_append_left (g2.len ▸ l1)] at h2
            exact (g2.at' i r c e1 h2).up up_snoc Or.inl fun o' e => e
          · subst e1
            rcases get_snoc h2 with ⟨l2, e2⟩ | ⟨l2, e2⟩
            · rw [l1, g2.len] at l2; exact absurd l2 (Nat.lt_irrefl _)
            · subst e2; exact hc.up up_snoc Or.inl fun _ e => e
      refine q1 B2 (ρ2 ++ [D]) _ H2 _ _ ⟨w2.s, fun i a h => get_app (w2.p i a h), fun p o z1 z2 z3 => ?_⟩ g3 (rep_new g2) h2
      obtain ⟨y1, y2, y3⟩ := w2.f p o z1 z2 z3
      refine ⟨y1, y2, fun z => ?_⟩
      rcases List.mem_append.mp z with z | z
      · exact y3 z
      · exact ne_of_none z1 hD (by simpa using z)
    · obtain ⟨hgo, hy⟩ := r.2 h1
      -- a turn's end
      refine .inr ⟨hgo, fun H' => ∃ B' ρ' κ' accV acc, Up B1 ρ1 H1 B' ρ' H' ∧ G K B' ρ' κ' H' ∧ H' D = some (.lst accV) ∧ B' D = none ∧ D ∉ ρ' ∧ Reps K B' ρ' acc accV ∧ N acc κ', ?_, fun x H3 hx => ?_⟩
      · rintro H' ⟨B', ρ', κ', accV', acc', z1, z2, z3, z4, z5, z6, hn⟩
        obtain ⟨m', hm, hw'⟩ := hN _ _ hn
        exact ⟨m', hm, B', ρ', κ', accV', acc', z1, z2, z3, z4, z5, z6, hw'⟩
      · obtain ⟨B3, a, w3, g3, ra, ya⟩ := hy x H3 hx
        have sw : S K B3 ρ2 (wipeA δ vs) (L2.wipe σ vs) := (s.up ((w1.trans w2).trans w3).g).wipe vs
        refine hg _ _ _ _ _ _ _ _ _ _ sw g3 ra (h2 a ya) fun B4 ρ4 δ4 κ4 σ4 H4 w4 s4 g4 h4 e4 => ⟨by rw [e4, wipe_wipe], ?_⟩
        refine ht _ _ _ _ _ _ _ _ s4 g4 h4 fun B5 ρ5 κ5 H5 b w5 g5 h5 => ?_
        have w25 := (w3.trans w4).trans w5
        obtain ⟨e5, b5, r5⟩ := w25.f D _ eD (.inl bD) rD
        have b5 : B5 D = none := b5.elim id fun ⟨ws, z⟩ => by cases z
        cases b with
        | false =>
          refine iteF ⟨B5, ρ5, κ5, accV, acc, w2.trans w25, g5, e5, b5, r5, Reps.up w25.g da, h5⟩
        | true =>
          refine iteT (he _ _ _ _ _ _ _ _ (s4.up w5.g) g5 h5 fun B6 ρ6 κ6 H6 a6 v6 w6 g6 r6 h6 => ?_)
          obtain ⟨hl, hn⟩ := h6
          obtain ⟨e6, b6, r6'⟩ := w6.f D _ e5 (.inl b5) r5
          have b6 : B6 D = none := b6.elim id fun ⟨ws, z⟩ => by cases z
          have w26 := w25.trans w6
          have da6 := Reps.up w26.g da
          refine ⟨accV, e6, by rw [← da6.len]; exact hl, B6, ρ6, κ6, accV ++ [v6], acc ++ [a6], (w2.trans w26).off hD, g6.off b6 r6' (K.up _ _ _ _ _ _ ((w2.trans w26).off hD).n g1.z), upd_same, b6, r6', Paired.snoc da6 r6, hn⟩
section
variable {elt tge iter : Expr} {ifs : List Expr} {scope : Scope} {own : List (Str × Nat)} {wi : TI} {ai : AI} {tg : TG} {ag : AG} {tt : TT} {pt : AT} {te : TE} {fe : AE}
theorem ea_lcC (hc : X.calm = true) (hN : X.N.Nodup) (hi : PIa K X tge iter wi ai) (ok : BlkOk X.N X.env.scope scope own)
    (hg : ∀ (s : Shared) (H : Hp) (C : Addr) (cl : List (Str × Addr)) (fp : List Addr), PG (X.blk s H scope (compEnvC scope cl C X.env) fp) tge tg) (hgw : SGw K tg ag (own.map (·.2)))
    (ht : ∀ (s : Shared) (H : Hp) (C : Addr) (cl : List (Str × Addr)) (fp : List Addr), PTsa K (X.blk s H scope (compEnvC scope cl C X.env) fp) ifs tt pt)
    (he : ∀ (s : Shared) (H : Hp) (C : Addr) (cl : List (Str × Addr)) (fp : List Addr), PEa K (X.blk s H scope (compEnvC scope cl C X.env) fp) elt te fe) (hs : ∀ x, foldedSetIterable iter X.env x = pure x := by intro _; rfl) :
    PEa K X (.ListComp elt [⟨tge, iter, ifs, 0⟩] scope pos) (tLc wi tg tt te (own.map (·.2))) (aLcC ai ag pt fe (own.map (·.2))) :=
  ⟨pe_lc hc hN hi.pi ok hg (fun s H C cl fp => (ht s H C cl fp).pt) (fun s H C cl fp => (he s H C cl fp).pe) hs, se_lcC hi.sd hgw (ht ({} : Shared) (fun _ => none) 0 [] []).sd (he ({} : Shared) (fun _ => none) 0 [] []).sd⟩
theorem sa_setLcC {i : Nat} {y : Str} {py spos : Pos} (hc : X.calm = true) (hN : X.N.Nodup) (hy : X.N[i]? = some y) (hyl : X.env.scope.names.lookup y = some .local)
    (hsw : swapsWith (.ListComp elt [⟨tge, iter, ifs, 0⟩] scope pos) (some (.Name y py)) spos.line X.env = pure true) (hi : PIa K X tge iter wi ai) (ok : BlkOk X.N X.env.scope scope own)
    (hg : ∀ (s : Shared) (H : Hp) (C : Addr) (cl : List (Str × Addr)) (fp : List Addr), PG (X.blk s H scope (compEnvC scope cl C X.env) fp) tge tg) (hgw : SGw K tg ag (own.map (·.2)))
    (ht : ∀ (s : Shared) (H : Hp) (C : Addr) (cl : List (Str × Addr)) (fp : List Addr), PTsa K (X.blk s H scope (compEnvC scope cl C X.env) fp) ifs tt pt)
    (he : ∀ (s : Shared) (H : Hp) (C : Addr) (cl : List (Str × Addr)) (fp : List Addr), PEa K (X.blk s H scope (compEnvC scope cl C X.env) fp) elt te fe) (hs : ∀ x, foldedSetIterable iter X.env x = pure x := by intro _; rfl) :
    PSa K X (.Assign [.Name y py] (.ListComp elt [⟨tge, iter, ifs, 0⟩] scope pos) spos) (tAsg (tLc wi tg tt te (own.map (·.2))) (gName i)) (aSet i (aLcC ai ag pt fe (own.map (·.2)))) :=
  ⟨ps_setLc hc hN hy hyl hsw hi.pi ok hg (fun s H C cl fp => (ht s H C cl fp).pt) (fun s H C cl fp => (he s H C cl fp).pe) hs, ss_asg (se_lcC hi.sd hgw (ht ({} : Shared) (fun _ => none) 0 [] []).sd (he ({} : Shared) (fun _ => none) 0 [] []).sd) sg_name⟩
end
/-- the same, its items data: a cell -/
def LcLd (J : AIt) (ag : AG) (p : AT) (f : AE) (vs : List Nat) (δ : AD) (κ1 : AK) (R : AR) : Prop := ∃ W : Nat → Nat → List PyData → AK → Prop, (∃ m, W 0 m [] κ1) ∧ ∀ i m acc κ', W i m acc κ' →
  (J.stop i κ' ∧ R (.c κ'.length) (κ' ++ [.ld acc])) ∨ (J.go i κ' ∧ ∃ N : List PyData → AK → Prop, (∀ acc2 κ2, N acc2 κ2 → ∃ m', m' < m ∧ W (i + 1) m' acc2 κ2) ∧ ∀ a, J.yld i κ' a → ag a (wipeA δ vs) κ' fun δ2 κ2 => p δ2 κ2 fun b κ3 =>
    bsel b (f δ2 κ3 fun y κ4 => ∃ d, y = .d d ∧ acc.length < sizeLine ∧ N (acc ++ [d]) κ4) (N acc κ3))
@[irreducible] def LcL (J : AIt) (ag : AG) (p : AT) (f : AE) (vs : List Nat) (δ : AD) (κ1 : AK) (R : AR) : Prop := LcLd J ag p f vs δ κ1 R
theorem lcL {J : AIt} {ag : AG} {p : AT} {f : AE} {vs : List Nat} {δ : AD} {κ1 : AK} {R : AR} : LcL J ag p f vs δ κ1 R ↔ LcLd J ag p f vs δ κ1 R := by
  unfold LcL; exact Iff.rfl
def aLcL (ai : AI) (ag : AG) (p : AT) (f : AE) (vs : List Nat) : AE := fun δ κ R => ai δ κ fun J κ1 => LcL J ag p f vs δ κ1 R
theorem se_lcL {wi : TI} {ai : AI} {tg : TG} {ag : AG} {tt : TT} {pt : AT} {vs : List Nat} (hi : SI K wi ai) (hg : SGw K tg ag vs) (ht : ST K tt pt) (he : SE K t f) : SE K (tLc wi tg tt t vs) (aLcL ai ag pt f vs) := fun B ρ δ κ σ H R Q s g hh q =>
  hi B ρ δ κ σ H _ _ s g hh fun B1 ρ1 κ1 H1 J Ja w1 g1 ri hlc => by
    obtain ⟨W, ⟨m0, w0⟩, turn⟩ := lcL.mp hlc
    intro D hD
    have q1 := q.later w1
    refine ⟨fun i m H' => ∃ B' ρ' κ' accV acc, Up B1 ρ1 H1 B' ρ' H' ∧ G K B' ρ' κ' H' ∧ H' D = some (.lst accV) ∧ B' D = none ∧ D ∉ ρ' ∧ DpAll K B' accV acc ∧ W i m acc κ', ⟨m0, B1, ρ1, κ1, [], [], Up.refl.off hD, g1.off (g1.fresh hD) (fun z => ?_) (K.up _ _ _ _ _ _ (Up.refl.off hD).n g1.z), upd_same, g1.fresh hD, fun z => ?_, .nil, w0⟩, ?_⟩
    · obtain ⟨i, hi⟩ := List.mem_iff_getElem?.mp z
      exact g1.nin hD hi rfl
    · obtain ⟨i, hi⟩ := List.mem_iff_getElem?.mp z
      exact g1.nin hD hi rfl
    rintro i m H2 ⟨B2, ρ2, κ2, accV, acc, w2, g2, eD, bD, rD, da, hw⟩
    have r := ri B2 ρ2 κ2 H2 w2 g2 i
    rcases turn i m acc κ2 hw with ⟨h1, h2⟩ | ⟨h1, N, hN, h2⟩
    · refine .inl ⟨r.1 h1, ?_⟩
      have g3 : G K B2 (ρ2 ++ [D]) (κ2 ++ [.ld acc]) H2 := by
        have hc : CellOk K B2 ρ2 H2 D (.ld acc) := ⟨bD, _, da, eD⟩
        refine ⟨g2.ex, by rw [List.length_append, List.length_append, g2.len] <;> rfl, fun i j r h1 h2 => ?_, fun i r c h1 h2 => ?_, K.up _ _ _ _ _ _ (w2.newR hD).n g1.z⟩
        · rcases get_snoc h1 with ⟨l1, e1⟩ | ⟨l1, e1⟩
          · rcases get_snoc h2 with ⟨l2, e2⟩ | ⟨l2, e2⟩
            · exact g2.inj i j r e1 e2
            · subst e2; exact absurd (mem_of_get e1) rD
          · rcases get_snoc h2 with ⟨l2, e2⟩ | ⟨l2, e2⟩
            · subst e1; exact absurd (mem_of_get e2) rD
            · rw [l1, l2]
        · rcases get_snoc h1 with ⟨l1, e1⟩ | ⟨l1, e1⟩
          · rw [List.getElem?_append_left (g2.len ▸ l1)] at h2
            exact (g2.at' i r c e1 h2).up up_snoc Or.inl fun o' e => e
          · subst e1
            rcases get_snoc h2 with ⟨l2, e2⟩ | ⟨l2, e2⟩
            · rw [l1, g2.len] at l2; exact absurd l2 (Nat.lt_irrefl _)
            · subst e2; exact hc.up up_snoc Or.inl fun _ e => e
      refine q1 B2 (ρ2 ++ [D]) _ H2 _ _ ⟨w2.s, fun i a h => get_app (w2.p i a h), fun p o z1 z2 z3 => ?_⟩ g3 (rep_new g2) h2
      obtain ⟨y1, y2, y3⟩ := w2.f p o z1 z2 z3
      refine ⟨y1, y2, fun z => ?_⟩
      rcases List.mem_append.mp z with z | z
      · exact y3 z
      · exact ne_of_none z1 hD (by simpa using z)
    · obtain ⟨hgo, hy⟩ := r.2 h1
      -- a turn's end
      refine .inr ⟨hgo, fun H' => ∃ B' ρ' κ' accV acc, Up B1 ρ1 H1 B' ρ' H' ∧ G K B' ρ' κ' H' ∧ H' D = some (.lst accV) ∧ B' D = none ∧ D ∉ ρ' ∧ DpAll K B' accV acc ∧ N acc κ', ?_, fun x H3 hx => ?_⟩
      · rintro H' ⟨B', ρ', κ', accV', acc', z1, z2, z3, z4, z5, z6, hn⟩
        obtain ⟨m', hm, hw'⟩ := hN _ _ hn
        exact ⟨m', hm, B', ρ', κ', accV', acc', z1, z2, z3, z4, z5, z6, hw'⟩
      · obtain ⟨B3, a, w3, g3, ra, ya⟩ := hy x H3 hx
        have sw : S K B3 ρ2 (wipeA δ vs) (L2.wipe σ vs) := (s.up ((w1.trans w2).trans w3).g).wipe vs
        refine hg _ _ _ _ _ _ _ _ _ _ sw g3 ra (h2 a ya) fun B4 ρ4 δ4 κ4 σ4 H4 w4 s4 g4 h4 e4 => ⟨by rw [e4, wipe_wipe], ?_⟩
        refine ht _ _ _ _ _ _ _ _ s4 g4 h4 fun B5 ρ5 κ5 H5 b w5 g5 h5 => ?_
        have w25 := (w3.trans w4).trans w5
        obtain ⟨e5, b5, r5⟩ := w25.f D _ eD (.inl bD) rD
        have b5 : B5 D = none := b5.elim id fun ⟨ws, z⟩ => by cases z
        cases b with
        | false =>
          refine iteF ⟨B5, ρ5, κ5, accV, acc, w2.trans w25, g5, e5, b5, r5, dpa_up w25.s _ _ da, h5⟩
        | true =>
          refine iteT (he _ _ _ _ _ _ _ _ (s4.up w5.g) g5 h5 fun B6 ρ6 κ6 H6 a6 v6 w6 g6 r6 h6 => ?_)
          obtain ⟨d, rfl, hl, hn⟩ := h6
          obtain ⟨e6, b6, r6'⟩ := w6.f D _ e5 (.inl b5) r5
          have b6 : B6 D = none := b6.elim id fun ⟨ws, z⟩ => by cases z
          have w26 := w25.trans w6
          have da6 := dpa_up w26.s _ _ da
          refine ⟨accV, e6, by rw [dpa_len da6]; exact hl, B6, ρ6, κ6, accV ++ [v6], acc ++ [d], (w2.trans w26).off hD, g6.off b6 r6' (K.up _ _ _ _ _ _ ((w2.trans w26).off hD).n g1.z), upd_same, b6, r6', dpa_app da6 (.cons r6 .nil), hn⟩
section
variable {elt tge iter : Expr} {ifs : List Expr} {scope : Scope} {own : List (Str × Nat)} {wi : TI} {ai : AI} {tg : TG} {ag : AG} {tt : TT} {pt : AT} {te : TE} {fe : AE}
theorem ea_lcL (hc : X.calm = true) (hN : X.N.Nodup) (hi : PIa K X tge iter wi ai) (ok : BlkOk X.N X.env.scope scope own)
    (hg : ∀ (s : Shared) (H : Hp) (C : Addr) (cl : List (Str × Addr)) (fp : List Addr), PG (X.blk s H scope (compEnvC scope cl C X.env) fp) tge tg) (hgw : SGw K tg ag (own.map (·.2)))
    (ht : ∀ (s : Shared) (H : Hp) (C : Addr) (cl : List (Str × Addr)) (fp : List Addr), PTsa K (X.blk s H scope (compEnvC scope cl C X.env) fp) ifs tt pt)
    (he : ∀ (s : Shared) (H : Hp) (C : Addr) (cl : List (Str × Addr)) (fp : List Addr), PEa K (X.blk s H scope (compEnvC scope cl C X.env) fp) elt te fe) (hs : ∀ x, foldedSetIterable iter X.env x = pure x := by intro _; rfl) :
    PEa K X (.ListComp elt [⟨tge, iter, ifs, 0⟩] scope pos) (tLc wi tg tt te (own.map (·.2))) (aLcL ai ag pt fe (own.map (·.2))) :=
  ⟨pe_lc hc hN hi.pi ok hg (fun s H C cl fp => (ht s H C cl fp).pt) (fun s H C cl fp => (he s H C cl fp).pe) hs, se_lcL hi.sd hgw (ht ({} : Shared) (fun _ => none) 0 [] []).sd (he ({} : Shared) (fun _ => none) 0 [] []).sd⟩
theorem sa_setLcL {i : Nat} {y : Str} {py spos : Pos} (hc : X.calm = true) (hN : X.N.Nodup) (hy : X.N[i]? = some y) (hyl : X.env.scope.names.lookup y = some .local)
    (hsw : swapsWith (.ListComp elt [⟨tge, iter, ifs, 0⟩] scope pos) (some (.Name y py)) spos.line X.env = pure true) (hi : PIa K X tge iter wi ai) (ok : BlkOk X.N X.env.scope scope own)
    (hg : ∀ (s : Shared) (H : Hp) (C : Addr) (cl : List (Str × Addr)) (fp : List Addr), PG (X.blk s H scope (compEnvC scope cl C X.env) fp) tge tg) (hgw : SGw K tg ag (own.map (·.2)))
    (ht : ∀ (s : Shared) (H : Hp) (C : Addr) (cl : List (Str × Addr)) (fp : List Addr), PTsa K (X.blk s H scope (compEnvC scope cl C X.env) fp) ifs tt pt)
    (he : ∀ (s : Shared) (H : Hp) (C : Addr) (cl : List (Str × Addr)) (fp : List Addr), PEa K (X.blk s H scope (compEnvC scope cl C X.env) fp) elt te fe) (hs : ∀ x, foldedSetIterable iter X.env x = pure x := by intro _; rfl) :
    PSa K X (.Assign [.Name y py] (.ListComp elt [⟨tge, iter, ifs, 0⟩] scope pos) spos) (tAsg (tLc wi tg tt te (own.map (·.2))) (gName i)) (aSet i (aLcL ai ag pt fe (own.map (·.2)))) :=
  ⟨ps_setLc hc hN hy hyl hsw hi.pi ok hg (fun s H C cl fp => (ht s H C cl fp).pt) (fun s H C cl fp => (he s H C cl fp).pe) hs, ss_asg (se_lcL hi.sd hgw (ht ({} : Shared) (fun _ => none) 0 [] []).sd (he ({} : Shared) (fun _ => none) 0 [] []).sd) sg_name⟩
end
/-! ### a list of cells, walked -/
def itL (k : Nat) : AIt := ⟨fun i κ => ∃ xs, κ[k]? = some (.lst xs) ∧ i < xs.length, fun i κ a => ∃ xs, κ[k]? = some (.lst xs) ∧ xs[i]? = some a, fun i κ => ∃ xs, κ[k]? = some (.lst xs) ∧ xs.length ≤ i⟩
theorem reps_get' {as : List AV} {vs : List V} (r : Reps K B ρ as vs) : ∀ {i : Nat} {a : AV}, as[i]? = some a → ∃ v, vs[i]? = some v ∧ Rep K B ρ a v := by
  induction r with
  | nil => intro i a h; cases h
  | cons h _ ih =>
    intro i a e
    cases i with
    | zero => cases e; exact ⟨_, rfl, h⟩
    | succ i => exact ih (i := i) e
theorem ri_lcell {p : Addr} (hp : ρ[k]? = some p) : RI K B ρ H (Itl K p) (itL k) := by
  intro B2 ρ2 κ2 H2 w2 g2 i
  have hp2 := w2.p _ _ hp
  have at' : ∀ {xs}, κ2[k]? = some (.lst xs) → ∃ vs, Reps K B2 ρ2 xs vs ∧ H2 p = some (.lst vs) := fun ek => by
    obtain ⟨p', hp', _, vs, r, eH⟩ := g2.cell ek
    rw [hp2] at hp'; cases hp'
    exact ⟨vs, r, eH⟩
  refine ⟨fun h => ?_, fun h => ?_⟩
  · obtain ⟨xs, ek, hi⟩ := h
    obtain ⟨vs, r, eH⟩ := at' ek
    exact ⟨vs, .inl (.inl eH), by rw [← r.len]; exact hi⟩
  · obtain ⟨xs, ek, hi⟩ := h
    obtain ⟨vs, r, eH⟩ := at' ek
    obtain ⟨w, hw, rw'⟩ := reps_get' r (List.getElem?_eq_getElem hi)
    have hs2 : SqL K H2 p vs := .inl (.inl eH)
    refine ⟨⟨vs, w, hs2, hw⟩, fun x H3 hy => ?_⟩
    obtain ⟨rfl, f⟩ := hy
    have e := (f vs hs2).symm.trans hw
    cases e
    exact ⟨B2, _, Up.refl, g2, rw', xs, ek, List.getElem?_eq_getElem hi⟩
def aIterL (f : AE) : AI := fun δ κ R => f δ κ fun a κ1 => match a with
  | .c k => match κ1[k]? with
    | some (.lst _) => R (itL k) κ1
    | _ => False
  | _ => False
theorem ia_lst {tge : Expr} (h : PEa K X e t f) (hK : X.K = K := by rfl) : PIa K X tge e (iAny K t) (aIterL f) := by
  obtain ⟨K, Kn, KZ, Ku⟩ := K
  change X.K = K at hK
  subst hK
  exact ⟨pi_any h.pe, fun B ρ δ κ σ H R Q s g hh q => h.sd _ _ _ _ _ _ _ _ s g hh fun B1 ρ1 κ1 H1 a v w1 g1 r1 h1 => by
  split at h1
  · obtain ⟨p, hp, rfl⟩ := r1
    split at h1
    · rename_i xs ek
      obtain ⟨p', hp', _, vs, r, eH⟩ := g1.cell ek
      rw [hp] at hp'; cases hp'
      exact .inl ⟨p, rfl, ⟨vs, .inl (.inl eH)⟩, q _ _ _ _ _ _ w1 g1 (ri_lcell hp) h1⟩
    · exact h1.elim
  · exact h1.elim⟩
/-! ### loops over ranges and lists -/
section
variable {ag : AG} {pt : AT} {f : AE} {vs : List Nat} {δ : AD} {κ1 : AK} {R : AR}
theorem lcC_r {lo : Int} {N : Nat} (Pv : Nat → List AV → AK → Prop) (h0 : Pv 0 [] κ1) (hd : ∀ acc κ', Pv N acc κ' → R (.c κ'.length) (κ' ++ [.lst acc]))
    (hs : ∀ i acc κ', i < N → Pv i acc κ' → ag (.d (.int (lo + i))) (wipeA δ vs) κ' fun δ2 κ2 => pt δ2 κ2 fun b κ3 => bsel b (f δ2 κ3 fun y κ4 => acc.length < sizeLine ∧ Pv (i + 1) (acc ++ [y]) κ4) (Pv (i + 1) acc κ3)) : LcC (itR lo N) ag pt f vs δ κ1 R := by
  refine lcC.mpr ⟨fun i m acc κ' => m = N - i ∧ i ≤ N ∧ Pv i acc κ', ⟨_, rfl, Nat.zero_le _, h0⟩, ?_⟩
  rintro i m acc κ' ⟨rfl, hi, p⟩
  by_cases hlt : i < N
  · refine .inr ⟨hlt, Pv (i + 1), fun _ _ q => ⟨N - (i + 1), by omega, rfl, hlt, q⟩, ?_⟩
    rintro a rfl
    exact hs i acc κ' hlt p
  · have e : i = N := by omega
    subst e
    exact .inl ⟨Nat.le_refl _, hd _ _ p⟩
theorem lcL_r {lo : Int} {N : Nat} (Pv : Nat → List PyData → AK → Prop) (h0 : Pv 0 [] κ1) (hd : ∀ acc κ', Pv N acc κ' → R (.c κ'.length) (κ' ++ [.ld acc]))
    (hs : ∀ i acc κ', i < N → Pv i acc κ' → ag (.d (.int (lo + i))) (wipeA δ vs) κ' fun δ2 κ2 => pt δ2 κ2 fun b κ3 => bsel b (f δ2 κ3 fun y κ4 => ∃ d, y = .d d ∧ acc.length < sizeLine ∧ Pv (i + 1) (acc ++ [d]) κ4) (Pv (i + 1) acc κ3)) : LcL (itR lo N) ag pt f vs δ κ1 R := by
  refine lcL.mpr ⟨fun i m acc κ' => m = N - i ∧ i ≤ N ∧ Pv i acc κ', ⟨_, rfl, Nat.zero_le _, h0⟩, ?_⟩
  rintro i m acc κ' ⟨rfl, hi, p⟩
  by_cases hlt : i < N
  · refine .inr ⟨hlt, Pv (i + 1), fun _ _ q => ⟨N - (i + 1), by omega, rfl, hlt, q⟩, ?_⟩
    rintro a rfl
    exact hs i acc κ' hlt p
  · have e : i = N := by omega
    subst e
    exact .inl ⟨Nat.le_refl _, hd _ _ p⟩
/-- data made of a list of cells -/
theorem lc_l {k : Nat} {xs : List AV} (Pv : Nat → List PyData → AK → Prop) (h0 : Pv 0 [] κ1) (hk : ∀ i acc κ', Pv i acc κ' → κ'[k]? = some (.lst xs)) (hd : ∀ acc κ', Pv xs.length acc κ' → R (.d (.list acc)) κ')
    (hs : ∀ i x acc κ', xs[i]? = some x → Pv i acc κ' → ag x (wipeA δ vs) κ' fun δ2 κ2 => pt δ2 κ2 fun b κ3 => bsel b (f δ2 κ3 fun y κ4 => ∃ d, y = .d d ∧ acc.length < sizeLine ∧ Pv (i + 1) (acc ++ [d]) κ4) (Pv (i + 1) acc κ3)) : LcW (itL k) ag pt f vs δ κ1 R := by
  refine lcw.mpr ⟨fun i m acc κ' => m = xs.length - i ∧ i ≤ xs.length ∧ Pv i acc κ', ⟨_, rfl, Nat.zero_le _, h0⟩, ?_⟩
  rintro i m acc κ' ⟨rfl, hi, p⟩
  by_cases hlt : i < xs.length
  · refine .inr ⟨⟨xs, hk _ _ _ p, hlt⟩, Pv (i + 1), fun _ _ q => ⟨xs.length - (i + 1), by omega, rfl, hlt, q⟩, ?_⟩
    rintro a ⟨ys, hy, hx⟩
    rw [hk _ _ _ p] at hy; cases hy
    exact hs i a acc κ' hx p
  · have e : i = xs.length := by omega
    subst e
    exact .inl ⟨⟨xs, hk _ _ _ p, Nat.le_refl _⟩, hd _ _ p⟩
end
end Ab
set_option Elab.async false
set_option linter.all false
set_option maxRecDepth 100000
set_option maxHeartbeats 4000000
/-! Ab17: errors: raise, calls that may raise, try .. except -/
namespace Ab
open PySem L2
open PyProof.Rows (envOfC)
variable {K : Frg} {B B' B2 H H' H2 : Hp} {ρ ρ' ρ2 : List Addr} {κ κ' : AK} {δ : AD} {σ : L2.St} {p : Addr} {k : Nat} {v x y z : V} {a b c : AV}
variable {X : Cx} {e e2 o : Expr} {t u : TE} {f f2 : AE} {pos : Pos} {W : WX}

/-- what is wanted of the errors that leave -/
abbrev AEx := AX → AK → Prop
/-- .. over the heap -/
def HX (K : Frg) (E' : AEx) (W : WX) : Prop := ∀ B ρ κ H x cls d, G K B ρ κ H → E' x κ → RepX K B x cls d → ∀ σ : L2.St, W cls d σ H
def ExOf (W : WX) : XK := fun cls d H => ∀ σ : L2.St, W cls d σ H
theorem passR (tk : Takes X W) : Passes (L2.CX X.prog X.w) X (ExOf W) := fun pins σ H s e s' I c => tk e s' (XE.of_call I (fun cls d H' h => h σ) c)
theorem passF (tk : Takes X W) : Passes (L2.CX X.prog X.w) X (fun _ _ _ => False) := fun pins σ H s e s' I c => tk e s' (XE.of_call I (fun cls d H' h => h.elim) c)
variable {E' : AEx}

/-! ### calls that may raise -/
section
variable {l : Nat} {fa : Addr} {fd : FuncData} {ps : List Str} {F : FSp} {x : Str} {q pos : Pos} {es : List Expr} {ta : TA} {ga : AA}
theorem ea_callR (Fo : FnOk X.prog X.w X.K X.mg X.base (L2.CX X.prog X.w) l fa fd ps (spA X.K F)) (hr : Room l X.A) (tk : Takes X W) (hx : HX K E' W) (hg : Gl X x) (hm : X.mg x = some (.ref fa)) (hk : PySem.W.keepIn X.K (.ref fa) = true) (hb : Binds X.K fd ps []) (ha : PAa K X (e :: es) ta ga)
    (hdb : (x == ("__debug__" : Str)) = false := by decide) (he : starEach (e :: es) X.env = (false, eval e X.env) :: starEach es X.env := by rfl) (hpl : (backTo pos (starEach es X.env)).any (·.1) = false := by rfl) (hK : X.K = K.K := by rfl) :
    PEa K X (.Call (.Name x q) (e :: es) [] pos) (tCall (spA K F) [] (ExOf W) ta) (aCall F E' ga) := by
  obtain ⟨K, Kn, KZ, Ku⟩ := K
  change X.K = K at hK
  subst hK
  exact ⟨pe_call Fo hr hg hm hk hb .nil (passR tk) ha.pa hdb he hpl, se_call ha.sd fun B' ρ' κ' H' x cls d g h r => hx _ _ _ _ _ _ _ g h r⟩
end
theorem callW_sdR {F : FSp} {E : XK} {as : List AV} {vs : List V} {R : AR} {Q : VK} (g : G K B ρ κ H) (r : Reps K B ρ as vs) (h : callW F E' as κ R) (q : Nx K B ρ H R Q) (hx : ∀ B' ρ' κ' H' x cls d, G K B' ρ' κ' H' → E' x κ' → RepX K B' x cls d → E cls d H') : spA K F vs H Q E := by
  obtain ⟨js, asl, κl, nd, e1, e2, hF⟩ := callW_e h
  refine ⟨B, selR js ρ, κl, asl, _, _, sel_ok g nd e2, selAs_ok (fun i j p h1 h2 => selR_get h1 h2) e1 r, hF, ?_, ?_⟩
  · rintro B' ρ' κ' H' a v w2 g2 r2 ⟨l, cl, lv, hR⟩
    obtain ⟨w3, g3, r3⟩ := back_ok g nd e2 w2 g2 l cl lv
    exact q _ _ _ _ _ _ w3 g3 (r3 r2) hR
  · rintro B' ρ' κ' H' x cls d w2 g2 r2 ⟨l, cl, lv, hR⟩
    obtain ⟨w3, g3, r3⟩ := back_ok g nd e2 w2 g2 l cl lv
    exact hx _ _ _ _ _ _ _ g3 hR r2
def aMethR (C : Addr) (m : Str) (F : FSp) (E' : AEx) (fo : AE) (fa : AA) : AE := fun δ κ R => fo δ κ fun a κ1 => match a with
  | .c k => ∃ fs, κ1[k]? = some (.ins C fs) ∧ lookA m fs = none ∧ fa δ κ1 fun as κ2 => callW F E' (.c k :: as) κ2 R
  | _ => False
variable {ta : TA} {fa : AA} {es : List Expr}
theorem se_methR {C : Addr} {m : Str} {F : FSp} (ho : SE K t f) (ha : SA K ta fa) (hx : HX K E' W) : SE K (tMeth C m (spA K F) [] (ExOf W) t ta) (aMethR C m F E' f fa) := fun B ρ δ κ σ H R Q s g hh q =>
  ho B ρ δ κ σ H _ _ s g hh fun B1 ρ1 κ1 H1 a x u1 g1 r1 h1 => by
    split at h1
    · rename_i j
      obtain ⟨fs, ek, ln, h1⟩ := h1
      obtain ⟨p, hp, rfl⟩ := id r1
      obtain ⟨dx, ws, r, eH, _⟩ := g1.insAt hp ek
      refine ⟨p, dx, ws, rfl, eH, repKs_none r ln, ha _ _ _ _ _ _ _ _ (s.up u1.g) g1 h1 fun B2 ρ2 κ2 H2 as vs u2 g2 r2 h2 => ?_⟩
      show spA K F (.ref p :: (vs ++ [])) H2 Q _
      rw [List.append_nil]
      exact callW_sdR g2 (.cons (r1.up u2.g) r2) h2 (q.later (u1.trans u2)) fun B' ρ' κ' H' x cls d g h r => hx _ _ _ _ _ _ _ g h r
    · exact h1.elim
section
variable {l : Nat} {fm C : Addr} {fd : FuncData} {ps : List Str} {F : FSp} {m : Str} {apos : Pos} {pl : Sem Bool}
theorem ea_methR (Fo : FnOk X.prog X.w X.K X.mg X.base (L2.CX X.prog X.w) l fm fd ps (spA X.K F)) (hr : Room l X.A) (tk : Takes X W) (hx : HX K E' W) (hc : Cls K C) (hm : Meth K C m fm) (hb : Binds K fd ps []) (ho : PEa K X o t f) (ha : PAa K X (e :: es) ta fa)
    (hst : starEach (e :: es) X.env = (false, eval e X.env) :: starEach es X.env := by rfl) (hpl : (backTo pos (starEach es X.env)).any (·.1) = false := by rfl)
    (ht : eval (.Call (.Attribute o m apos) (e :: es) [] pos) X.env = (do
      let ov ← eval o X.env
      standAt apos.atName
      let (f, first) ← holding [ov] (getMethod ov m pl)
      callWith pos f first (backTo pos (starEach (e :: es) X.env)) (backToKw pos (keywordEach [] X.env))) := by rfl) (hK : X.K = K := by rfl) :
    PEa K X (.Call (.Attribute o m apos) (e :: es) [] pos) (tMeth C m (spA K F) [] (ExOf W) t ta) (aMethR C m F E' f fa) := by
  obtain ⟨K, Kn, KZ, Ku⟩ := K
  change X.K = K at hK
  subst hK
  exact ⟨pe_meth (pl := pl) ho.pe hc hm Fo hr hb .nil (passR tk) ha.pa hst hpl ht, se_methR ho.sd ha.sd hx⟩
theorem ea_methR0 (Fo : FnOk X.prog X.w X.K X.mg X.base (L2.CX X.prog X.w) l fm fd ps (spA X.K F)) (hr : Room l X.A) (tk : Takes X W) (hx : HX K E' W) (hc : Cls K C) (hm : Meth K C m fm) (hb : Binds K fd ps []) (ho : PEa K X o t f)
    (ht : eval (.Call (.Attribute o m apos) [] [] pos) X.env = (do
      let ov ← eval o X.env
      standAt apos.atName
      let (f, first) ← holding [ov] (getMethod ov m pl)
      callWith pos f first (backTo pos (starEach [] X.env)) (backToKw pos (keywordEach [] X.env))) := by rfl) (hK : X.K = K := by rfl) :
    PEa K X (.Call (.Attribute o m apos) [] [] pos) (tMeth C m (spA K F) [] (ExOf W) t tNil) (aMethR C m F E' f aNil) := by
  obtain ⟨K, Kn, KZ, Ku⟩ := K
  change X.K = K at hK
  subst hK
  exact ⟨pe_meth0 (pl := pl) ho.pe hc hm Fo hr hb .nil (passR tk) ht, se_methR ho.sd (fun B ρ δ κ σ H R Q s g h q => q _ _ _ _ _ _ Up.refl g .nil h) hx⟩
end
/-! a new object whose __init__ may raise -/
def aMakeR (C : Addr) (F : FSp) (E' : AEx) (fa : AA) : AE := fun δ κ R => fa δ κ fun as κ1 => callW F E' (.c κ1.length :: as) (κ1 ++ [.ins C []]) fun a κ2 => a = .d .none ∧ R (.c κ1.length) κ2
theorem se_makeR {C : Addr} {F : FSp} (ha : SA K ta fa) (hx : HX K E' W) : SE K (tMake C (spA K F) [] (ExOf W) ta) (aMakeR C F E' fa) := fun B ρ δ κ σ H R Q s g hh q =>
  ha B ρ δ κ σ H _ _ s g hh fun B1 ρ1 κ1 H1 as vs u1 g1 r1 h1 => by
    intro x dx hx' hdx hne
    show spA K F (.ref x :: (vs ++ [])) _ _ _
    rw [List.append_nil]
    have nin : ∀ {q : Addr}, H1 q = none → q ∉ ρ1 := fun {q} hq z => by
      obtain ⟨i, hi⟩ := List.mem_iff_getElem?.mp z
      exact g1.nin hq hi rfl
    have g2 : G K B1 ρ1 κ1 (upd H1 dx (.own x)) := g1.off (g1.fresh hdx) (nin hdx) (K.up _ _ _ _ _ _ (Up.refl.off hdx).n g1.z)
    have hx2 : (upd H1 dx (.own x)) x = none := by rw [upd_ne (Ne.symm hne)]; exact hx'
    have g3 : G K B1 (ρ1 ++ [x]) (κ1 ++ [.ins C []]) (upd (upd H1 dx (.own x)) x (.ins C dx [])) := g2.alloc hx2 (show CellOk K B1 ρ1 _ x (.ins C []) from ⟨g1.fresh hx', dx, [], .nil, upd_same⟩)
    have up3 : Up B1 ρ1 H1 B1 (ρ1 ++ [x]) (upd (upd H1 dx (.own x)) x (.ins C dx [])) := ⟨Same.refl B1, fun _ _ h => get_app h, fun q o' h1 h2 h3 => by
      have n1 := ne_of_none h1 hx'
      have n2 := ne_of_none h1 hdx
      rw [upd_ne n1, upd_ne n2]
      refine ⟨h1, h2, fun z => ?_⟩
      rcases List.mem_append.mp z with z | z
      · exact h3 z
      · exact n1 (by simpa using z)⟩
    have rx : Rep K B1 (ρ1 ++ [x]) (.c κ1.length) (.ref x) := rep_new g1
    refine callW_sdR g3 (.cons rx (Reps.up up3.g r1)) h1 ?_ fun B' ρ' κ' H' x cls d g h r => hx _ _ _ _ _ _ _ g h r
    rintro B4 ρ4 κ4 H4 a v w4 g4 r4 ⟨rfl, hR⟩
    exact ⟨r4.non, q _ _ _ _ _ _ ((u1.trans up3).trans w4) g4 (rx.up w4.g) hR⟩
section
variable {l : Nat} {fI C : Addr} {fd : FuncData} {ps : List Str} {F : FSp} {x : Str} {q : Pos}
theorem ea_makeR (M : Mk K C fI) (Fo : FnOk X.prog X.w X.K X.mg X.base (L2.CX X.prog X.w) l fI fd ps (spA X.K F)) (hr : Room (l + 1) X.A) (tk : Takes X W) (hx : HX K E' W) (hg : Gl X x) (hm : X.mg x = some (.ref C)) (hb : Binds K fd ps []) (ha : PAa K X (e :: es) ta fa)
    (hdb : (x == ("__debug__" : Str)) = false := by decide) (he : starEach (e :: es) X.env = (false, eval e X.env) :: starEach es X.env := by rfl) (hpl : (backTo pos (starEach es X.env)).any (·.1) = false := by rfl) (hK : X.K = K := by rfl) :
    PEa K X (.Call (.Name x q) (e :: es) [] pos) (tMake C (spA K F) [] (ExOf W) ta) (aMakeR C F E' fa) := by
  obtain ⟨K, Kn, KZ, Ku⟩ := K
  change X.K = K at hK
  subst hK
  exact ⟨pe_make M Fo hr hg hm hb .nil (passR tk) ha.pa hdb he hpl, se_makeR ha.sd hx⟩
end

/-! ### raise -/
/-- what the top says of an error's class -/
structure ExF (K : PySem.W.Frag) (nm : Str) (C : Addr) : Prop where
  ns : PySem.W.nsIn K mainGlobals nm = some (some (.ref C))
  ox : OexC K C
/-- __init__(self, y): self.f = y, of an error -/
def spInit (K : PySem.W.Frag) (C : Addr) (f : Str) : Sp := fun vs H Q E => ∃ (a : Addr) (y : V), vs = [.ref a, y] ∧ H a = some (exo a C none) ∧ ∀ dx, H dx = none → dx ≠ a → Q .non (upd (upd H dx (exd dx [(f, y)])) a (exo a C (some dx)))
theorem spInit_len {K : PySem.W.Frag} {C : Addr} {f s y : Str} : ∀ vs H Q E, spInit K C f vs H Q E → vs.length = [s, y].length := by
  rintro vs H Q E ⟨a, y, rfl, _⟩; rfl
section
variable {P : Program} {w : World} {K : PySem.W.Frag} {mg : Str → Option Value} {base : Heap}
theorem init_ok {C : Addr} {fld self arg qual : Str} {st : Stmt} {fa : Addr} {fd : FuncData} {N : List Str} (Fu : Fun K "__init__" qual st fa fd) (Sc : FnScope N [self, arg] (defScope st)) (T : OexC K C) (hno : PySem.W.findIn K (.ref C) fld = some none)
    (hb : ∀ cdv A outer s H E, PSs (cxOf CX0 P w K mg base N qual (defScope st) fa cdv A outer s H E).nox (defBody st) (tOst K fld (tVar 0) (tVar 1))) : FnOk P w K mg base CX0 1 fa fd [self, arg] (spInit K C fld) :=
  Fu.ok Sc spInit_len fun cdv A outer s H vs Q E hr ⟨a, y, ev, ea, q⟩ => by
    subst ev
    refine ⟨_, hb cdv A outer s H E, ?_⟩
    exact ⟨y, rfl, .ref a, rfl, a, C, rfl, T, hno, .inl ⟨ea, fun dx n ne => q dx n ne⟩⟩
end
/-- raise C(e) -/
def aRaise (nm f : Str) (E' : AEx) (fa : AA) : AS := fun A δ κ => fa δ κ fun as κ1 => match as with
  | [.d x] => E' ⟨nm, [(f, x)]⟩ κ1
  | _ => False
/-- raise C() -/
def aRaise0 (nm : Str) (E' : AEx) : AS := fun A δ κ => E' ⟨nm, []⟩ κ
theorem upd_mk {H1 : Hp} {a dx C : Addr} {f : Str} {y : V} (ha : H1 a = none) (hd : H1 dx = none) (ne : dx ≠ a) : upd (del (upd (upd (upd H1 a (exo a C none)) dx (exd dx [(f, y)])) a (exo a C (some dx))) a) dx (.xd [(f, y)]) = upd H1 dx (.xd [(f, y)]) := by
  funext b
  by_cases hb : b = dx
  · subst hb; rw [upd_same, upd_same]
  · rw [upd_ne hb, upd_ne hb]
    by_cases h2 : b = a
    · subst h2; rw [del_same, ha]
    · rw [del_ne h2, upd_ne h2, upd_ne hb, upd_ne h2]
section
variable {C fI : Addr} {l : Nat} {fd : FuncData} {ps : List Str} {x fld : Str} {q : Pos}
theorem sa_raise (T : ExF X.K x C) (iC : PySem.W.findIn X.K (.ref C) "__init__" = some (some (.ref fI))) (tI : PySem.W.typeIn X.K (.ref fI) = some (.type "function")) (F1 : FnOk X.prog X.w X.K X.mg X.base CX0 l fI fd ps (spInit X.K C fld)) (hr : Room (l + 1) X.A) (hb : Binds X.K fd ps [])
    (hc : X.calm = true) (tk : Takes X W) (hx : HX K E' W) (hg : Gl X x) (hm : X.mg x = some (.ref C)) (ha : PAa K X (e :: es) ta fa)
    (hdb : (x == ("__debug__" : Str)) = false := by decide) (he : starEach (e :: es) X.env = (false, eval e X.env) :: starEach es X.env := by rfl) (hpl : (backTo pos (starEach es X.env)).any (·.1) = false := by rfl) (hK : X.K = K.K := by rfl) {pos2 : Pos} :
    PSa K X (.Raise (some (.Call (.Name x q) (e :: es) [] pos)) none pos2) (fun D σ H => tMkO C (spInit X.K C fld) [] ta σ H fun cls d H' => W cls d σ H') (aRaise x fld E' fa) := by
  obtain ⟨K, Kn, KZ, Ku⟩ := K
  change X.K = K at hK
  subst hK
  refine ⟨ps_raise hc tk (pmk_oex T.ox iC tI F1 hr hb .nil (fun _ _ _ _ _ _ _ h => h.elim) hg hm ha.pa hdb he hpl), fun B ρ δ κ σ H A D s g l h im => ha.sd B ρ δ κ σ H _ _ s g h fun B1 ρ1 κ1 H1 as vs w1 g1 r1 h1 => ?_⟩
  split at h1
  · rename_i xd
    obtain ⟨y, rfl, ry⟩ := reps1 r1
    refine ⟨by simp, fun a0 ha0 => ⟨a0, y, rfl, upd_same, fun dx hdx hne => ⟨rfl, dx, [(fld, y)], upd_same, ?_, ?_, ?_⟩⟩⟩
    · rw [upd_ne hne]; exact upd_same
    · rw [upd_ne hne] at hdx; exact hdx
    · have hd1 : H1 dx = none := by rw [upd_ne hne] at hdx; exact hdx
      rw [upd_mk ha0 hd1 hne]
      obtain ⟨u, g2⟩ := g1.data hd1 (o := .xd [(fld, y)])
      exact hx _ _ _ _ _ _ _ g2 h1 ⟨T.ns, .inr ⟨dx, [(fld, y)], rfl, upd_same, .cons ⟨rfl, dp_up u.s _ _ ry⟩ .nil⟩⟩ σ
  · exact h1.elim
end
end Ab
set_option Elab.async false
set_option linter.all false
set_option maxRecDepth 100000
set_option maxHeartbeats 4000000
/-! Ab18: defs that may raise; try .. except x as n -/
namespace Ab
open PySem L2
open PyProof.Rows (envOfC)
variable {B B' B2 H H' H2 : Hp} {ρ ρ' ρ2 : List Addr} {κ κ' : AK} {δ : AD} {σ : L2.St} {p : Addr} {k : Nat} {v x y z : V} {a b c : AV}
variable {X : Cx} {e e2 o : Expr} {t u : TE} {f f2 : AE} {pos : Pos} {W : WX}
/-- an error at the def's end: the state may be told anew -/
def endX (K : PySem.W.Frag) (n : Nat) (E' : AEx) : AEx := fun x κ => ∃ a' κ', GhR K n (.d .none) κ a' κ' ∧ E' x κ'
theorem UpN.lenN {n : Nat} (w : UpN n B ρ H B' ρ' H') (h : n ≤ ρ.length) : n ≤ ρ'.length := by
  by_cases e : n = 0
  · omega
  · have h1 : n - 1 < ρ.length := by omega
    have := (List.getElem?_eq_some_iff.mp (w.p (n - 1) _ (by omega) (List.getElem?_eq_getElem h1))).1
    omega
section
variable {K : PySem.W.Frag} {P : Program} {w : World} {mg : Str → Option Value} {base : Heap}
/-- THE RULE for a def that may raise -/
theorem fn_okR {x qual : Str} {st : Stmt} {fa : Addr} {fd : FuncData} {N ps : List Str} {l : Nat} {F : FSp} {fb : AEx → AS} (Fu : Fun K x qual st fa fd) (Sc : FnScope N ps (defScope st)) (hl : ∀ as κ R E', F as κ R E' → as.length = ps.length)
    (hb : ∀ (cdv : Value) (A : Around) (outer : List Env) (s : Shared) (H : Hp) (E : XK), Room l (A.deeper (envOfC qual (defScope st) s.heap.objs.size fa cdv)) →
      ∀ (W : WX), Takes (cxOf (L2.CX P w) P w K mg base N qual (defScope st) fa cdv A outer s H E) W → PassesOwn (model P w) (cxOf (L2.CX P w) P w K mg base N qual (defScope st) fa cdv A outer s H E).A (cxOf (L2.CX P w) P w K mg base N qual (defScope st) fa cdv A outer s H E).env (cxOf (L2.CX P w) P w K mg base N qual (defScope st) fa cdv A outer s H E).xe →
      ∀ (n : Nat) (Z : Hp → List Addr → Hp → Prop) (up : ∀ B ρ H B' ρ' H', UpN n B ρ H B' ρ' H' → Z B ρ H → Z B' ρ' H') (E' : AEx), HX ⟨K, n, Z, up⟩ E' W →
      ∃ t, PSsa ⟨K, n, Z, up⟩ (cxOf (L2.CX P w) P w K mg base N qual (defScope st) fa cdv A outer s H E) (defBody st) t (fb E'))
    (hF : ∀ as κ R E', F as κ R E' → fb (endX K κ.length E') (endsA K κ.length R) (startA N as) κ) : FnOk P w K mg base (L2.CX P w) (l + 1) fa fd ps (spA K F) :=
  Fu.okX Sc (spA_len hl) fun cdv A outer s H vs Q E hr h => by
    obtain ⟨B, ρ, κ, as, R, E', g, r, hf, q, qe⟩ := h
    have hx : HX ⟨K, κ.length, fun B' ρ' H' => UpN κ.length B ρ H B' ρ' H', fun _ _ _ _ _ _ w2 w1 => w1.trans w2⟩ (endX K κ.length E') (fun cls d _ H => E cls d H) := by
      intro B1 ρ1 κ1 H1 x cls d g1 ⟨a', κ2, gh, hE⟩ rx σ
      obtain ⟨B2, ρ2, w2, r2, g2⟩ := gh.2 B1 ρ1 H1 .non g1.plain rp_non
      have z : UpN κ.length B ρ H B1 ρ1 H1 := g1.z
      exact qe _ _ _ _ _ _ _ ((z.trans w2).full (by rw [g.len]; exact Nat.le_refl _)) g2 (rx.up w2.s) hE
    obtain ⟨t, hp⟩ := hb cdv A outer s H E hr _ (takes_of rfl rfl rfl rfl) (passes_of rfl) _ _ _ _ hx
    refine ⟨t, hp.ps, ?_⟩
    have gz : G ⟨K, κ.length, fun B' ρ' H' => UpN κ.length B ρ H B' ρ' H', fun _ _ _ _ _ _ w2 w1 => w1.trans w2⟩ B ρ κ H := G.zone (K := ⟨K, κ.length, fun B' ρ' H' => UpN κ.length B ρ H B' ρ' H', fun _ _ _ _ _ _ w2 w1 => w1.trans w2⟩) g UpN.refl
    have fin : ∀ B' ρ' κ' H' a v, UpN κ.length B ρ H B' ρ' H' → G (Frg.of K) B' ρ' κ' H' → Rep K B' ρ' a v → (∃ a' κ2, GhR K κ.length a κ' a' κ2 ∧ R a' κ2) → Q v H' := fun B' ρ' κ' H' a v w g' ra ⟨a', κ2, gh, hR⟩ => by
      obtain ⟨B2, ρ2, w2, r2, g2⟩ := gh.2 B' ρ' H' v g' ra
      exact q _ _ _ _ _ _ ((w.trans w2).full (by rw [g.len]; exact Nat.le_refl _)) g2 r2 hR
    refine hp.sd B ρ (startA N as) κ (L2.start N vs) H (endsA K κ.length R) _ (s_start r) gz (Nat.le_refl _) (hF as κ R E' hf) ⟨?_, ?_, ?_, ?_, Nat.le_refl _⟩
    · exact fun B' ρ' κ' H' δ' σ' w g' s' l h' => fin _ _ _ _ _ _ w g'.plain rp_non h'
    · exact fun B' ρ' κ' H' a v w g' ra l h' => fin _ _ _ _ _ _ w g'.plain ra h'
    · exact fun _ _ _ _ _ _ _ _ _ _ h' => h'.elim
    · exact fun _ _ _ _ _ _ _ _ _ _ h' => h'.elim
end
variable {K : Frg}
/-! ### try: body, except x as n: suite -/
/-- .. of slots of this length -/
def lenW (N : Nat) (W : WX) : WX := fun cls d σ H => σ.length = N → W cls d σ H
theorem takes_len (tk : Takes X W) : Takes X (lenW X.N.length W) := fun u s' ⟨a, B, sI, pins, σ, H, cls, d, e, I, nb, up, sky, na, os, ag, w⟩ => tk u s' ⟨a, B, sI, pins, σ, H, cls, d, e, I, nb, up, sky, na, os, ag, w I.len⟩
/-- a wish that takes whatever comes -/
def xeAny (X : Cx) : Value → Shared → Prop := fun e s₁ => wpAny (model X.prog X.w) X.A (noteFrame e X.env) (fun _ s₂ => wpAny (model X.prog X.w) X.A (setFlight e none) (fun _ _ => True) (fun _ _ => False) s₂) (fun _ _ => False) s₁
theorem passes_any : PassesOwn (model X.prog X.w) X.A X.env (xeAny X) := PassesOwn.looking
theorem takes_any {pn : List (Addr × Obj)} (hs : X.stack = X.env :: X.outer) (hf : X.env.frame = some X.env.locals) : Takes (X.tr pn (xeAny X)) W := fun u s' ⟨a, B, sI, pins, σ, H, cls, d, e, I, nb, up, sky, na, os, ag, w⟩ => by
  subst e
  have hfr : X.A.frames = some (X.env :: X.outer) := by
    have := I.ok.frames
    exact this.trans (by rw [← hs])
  have sky' : Sky B (X.env :: X.outer) a (Zc cls d) X.env.locals s'.heap := by rw [← hs]; exact sky
  exact Sky.land Zc.steady hfr hf sky' fun _ _ _ => True.intro
def exTry (N : Nat) (i : Nat) (exm : Str → Option Bool) (fs : Addr → AX → AS) (Eo : AEx) (A : AEnds) : AEx := fun xa κ => ∃ b, exm xa.cls = some b ∧ (b = true → ∀ a, fs a xa { n := A.n, nx := fun δ κ => A.nx (δ.set i none) κ, rt := A.rt, bk := fun δ κ => A.bk (δ.set i none) κ, ct := fun δ κ => A.ct (δ.set i none) κ } ((List.replicate N none).set i (some (.r (.ref a)))) κ) ∧ (b = false → Eo xa κ)
def aTryAs (N : Nat) (i : Nat) (exm : Str → Option Bool) (fb : AEx → AS) (fs : Addr → AX → AS) (Eo : AEx) : AS := fun A δ κ => fb (exTry N i exm fs Eo A) A δ κ
section
variable {x n : Str} {c : Value} {i : Nat} {body suite : List Stmt} {b₀ : Stmt} {np pos' : Pos} {Wout : WX} {Eo : AEx} {exm : Str → Option Bool} {fb : AEx → AS} {fs : Addr → AX → AS} {tb : WX → (n : Nat) → (Z : Hp → List Addr → Hp → Prop) → (∀ B ρ H B' ρ' H', UpN n B ρ H B' ρ' H' → Z B ρ H → Z B' ρ' H') → TS} {ts : Addr → Value → Option Addr → (n : Nat) → (Z : Hp → List Addr → Hp → Prop) → (∀ B ρ H B' ρ' H', UpN n B ρ H B' ρ' H' → Z B ρ H → Z B' ρ' H') → TS}
theorem sa_tryAs (hs : X.stack = X.env :: X.outer) (hf : X.env.frame = some X.env.locals) (hN : X.N.Nodup) (hi : X.N[i]? = some n) (hln : X.env.kindOf n = some .local) (hc : Names X x c) (tk : Takes X Wout) (hxo : HX K Eo Wout)
    (hm : ∀ nm cls b, exm nm = some b → PySem.W.nsIn X.K mainGlobals nm = some (some cls) → PySem.W.exmOne X.K cls c = some b)
    (hb : ∀ (W : WX) (pn : List (Addr × Obj)) (xe : Value → Shared → Prop) (n : Nat) (Z : Hp → List Addr → Hp → Prop) (up : ∀ B ρ H B' ρ' H', UpN n B ρ H B' ρ' H' → Z B ρ H → Z B' ρ' H') (E' : AEx), Takes (X.tr pn xe) W → PassesOwn (model X.prog X.w) X.A X.env xe → HX ⟨K.K, n, Z, up⟩ E' W →
      PSsa ⟨K.K, n, Z, up⟩ (X.tr pn xe) body (tb W n Z up) (fb E'))
    (hsu : ∀ (a : Addr) (oe : Obj) (cls : Value) (d : Option Addr) (pn : List (Addr × Obj)) (xa : AX) (n : Nat) (Z : Hp → List Addr → Hp → Prop) (up : ∀ B ρ H B' ρ' H', UpN n B ρ H B' ρ' H' → Z B ρ H → Z B' ρ' H'), Zc cls d oe → (∃ vs, oe.data = .fields vs) → (∀ B ρ H, Z B ρ H → RepX X.K B xa cls d) →
      PSsa ⟨K.K, n, Z, up⟩ (X.suite a ((a, oe) :: pn)) (b₀ :: suite) (ts a cls d n Z up) (fs a xa)) (hK : X.K = K.K := by rfl) :
    PSa K X (.Try body [.ExceptHandler (some (.Name x np)) (some n) (b₀ :: suite) pos'] [] [] pos)
      (fun D σ H => ∃ (n : Nat) (Z : Hp → List Addr → Hp → Prop) (up : ∀ B ρ H B' ρ' H', UpN n B ρ H B' ρ' H' → Z B ρ H → Z B' ρ' H') (E' : AEx), HX ⟨K.K, n, Z, up⟩ E' (lenW X.N.length (wAs X.K c i (fun a cls d D σ H => ∃ (n : Nat) (Z : Hp → List Addr → Hp → Prop) (up : ∀ B ρ H B' ρ' H', UpN n B ρ H B' ρ' H' → Z B ρ H → Z B' ρ' H') (xa : AX), (∀ B ρ H, Z B ρ H → RepX X.K B xa cls d) ∧ ts a cls d n Z up D σ H) Wout D)) ∧
        tb (lenW X.N.length (wAs X.K c i (fun a cls d D σ H => ∃ (n : Nat) (Z : Hp → List Addr → Hp → Prop) (up : ∀ B ρ H B' ρ' H', UpN n B ρ H B' ρ' H' → Z B ρ H → Z B' ρ' H') (xa : AX), (∀ B ρ H, Z B ρ H → RepX X.K B xa cls d) ∧ ts a cls d n Z up D σ H) Wout D)) n Z up D σ H)
      (aTryAs X.N.length i exm fb fs Eo) := by
  refine ⟨ps_try_as (tb := fun W D σ H => ∃ (n : Nat) (Z : Hp → List Addr → Hp → Prop) (up : ∀ B ρ H B' ρ' H', UpN n B ρ H B' ρ' H' → Z B ρ H → Z B' ρ' H') (E' : AEx), HX ⟨K.K, n, Z, up⟩ E' (lenW X.N.length W) ∧ tb (lenW X.N.length W) n Z up D σ H)
    (ts := fun a cls d D σ H => ∃ (n : Nat) (Z : Hp → List Addr → Hp → Prop) (up : ∀ B ρ H B' ρ' H', UpN n B ρ H B' ρ' H' → Z B ρ H → Z B' ρ' H') (xa : AX), (∀ B ρ H, Z B ρ H → RepX X.K B xa cls d) ∧ ts a cls d n Z up D σ H) hs hf hN hi hln hc tk
    (fun W pn xe tk2 po => ⟨fun pins s σ H D I ⟨n, Z, up, E', hx, h⟩ => (hb (lenW X.N.length W) pn xe n Z up E' (takes_len tk2) po hx).ps.run pins s σ H D I h⟩)
    (fun a oe cls d pn hz hd => ⟨fun pins s σ H D I ⟨n, Z, up, xa, hr, h⟩ => (hsu a oe cls d pn xa n Z up hz hd hr).ps.run pins s σ H D I h⟩), ?_⟩
  intro B ρ δ κ σ H A D s g l h im
  have lρ : A.n ≤ ρ.length := by rw [g.len]; exact l
  have hx : HX ⟨K.K, A.n, fun B' ρ' H' => K.Z B' ρ' H' ∧ UpN A.n B ρ H B' ρ' H', fun _ _ _ _ _ _ w z => ⟨K.up _ _ _ _ _ _ (w.mono im.kn) z.1, z.2.trans w⟩⟩ (exTry X.N.length i exm fs Eo A) (lenW X.N.length (wAs X.K c i (fun a cls d D σ H => ∃ (n : Nat) (Z : Hp → List Addr → Hp → Prop) (up : ∀ B ρ H B' ρ' H', UpN n B ρ H B' ρ' H' → Z B ρ H → Z B' ρ' H') (xa : AX), (∀ B ρ H, Z B ρ H → RepX X.K B xa cls d) ∧ ts a cls d n Z up D σ H) Wout D)) := by
    intro B1 ρ1 κ1 H1 xa cls d g1 ⟨b, hb1, hy, hn⟩ rx σ1 hσ
    have z1 : K.Z B1 ρ1 H1 ∧ UpN A.n B ρ H B1 ρ1 H1 := g1.z
    have gk : G K B1 ρ1 κ1 H1 := G.zone g1.plain z1.1
    refine ⟨b, hm _ _ _ hb1 (by rw [hK]; exact rx.1), fun eb a na => ?_, fun eb => hxo _ _ _ _ _ _ _ gk (hn eb) rx σ1⟩
    refine ⟨K.n, fun B' ρ' H' => K.Z B' ρ' H' ∧ RepX K.K B' xa cls d, fun _ _ _ _ _ _ w z => ⟨K.up _ _ _ _ _ _ w z.1, z.2.up w.s⟩, xa, fun _ _ _ z => by rw [hK]; exact z.2, ?_⟩
    have im1 := im.later z1.2
    refine (hsu a { cls := cls, dict := d, data := .fields #[] } cls d [] xa K.n (fun B' ρ' H' => K.Z B' ρ' H' ∧ RepX K.K B' xa cls d) (fun _ _ _ _ _ _ w z => ⟨K.up _ _ _ _ _ _ w z.1, z.2.up w.s⟩) ⟨rfl, rfl⟩ ⟨_, rfl⟩ (fun _ _ _ z => by rw [hK]; exact z.2)).sd
      B1 ρ1 _ κ1 _ H1 _ _ ?_ (G.zone (K := ⟨K.K, K.n, fun B' ρ' H' => K.Z B' ρ' H' ∧ RepX K.K B' xa cls d, fun _ _ _ _ _ _ w z => ⟨K.up _ _ _ _ _ _ w z.1, z.2.up w.s⟩⟩) g1.plain ⟨z1.1, rx⟩) ?_ (hy eb a) ⟨?_, ?_, ?_, ?_, im.kn⟩
    · refine ⟨by rw [List.length_set, List.length_set, List.length_replicate, hσ], fun j b hj => ?_⟩
      rw [List.getElem?_set] at hj
      split at hj
      · rename_i ej
        split at hj
        · rename_i lj
          rw [List.length_replicate] at lj
          cases hj
          subst ej
          exact ⟨.ref a, by rw [List.getElem?_set_self (by rw [hσ]; exact lj)], rfl⟩
        · cases hj
      · rw [List.getElem?_replicate] at hj
        split at hj
        · cases hj
        · cases hj
    · show A.n ≤ κ1.length
      rw [← gk.len]
      exact z1.2.lenN lρ
    · exact fun B' ρ' κ' H' δ' σ' w g' s' l' h' => im1.nx _ _ _ _ _ _ w (G.zone g'.plain g'.z.1) s'.clr l' h'
    · exact fun B' ρ' κ' H' a v w g' r' l' h' => im1.rt _ _ _ _ _ _ w (G.zone g'.plain g'.z.1) r' l' h'
    · exact fun B' ρ' κ' H' δ' σ' w g' s' l' h' => im1.bk _ _ _ _ _ _ w (G.zone g'.plain g'.z.1) s'.clr l' h'
    · exact fun B' ρ' κ' H' δ' σ' w g' s' l' h' => im1.ct _ _ _ _ _ _ w (G.zone g'.plain g'.z.1) s'.clr l' h'
  refine ⟨A.n, _, _, exTry X.N.length i exm fs Eo A, hx, ?_⟩
  refine (hb (lenW X.N.length (wAs X.K c i _ Wout D)) [] (xeAny X) A.n (fun B' ρ' H' => K.Z B' ρ' H' ∧ UpN A.n B ρ H B' ρ' H') (fun _ _ _ _ _ _ w z => ⟨K.up _ _ _ _ _ _ (w.mono im.kn) z.1, z.2.trans w⟩) (exTry X.N.length i exm fs Eo A) (takes_any hs hf) passes_any hx).sd B ρ δ κ σ H A D s
      (G.zone (K := ⟨K.K, A.n, fun B' ρ' H' => K.Z B' ρ' H' ∧ UpN A.n B ρ H B' ρ' H', fun _ _ _ _ _ _ w z => ⟨K.up _ _ _ _ _ _ (w.mono im.kn) z.1, z.2.trans w⟩⟩) g.plain ⟨g.z, UpN.refl⟩) l h ⟨?_, ?_, ?_, ?_, Nat.le_refl _⟩
  · exact fun B' ρ' κ' H' δ' σ' w g' s' l' h' => im.nx _ _ _ _ _ _ w (G.zone g'.plain g'.z.1) s' l' h'
  · exact fun B' ρ' κ' H' a v w g' r' l' h' => im.rt _ _ _ _ _ _ w (G.zone g'.plain g'.z.1) r' l' h'
  · exact fun B' ρ' κ' H' δ' σ' w g' s' l' h' => im.bk _ _ _ _ _ _ w (G.zone g'.plain g'.z.1) s' l' h'
  · exact fun B' ρ' κ' H' δ' σ' w g' s' l' h' => im.ct _ _ _ _ _ _ w (G.zone g'.plain g'.z.1) s' l' h'
end
end Ab
set_option Elab.async false
set_option linter.all false
set_option maxRecDepth 100000
set_option maxHeartbeats 4000000
/-! Ab19: within an except suite: fields, isinstance, a call that is given the error -/
namespace Ab
open PySem L2
open PyProof.Rows (envOfC)
variable {K : Frg} {B B' B2 H H' H2 : Hp} {ρ ρ' ρ2 : List Addr} {κ κ' : AK} {δ : AD} {σ : L2.St} {p : Addr} {k : Nat} {v x y z : V} {a b c : AV}
variable {X : Cx} {e e2 o : Expr} {t u : TE} {f f2 : AE} {pos : Pos} {W : WX}
theorem dpks_lookup {K : PySem.W.Frag} {fs : List (Str × PyData)} {ws : List (Str × V)} (h : DpKs K B fs ws) {n : Str} {d : PyData} (e : fs.lookup n = some d) : ∃ w, ws.lookup n = some w ∧ Dp K B w d := by
  induction h with
  | nil => cases e
  | @cons p q ps qs h1 _ ih =>
    obtain ⟨s, d'⟩ := p
    obtain ⟨s', w'⟩ := q
    obtain ⟨e1, r⟩ := h1
    have e1 : s = s' := e1
    subst e1
    by_cases hs : n = s
    · subst hs
      have : ((n, d') :: ps).lookup n = some d' := by simp [List.lookup]
      rw [this] at e
      cases e
      exact ⟨w', by simp [List.lookup], r⟩
    · have hb : (n == s) = false := by simpa using hs
      have e2 : ((s, d') :: ps).lookup n = ps.lookup n := by simp [List.lookup, hb]
      rw [e2] at e
      obtain ⟨w, h3, h4⟩ := ih e
      exact ⟨w, by simpa [List.lookup, hb] using h3, h4⟩
/-! ### e.f -/
def isEx (a : Addr) : AV → Prop
  | .r u => u = .ref a
  | _ => False
theorem isEx_ref {a : Addr} {b : AV} {v : V} {B : Hp} {ρ : List Addr} {K : PySem.W.Frag} (h : isEx a b) (r : Rep K B ρ b v) : v = .ref a := by
  cases b with
  | r u => exact (show v = u from r).trans h
  | d x => exact h.elim
  | c k => exact h.elim
def aXf (f : Str) (a : Addr) (xa : AX) (nms : List Str) (fe : AE) : AE := fun δ κ R => xa.cls ∈ nms ∧ ∃ x, xa.fs.lookup f = some x ∧ fe δ κ fun v κ1 => isEx a v ∧ R (.d x) κ1
def tXfG (K : PySem.W.Frag) (a : Addr) (cls : Value) (d : Option Addr) (f : Str) (te : TE) : TE := fun σ H Q => ∃ C, (XfC K C ∧ PySem.W.findIn K (.ref C) f = some none) ∧ tXf a cls d C f te σ H Q
section
variable {ad : Addr} {oe : Obj} {cls : Value} {d : Option Addr} {pn : List (Addr × Obj)} {xa : AX} {nms : List Str} {fld : Str}
/-- what the top says of an error's field -/
def FldOk (K : PySem.W.Frag) (nms : List Str) (fld : Str) : Prop := ∀ nm ∈ nms, ∃ C, PySem.W.nsIn K mainGlobals nm = some (some (.ref C)) ∧ XfC K C ∧ PySem.W.findIn K (.ref C) fld = some none
theorem ea_xf (hz : Zc cls d oe) (hd : ∃ vs, oe.data = .fields vs) (hr : ∀ B ρ H, K.Z B ρ H → RepX X.K B xa cls d) (tab : FldOk X.K nms fld) (h : PEa K (X.suite ad ((ad, oe) :: pn)) e t f)
    (hb : attributeBase e fld (X.suite ad ((ad, oe) :: pn)).env (eval e (X.suite ad ((ad, oe) :: pn)).env) = eval e (X.suite ad ((ad, oe) :: pn)).env := by rfl) (hK : X.K = K.K := by rfl) :
    PEa K (X.suite ad ((ad, oe) :: pn)) (.Attribute e fld pos) (tXfG X.K ad cls d fld t) (aXf fld ad xa nms f) := by
  refine ⟨⟨fun pins s σ H Q I ⟨C, ⟨T, hno⟩, q⟩ => (pe_xf T hno hz hd h.pe hb).run pins s σ H Q I q⟩, fun B ρ δ κ σ H R Q s g hh q => ?_⟩
  obtain ⟨hm, xd, hl, hh⟩ := hh
  obtain ⟨C, ns, T, hno⟩ := tab _ hm
  have rx := hr _ _ _ g.z
  have ec : cls = .ref C := by
    have := rx.1.symm.trans ns
    cases this; rfl
  refine ⟨C, ⟨T, hno⟩, h.sd B ρ δ κ σ H _ _ s g hh fun B1 ρ1 κ1 H1 av vv w1 g1 r1 h1 => ⟨isEx_ref h1.1 r1, ec, ?_⟩⟩
  rcases (hr _ _ _ g1.z).2 with ⟨_, e0⟩ | ⟨dd, ws, ed, eb, rd⟩
  · rw [e0] at hl; cases hl
  · obtain ⟨w, e1, e2⟩ := dpks_lookup rd hl
    exact ⟨dd, ws, w, ed, g1.ex _ _ eb, e1, q _ _ _ _ _ _ w1 g1 (by rw [hK] at e2; exact e2) h1.2⟩
end
/-! ### isinstance(e, C) -/
/-- an error that is held, at ad -/
def Pinned (X : Cx) (ad : Addr) (cls : Value) (d : Option Addr) : Prop := ∃ oe, (ad, oe) ∈ X.pn ∧ Zc cls d oe ∧ ∃ vs, oe.data = .fields vs
def exKind (x y : Str) : Bool := decide (x = y) || decide (y = "ValueError") || decide (y = "PactError")
/-- the classes xs of errors before the class cv, called y -/
def KindOk (K : PySem.W.Frag) (xs : List Str) (y : Str) (cv : Value) : Prop := ∀ x ∈ xs, ∃ D, PySem.W.nsIn K mainGlobals x = some (some (.ref D)) ∧ ExcC K D ∧ PySem.W.kitOne K (.ref D) cv = some (exKind x y)
def rIsX (K : PySem.W.Frag) (cls : Value) (d : Option Addr) (a : Addr) : List V → Hp → VK → Prop := fun xs H Q => ∃ (c : V) (cv : Value) (b : Bool) (D : Addr), xs = [.ref a, c] ∧ (∀ u, RelV c u → u = cv) ∧ cls = .ref D ∧ ExcC K D ∧ (d = none ∨ ∃ dd fs, d = some dd ∧ H dd = some (.xd fs)) ∧ PySem.W.kitOne K cls cv = some b ∧ Q (.bl b) H
theorem call_isX {ad : Addr} {cls : Value} {d : Option Addr} (hp : Pinned X ad cls d) : CallR X (.builtin "isinstance") (rIsX X.K cls d ad) := by
  intro pins s σ H xs us Q I r h
  obtain ⟨c, cv, b, D, rfl, hcv, ec, C, hd, e, q⟩ := h
  obtain ⟨oe, hm, hz, vs, hv⟩ := hp
  cases r with
  | cons rx rr =>
    cases rr with
    | cons rt rr =>
      cases rr
      cases rx
      have e2 := hcv _ rt
      subst e2
      subst ec
      obtain ⟨hget, _⟩ := I.pin (ad, oe) (List.mem_append_left _ hm)
      obtain ⟨cd, hcl, _⟩ := PySem.W.any_some C.hd
      have hcl' : (PySem.W.clsIn X.K D).isSome = true := by rw [hcl]; rfl
      have J : ∃ od, PySem.W.InstAt s.heap ad oe D od := by
        rcases hd with hd | ⟨dd, fs, ed, eH⟩
        · obtain ⟨oc, od, oda, osl⟩ := oe
          obtain ⟨h1, h2⟩ := hz
          dsimp only at h1 h2 hv
          subst h1 h2 hv hd
          exact ⟨none, hget, rfl, rfl, trivial⟩
        · have hx : ObjOk X.prog X.w H s.heap dd (.xd fs) := I.hok dd _ eH
          obtain ⟨mA, hns, hr⟩ := hx
          obtain ⟨od, ho, hl⟩ := lookIn_ns hns
          exact ⟨some od, hget, hz.1, by unfold PySem.W.notCls; rw [hv] <;> rfl, by rw [hz.2, ed]; exact ho⟩
      obtain ⟨od, J⟩ := J
      exact PySem.W.kia_one (PySem.W.kitx_exc hcl' C.hg C.hk C.hs C.ha C.hn C.ht C.hm) I.kIn J e (fun z => nomatch z) fun tk => ⟨.bl b, H, I.kept (t' := tk) fun _ _ z => z, rfl, q⟩
def aIsX (a : Addr) (xa : AX) (xs : List Str) (y : Str) (fe : AE) : AE := fun δ κ R => xa.cls ∈ xs ∧ fe δ κ fun v κ1 => isEx a v ∧ R (.d (.bool (exKind xa.cls y))) κ1
section
variable {ad : Addr} {cls : Value} {d : Option Addr} {xa : AX} {xs : List Str} {y x : Str} {cv : Value} {c : V} {q : Pos}
theorem ea_isX (hp : Pinned X ad cls d) (hr : ∀ B ρ H, K.Z B ρ H → RepX X.K B xa cls d) (tab : KindOk X.K xs y cv) (hcv : ∀ u, RelV c u → u = cv) (he : PEa K X e t f) (hc : PE X e2 (tC c)) (hg : Gl X "isinstance") (hm : X.mg "isinstance" = none) (hv : bootBuiltins "isinstance" = some (.builtin "isinstance"))
    (hst : starEach [e, e2] X.env = (false, eval e X.env) :: starEach [e2] X.env := by rfl) (hpl : (backTo pos (starEach [e2] X.env)).any (·.1) = false := by rfl) (hst2 : starEach [e2] X.env = (false, eval e2 X.env) :: starEach [] X.env := by rfl) (hK : X.K = K.K := by rfl) :
    PEa K X (.Call (.Name "isinstance" q) [e, e2] [] pos) (tCB (rIsX K.K cls d ad) (tCons t (tCons (tC c) tNil))) (aIsX ad xa xs y f) := by
  rw [← hK]
  refine ⟨pe_callB (call_isX hp) hg hm hv (pa_cons he.pe (pa_cons hc pa_nil (hs := hst2)) (hs := hst)) (by decide) (by decide) hst hpl, fun B ρ δ κ σ H R Q s g hh q => ?_⟩
  obtain ⟨hmem, hh⟩ := hh
  have rx := hr _ _ _ g.z
  obtain ⟨D, ns, EC, kt⟩ := tab _ hmem
  have ec : cls = .ref D := by
    have := rx.1.symm.trans ns
    cases this; rfl
  refine he.sd B ρ δ κ σ H _ _ s g hh fun B1 ρ1 κ1 H1 av vv w1 g1 r1 h1 => ?_
  refine ⟨c, cv, _, D, by rw [isEx_ref h1.1 r1], hcv, ec, EC, ?_, by rw [ec]; exact kt, q _ _ _ _ _ _ w1 g1 (rp_bl _) h1.2⟩
  rcases (hr _ _ _ g1.z).2 with ⟨e0, _⟩ | ⟨dd, ws, ed, eb, rd⟩
  · exact .inl e0
  · exact .inr ⟨dd, ws, ed, g1.ex _ _ eb⟩
/-- a class of the top as a value -/
theorem pe_cls {C : Addr} {p : Pos} (hg : Gl X x) (hm : X.mg x = some (.ref C)) (hdb : (x == ("__debug__" : Str)) = false := by decide) : PE X (.Name x p) (tC (.ref C)) := pe_glob hg hm rfl hdb
end
/-! ### == of what is flat -/
def aEqFB (n : Bool → Bool) : AO := fun a b κ R => match a, b with
  | .d (.int i), .d (.int j) => R (.d (.bool (n (decide (i = j))))) κ
  | .d (.str i), .d (.str j) => R (.d (.bool (n (decide (i = j))))) κ
  | .d (.bool i), .d (.bool j) => R (.d (.bool (n (decide (i = j))))) κ
  | _, _ => False
theorem oa_eqF : OpA K X (compareOp .Eq) rEq (aEqFB id) := by
  refine ⟨op_eq, ?_⟩
  intro B ρ κ H x y a b R Q g rx ry h q
  have h : aEqFB _ a b κ R := h
  unfold aEqFB at h
  split at h
  · cases rx.int; cases ry.int
    refine ⟨rfl, ?_⟩
    rw [dec_inj V.int fun _ _ e => V.int.inj e]
    exact q.at0 g (rp_bl _) h
  · cases rx.str; cases ry.str
    refine ⟨rfl, ?_⟩
    rw [dec_inj V.str fun _ _ e => V.str.inj e]
    exact q.at0 g (rp_bl _) h
  · cases rx.bool; cases ry.bool
    refine ⟨rfl, ?_⟩
    rw [dec_inj V.bl fun _ _ e => V.bl.inj e]
    exact q.at0 g (rp_bl _) h
  · exact h.elim
/-! ### a def that is given the error -/
open L2H in
/-- the error x, at a, as the only argument -/
def spP (K : PySem.W.Frag) (a : Addr) (xa : AX) (cls : Value) (d : Option Addr) : Sp := fun vs H Q E => ∃ B ρ κ, G (Frg.of K) B ρ κ H ∧ RepX K B xa cls d ∧ vs = [.ref a] ∧ ∀ B' ρ' H', Up B ρ H B' ρ' H' → G (Frg.of K) B' ρ' κ H' → Q (.str xa.cls) H'
structure FnP (P : Program) (w : World) (K : PySem.W.Frag) (mg : Str → Option Value) (base : Heap) (k : Nat) (fa : Addr) (fd : FuncData) (ps : List Str) (xs : List Str) : Prop where
  len : ps.length = 1
  run : ∀ (A : Around) (outer : List Env) (s : Shared) (H : Hp) (args : Args) (us : List Value) (vs : List V) (Q : VK) (p : Addr × Obj) (xa : AX) (cls : Value) (d : Option Addr), L2H.RoomH k A → L2H.PinOk outer H s p → Env0 P w K mg base A outer s H → BindsTo s fd args (ps.zip us) → Vals vs us →
    Zc cls d p.2 → (∃ ys, p.2.data = .fields ys) → xa.cls ∈ xs → spP K p.1 xa cls d vs H Q E0 → codeAny (model P w) A (.call (.ref fa) args) (CR CX0 outer P w H s Q E0) s
section
open PyProof.Rows
variable {P : Program} {w : World} {K : PySem.W.Frag} {mg : Str → Option Value} {base : Heap}
theorem fnp_ok {x qual : Str} {st : Stmt} {fa : Addr} {fd : FuncData} {N ps xs : List Str} {l : Nat} {f : Addr → AX → AS} (Fu : Fun K x qual st fa fd) (Sc : FnScope N ps (defScope st)) (h1 : ps.length = 1)
    (hb : ∀ (cdv : Value) (A : Around) (outer : List Env) (s : Shared) (H : Hp) (p : Addr × Obj) (xa : AX) (cls : Value) (d : Option Addr), L2H.RoomH l (A.deeper (envOfC qual (defScope st) s.heap.objs.size fa cdv)) → Zc cls d p.2 → (∃ ys, p.2.data = .fields ys) →
      ∀ (n : Nat) (Z : Hp → List Addr → Hp → Prop) (up : ∀ B ρ H B' ρ' H', UpN n B ρ H B' ρ' H' → Z B ρ H → Z B' ρ' H'), (∀ B ρ H, Z B ρ H → RepX K B xa cls d) → ∃ t, PSsa ⟨K, n, Z, up⟩ (L2H.cxH CX0 P w K mg base N qual (defScope st) fa cdv A outer s H E0 p) (defBody st) t (f p.1 xa))
    (hF : ∀ a xa κ R, xa.cls ∈ xs → R (.d (.str xa.cls)) κ → f a xa (endsA K κ.length R) (startA N [.r (.ref a)]) κ) : FnP P w K mg base (l + 1) fa fd ps xs := by
  obtain ⟨oc, od, kV, doc, pm, an, cdv, ct, osl, rfl, lk, hcd⟩ := Fu.ex
  refine ⟨h1, fun A outer s H args us vs Q p xa cls d hr hpin e0 hbs r hz hd hm hsp => ?_⟩
  obtain ⟨B, ρ, κ, g, rx, ev, q⟩ := hsp
  subst ev
  have hl : ([V.ref p.1] : List V).length = ps.length := by rw [h1]; rfl
  have inK : K.In s.heap := e0.mod.kin.keeps fun b ob z => (e0.bs b ob z).1
  have nolim : s.heap.NoLimit := e0.mod.nolimit.keeps fun b ob z => (e0.bs b ob z).1
  refine codeAny_call_function hr.depth (inK _ _ lk) rfl Sc.co Sc.gen rfl (PySem.W.codeRec_of inK hcd) (hbs _ _ _ _ ?_)
  refine wpAny_newFunctionEnv_cells Sc.kind (fun ⟨n, v⟩ hy => (Sc.par n (List.of_mem_zip hy).1).imp id fun z => ⟨z, PySem.W.cellsFrom_some _ _ _ (.inl z)⟩) fun env he s1 x1 => ?_
  subst he
  refine ⟨nolim.keeps x1.toInCall.keep, codeAny_func ?_⟩
  obtain ⟨t, ht⟩ := hb cdv A outer s H p xa cls d (hr.deeper _) hz hd κ.length (fun B' ρ' H' => UpN κ.length B ρ H B' ρ' H' ∧ RepX K B' xa cls d) (fun _ _ _ _ _ _ w z => ⟨z.1.trans w, z.2.up w.s⟩) (fun _ _ _ z => z.2)
  have I1 := L2H.inv_startH (CX := CX0) (P := P) (w := w) (K := K) (mg := mg) (base := base) (E := E0) Sc hpin e0 hl r x1
  have gz : G ⟨K, κ.length, fun B' ρ' H' => UpN κ.length B ρ H B' ρ' H' ∧ RepX K B' xa cls d, fun _ _ _ _ _ _ w z => ⟨z.1.trans w, z.2.up w.s⟩⟩ B ρ κ H := ⟨g.ex, g.len, g.inj, g.at', UpN.refl, rx⟩
  have fin : ∀ B' ρ' κ' H' a v, UpN κ.length B ρ H B' ρ' H' → G (Frg.of K) B' ρ' κ' H' → Rep K B' ρ' a v → (∃ a' κ2, GhR K κ.length a κ' a' κ2 ∧ (a' = .d (.str xa.cls) ∧ κ2 = κ)) → Q v H' := fun B' ρ' κ' H' a v w g' ra ⟨a', κ2, gh, e1, e2⟩ => by
    subst e1 e2
    obtain ⟨B2, ρ2, w2, r2, g2⟩ := gh.2 B' ρ' H' v g' ra
    cases r2.str
    exact q _ _ _ ((w.trans w2).full (by rw [g.len]; exact Nat.le_refl _)) g2
  have run := ht.sd B ρ (startA N [.r (.ref p.1)]) κ (L2.start N [.ref p.1]) H (endsA K κ.length fun a κ2 => a = .d (.str xa.cls) ∧ κ2 = κ) { nx := fun _ H' => Q .non H', rt := Q } (s_start (.cons rfl .nil)) gz (Nat.le_refl _) (hF _ _ _ _ hm ⟨rfl, rfl⟩)
    ⟨fun B' ρ' κ' H' δ' σ' w g' s' l h' => fin _ _ _ _ _ _ w g'.plain rp_non h', fun B' ρ' κ' H' a v w g' ra l h' => fin _ _ _ _ _ _ w g'.plain ra h', fun _ _ _ _ _ _ _ _ _ _ h' => h'.elim, fun _ _ _ _ _ _ _ _ _ _ h' => h'.elim, Nat.le_refl _⟩
  refine wpAny_mono (ht.ps.run [] s1 _ H _ I1 run) (fun fl s' hs => ?_) fun _ _ z => z
  cases fl with
  | ret u =>
    obtain ⟨v, _, H', J, rv, qv⟩ := hs
    exact ⟨v, H', J.os, J.bare, J.base, J.hok, rv, qv⟩
  | next =>
    obtain ⟨_, H', J, qv⟩ := hs
    exact ⟨V.non, H', J.os, J.bare, J.base, J.hok, rfl, qv⟩
  | brk =>
    obtain ⟨_, _, _, z⟩ := hs
    exact z.elim
  | cont =>
    obtain ⟨_, _, _, z⟩ := hs
    exact z.elim
end
/-! f(e) in the suite -/
def aCallP (a : Addr) (xa : AX) (xs : List Str) (fe : AE) : AE := fun δ κ R => xa.cls ∈ xs ∧ fe δ κ fun v κ1 => isEx a v ∧ R (.d (.str xa.cls)) κ1
section
variable {ad : Addr} {cls : Value} {d : Option Addr} {oe : Obj} {pn : List (Addr × Obj)} {xa : AX} {xs : List Str} {x : Str} {q : Pos} {l : Nat} {fa : Addr} {fd : FuncData} {ps : List Str}
theorem ea_callP (hz : Zc cls d oe) (hd : ∃ vs, oe.data = .fields vs) (hrx : ∀ B ρ H, K.Z B ρ H → RepX X.K B xa cls d) (Fo : FnP X.prog X.w X.K X.mg X.base l fa fd ps xs) (hr : Room l X.A)
    (hg : Gl X x) (hm : X.mg x = some (.ref fa)) (hk : PySem.W.keepIn X.K (.ref fa) = true) (hb : Binds X.K fd ps []) (he : PEa K (X.suite ad ((ad, oe) :: pn)) e t f) (hdb : (x == ("__debug__" : Str)) = false := by decide)
    (hst : starEach [e] (X.suite ad ((ad, oe) :: pn)).env = (false, eval e (X.suite ad ((ad, oe) :: pn)).env) :: starEach [] (X.suite ad ((ad, oe) :: pn)).env := by rfl) (hpl : (backTo pos (starEach [] (X.suite ad ((ad, oe) :: pn)).env)).any (·.1) = false := by rfl) (hK : X.K = K.K := by rfl) :
    PEa K (X.suite ad ((ad, oe) :: pn)) (.Call (.Name x q) [e] [] pos) (fun σ H Q => ∃ xa : AX, xa.cls ∈ xs ∧ tCons t tNil σ H fun vs H1 => spP X.K ad xa cls d vs H1 Q E0) (aCallP ad xa xs f) := by
  refine ⟨⟨fun pins s σ H Q I ⟨xa, hmem, h⟩ => ?_⟩, fun B ρ δ κ σ H R Q s g hh q => ?_⟩
  · refine wpAny_Call_Name_kw (ld_glob I hg hm ?_ hdb)
    refine PySem.W.callWith_K (h₀ := X.base) I.ok.mod.kin hk (thn ((pa_cons he.pe pa_nil (hs := hst)).run pos pins s σ H _ I h) fun us s1 ⟨vs, H1, I1, r1, q1⟩ => ⟨I1.kIn, ?_⟩) hst hpl
    have lu : us.length = ps.length := by
      rw [← r1.length, Fo.len]
      obtain ⟨_, _, _, _, _, ev, _⟩ := q1
      rw [ev]; rfl
    have b2 := hb s1 us I1.kIn (by rw [List.append_nil]; exact lu)
    rw [List.append_nil] at b2
    have P1 := I1.pin (ad, oe) (List.mem_append_left _ List.mem_cons_self)
    refine wpAny_call (codeAny_mono (Fo.run (X.A.mark (some (.ref ad))) X.stack s1 H1 ⟨us, []⟩ us vs Q (ad, oe) xa cls d (L2H.roomH_of hr |> fun z => ⟨z.dp, z.un⟩) ⟨P1.1, P1.2.1, fun hm => (List.mem_cons.mp (I1.stkSub ad hm)).elim P1.2.2.1 P1.2.2.2.1, P1.2.2.2.2⟩ I1.env0 b2 r1 hz hd hmem q1) fun rr s' hq => ?_)
    cases rr with
    | error _ => exact False.elim hq
    | ok fl =>
      cases fl with
      | ret u => exact I1.after hq
      | next => exact False.elim hq
      | brk => exact False.elim hq
      | cont => exact False.elim hq
  · obtain ⟨hmem, hh⟩ := hh
    refine ⟨xa, hmem, he.sd B ρ δ κ σ H _ _ s g hh fun B1 ρ1 κ1 H1 av vv w1 g1 r1 h1 => ?_⟩
    refine ⟨B1, ρ1, κ1, by rw [hK]; exact g1.plain, hrx _ _ _ g1.z, by rw [isEx_ref h1.1 r1], fun B' ρ' H' w2 g2 => q _ _ _ _ _ _ (w1.trans w2) (G.zone (by rw [hK] at g2; exact g2) (K.up _ _ _ _ _ _ w2.n g1.z)) (rp_str _) h1.2⟩
end
end Ab
namespace Ab
open PySem L2
variable {K : Frg} {X : Cx} {W : WX}
theorem takes_none : Takes X (fun _ _ _ _ => False) := fun u s' ⟨_, _, _, _, _, _, _, _, _, _, _, _, _, _, _, _, w⟩ => w.elim
theorem hx_none : HX K (fun _ _ => False) W := fun _ _ _ _ _ _ _ _ h => h.elim
/-! ### what the top says of errors -/
section
variable {K : PySem.W.Frag} {nm x y fld : Str} {C D fI : Addr} {xs : List Str} {cv : Value} {b : Bool}
structure ErrC (K : PySem.W.Frag) (nm : Str) (C : Addr) : Prop where
  ns : PySem.W.nsIn K mainGlobals nm = some (some (.ref C))
  ox : OexC K C
  xc : ExcC K C
  slf : PySem.W.subIn K (.ref C) (.ref C) = some true
theorem ErrC.f (h : ErrC K nm C) : ExF K nm C := ⟨h.ns, h.ox⟩
theorem errC_of {n0 qn : Str} {N : Addr} {bs bm : List Value} {sn : List Str} {sb : List Value} {ab : Bool} {col : Option Bool} {dd : Option Addr} {k0 k1 k2 k3 k5 : Option Value} (h1 : PySem.W.nsIn K mainGlobals nm = some (some (.ref C)))
    (h2 : K.lookup C = some (excClassObj n0 qn C N bs bm true sn sb ab col dd k0 k1 k2 k3 k5 "ValueError.__new__")) (h3 : PySem.HandSPX.refsVE bm = true) (h4 : PySem.W.findIn K (.ref C) "__setattr__" = some (some (.builtin "object.__setattr__")))
    (h5 : PySem.W.subIn K (.ref C) (.type "BaseException") = some true) (h6 : PySem.W.typeIn K (.ref C) = some (.type "type")) (h7 : PySem.W.keepIn K (.ref C) = true) (h8 : PySem.W.findIn K (.ref C) "__getattribute__" = some (some (.builtin "BaseException.__getattribute__")))
    (h9 : PySem.W.findIn K (.ref C) "__getattr__" = some none) (h10 : PySem.W.hasDictIn K C = true) (h11 : PySem.W.findIn K (.ref C) "__class__" = some (some (.builtin "object.__class__"))) (h12 : PySem.W.specialIn K (.builtin "object.__class__") "__get__" = some (some (.builtin "getset_descriptor.__get__")))
    (h13 : PySem.W.takesIn K (.builtin "object.__class__") = some true) (h14 : PySem.W.mroIn K C (.type "object") = some true) (h15 : PySem.W.subIn K (.ref C) (.ref C) = some true) : ErrC K nm C :=
  ⟨h1, ⟨⟨_, _, _, _, _, _, _, _, _, _, _, _, _, _, _, h2, h3⟩, h4, h5, h6, h7⟩, ⟨h8, h9, h5, h10, h11, h12, h13, h14⟩, h15⟩
/-- a class that is asked for -/
structure TgtC (K : PySem.W.Frag) (C : Addr) : Prop where
  ty : PySem.W.typeIn K (.ref C) = some (.type "type")
  hd : PySem.W.hasDictIn K C = true
  bx : PySem.W.subIn K (.ref C) (.type "BaseException") = some true
theorem exm_of (T : TgtC K C) (h : PySem.W.subIn K (.ref D) (.ref C) = some b) : PySem.W.exmOne K (.ref D) (.ref C) = some b := PySem.W.exm_ref T.bx T.hd T.ty h
theorem kit_of (E : ErrC K nm D) (T : TgtC K C) (h : PySem.W.subIn K (.ref D) (.ref C) = some b) : PySem.W.kitOne K (.ref D) (.ref C) = some b := by
  obtain ⟨cd, hc, _⟩ := PySem.W.any_some T.hd
  unfold PySem.W.kitOne
  by_cases e : D = C
  · subst e
    rw [E.slf] at h
    cases h
    rw [if_pos (beq_self_eq_true _)]
  · rw [if_neg (show ¬ (Value.ref D == Value.ref C) = true from fun z => e (Value.ref.inj (beq_iff_eq.mp z)))]
    show (if ((PySem.W.clsIn K C).isSome && PySem.W.typeIn K (.ref C) == some (.type "type")) = true then PySem.W.subIn K (.ref D) (.ref C) else none) = _
    rw [if_pos (by rw [hc, T.ty]; rfl)]
    exact h
theorem kit_VE (h : PySem.W.subIn K (.ref D) (.type "ValueError") = some true) : PySem.W.kitOne K (.ref D) (.type "ValueError") = some true := by
  unfold PySem.W.kitOne
  rw [if_neg (show ¬ (Value.ref D == Value.type "ValueError") = true from fun z => Value.noConfusion (beq_iff_eq.mp z))]
  show (if PySem.W.kitMeta "ValueError" = true then _ else none) = _
  rw [if_pos (by decide +kernel)]
  exact h
theorem KindOk.nil : KindOk K [] y cv := fun x h => absurd h (List.not_mem_nil)
theorem KindOk.cons (E : ErrC K x D) (h : PySem.W.kitOne K (.ref D) cv = some b) (hb : exKind x y = b) (t : KindOk K xs y cv) : KindOk K (x :: xs) y cv := fun z hz => by
  rcases List.mem_cons.mp hz with e | hz
  · subst e; exact ⟨D, E.ns, E.xc, by rw [hb]; exact h⟩
  · exact t z hz
theorem FldOk.nil : FldOk K [] fld := fun x h => absurd h (List.not_mem_nil)
theorem FldOk.cons (E : ErrC K x D) (h : PySem.W.findIn K (.ref D) fld = some none) (t : FldOk K xs fld) : FldOk K (x :: xs) fld := fun z hz => by
  rcases List.mem_cons.mp hz with e | hz
  · subst e; exact ⟨D, E.ns, ⟨E.xc.hg, E.xc.hk, E.xc.hs, E.xc.hd⟩, h⟩
  · exact t z hz
/-- which errors a clause takes -/
def exmOf (xs : List Str) (y : Str) : Str → Option Bool := fun x => if x ∈ xs then some (exKind x y) else none
def ExmOk (K : PySem.W.Frag) (xs : List Str) (y : Str) (cv : Value) : Prop := ∀ x ∈ xs, ∃ D, PySem.W.nsIn K mainGlobals x = some (some (.ref D)) ∧ PySem.W.exmOne K (.ref D) cv = some (exKind x y)
theorem ExmOk.nil : ExmOk K [] y cv := fun x h => absurd h (List.not_mem_nil)
theorem ExmOk.cons (E : ErrC K x D) (h : PySem.W.exmOne K (.ref D) cv = some b) (hb : exKind x y = b) (t : ExmOk K xs y cv) : ExmOk K (x :: xs) y cv := fun z hz => by
  rcases List.mem_cons.mp hz with e | hz
  · subst e; exact ⟨D, E.ns, by rw [hb]; exact h⟩
  · exact t z hz
theorem ExmOk.m (h : ExmOk K xs y cv) : ∀ nm cls b, exmOf xs y nm = some b → PySem.W.nsIn K mainGlobals nm = some (some cls) → PySem.W.exmOne K cls cv = some b := fun nm cls b e n => by
  unfold exmOf at e
  split at e
  · rename_i hm
    obtain ⟨D, n2, r⟩ := h nm hm
    rw [n] at n2
    cases n2
    rw [← Option.some.inj e]
    exact r
  · cases e
end
end Ab
set_option Elab.async false
set_option linter.all false
set_option maxRecDepth 100000
set_option maxHeartbeats 4000000
/-! Com: the helpers that the laws share -/
namespace Com
open PySem L2 Ab
variable {K : PySem.W.Frag}
/-! ### the source of numbers -/
def srcK (ns : List Int) (i x y : Int) : Cell := .ld [.list (ns.map .int), .int i, .int x, .int y]
def isSrc (c : Cell) : Prop := ∃ ns i x y, c = srcK ns i x y ∧ 0 ≤ i
theorem isSrc.cl {c : Cell} (h : isSrc c) : clC c = true ∧ liveC c = true := by
  obtain ⟨ns, i, x, y, rfl, _⟩ := h
  exact ⟨rfl, rfl⟩
def F__law_source : FSp := fun as κ R _ => ∃ ns : List Int, as = [.d (.list (ns.map .int))] ∧ κ = [] ∧ ∀ s, isSrc s → R (.c 0) [s]
abbrev N__law_source : List Str := ["script"]
def a__law_source (K : PySem.W.Frag) : AS :=
  (aRet (aLst (aCons (aCB (aListOf false) (aCons (aVar 0) aNil)) (aCons (aC (.d (.int 0))) (aCons (aC (.d (.int 0))) (aCons (aC (.d (.int 7))) aNil))))))
theorem len__law_source : ∀ as κ R E', F__law_source as κ R E' → as.length = (["script"] : List Str).length := by
  rintro as κ R E' ⟨ns, rfl, _⟩; rfl
theorem rd__law_source : ∀ as κ R E', F__law_source as κ R E' → a__law_source K (endsA K κ.length R) (startA N__law_source as) κ := by
  rintro as κ R E' ⟨ns, rfl, rfl, h⟩
  exact ⟨(show 4 ≤ sizeLine by decide), _, _, GhR.refl (Nat.zero_le _), h _ ⟨ns, 0, 0, 7, rfl, by decide⟩⟩
def F__law_pick : FSp := fun as κ R _ => ∃ s m, as = [.c 0, .d (.int m)] ∧ κ = [s] ∧ isSrc s ∧ 0 < m ∧ m < 1000000 ∧ ∀ v s', isSrc s' → 0 ≤ v → v < m → R (.d (.int v)) [s']
abbrev N__law_pick : List Str := ["source", "many", "cell", "picked", "mixed"]
def a__law_pick (K : PySem.W.Frag) : AS :=
  (aCut (aIfS (aAnd (aB (aOp aEq (aOp aIx (aVar 0) (aC (.d (.int 2)))) (aC (.d (.int 0))))) (aB (aOp aLt (aOp aIx (aVar 0) (aC (.d (.int 1)))) (aCB aLen (aCons (aOp aIx (aVar 0) (aC (.d (.int 0)))) aNil))))) (aSeq (aSet 2 (aOp aIx (aOp aIx (aVar 0) (aC (.d (.int 0)))) (aOp aIx (aVar 0) (aC (.d (.int 1)))))) (aSeq (aAsg (aOp aAdd (aOp aIx (aVar 0) (aC (.d (.int 1)))) (aC (.d (.int 1)))) (aGSub (aVar 0) (aC (.d (.int 1))) aSetL)) (aIfS (aB (aOp aGt (aVar 2) (aOp aPow (aC (.d (.int 10))) (aC (.d (.int 18)))))) (aAsg (aOp aSub (aVar 2) (aOp aPow (aC (.d (.int 10))) (aC (.d (.int 18))))) (aGSub (aVar 0) (aC (.d (.int 2))) aSetL)) (aAsg (aOp aMod (aCB aIntOf (aCons (aOp aAdd (aOp aMul (aOp aIx (aVar 0) (aC (.d (.int 3)))) (aC (.d (.int 16807)))) (aVar 2)) aNil)) (aC (.d (.int 2147483647)))) (aGSub (aVar 0) (aC (.d (.int 3))) aSetL))))) aNext) (aSeq (aIfS (aB (aOp aGt (aOp aIx (aVar 0) (aC (.d (.int 2)))) (aC (.d (.int 0))))) (aSeq (aSet 3 (aOp aMod (aCB aIntOf (aCons (aOp aIx (aVar 0) (aC (.d (.int 2)))) aNil)) (aVar 1))) (aSeq (aAsg (aOp aDiv (aOp aIx (aVar 0) (aC (.d (.int 2)))) (aVar 1)) (aGSub (aVar 0) (aC (.d (.int 2))) aSetL)) (aRet (aVar 3)))) aNext) (aSeq (aAsg (aOp aMod (aCB aIntOf (aCons (aOp aAdd (aOp aMul (aOp aIx (aVar 0) (aC (.d (.int 3)))) (aC (.d (.int 48271)))) (aC (.d (.int 12345)))) aNil)) (aC (.d (.int 2147483647)))) (aGSub (aVar 0) (aC (.d (.int 3))) aSetL)) (aSeq (aSet 4 (aOp aMul (aOp aMul (aOp aAdd (aOp aMod (aCB aIntOf (aCons (aOp aIx (aVar 0) (aC (.d (.int 3)))) aNil)) (aC (.d (.int 46337)))) (aC (.d (.int 1)))) (aOp aAdd (aOp aDiv (aOp aIx (aVar 0) (aC (.d (.int 3)))) (aC (.d (.int 46337)))) (aC (.d (.int 7))))) (aC (.d (.int 16807))))) (aRet (aOp aMod (aOp aDiv (aOp aMod (aCB aIntOf (aCons (aVar 4) aNil)) (aC (.d (.int 2147483629)))) (aC (.d (.int 32)))) (aVar 1)))))))
theorem len__law_pick : ∀ as κ R E', F__law_pick as κ R E' → as.length = (["source", "many"] : List Str).length := by
  rintro as κ R E' ⟨s, m, rfl, _⟩; rfl
theorem at_ints {ns : List Int} {i : Int} (h0 : 0 ≤ i) (h : i < ns.length) : ∃ v, atI (ns.map PyData.int) i = some (.int v) := by
  obtain ⟨j, rfl⟩ := Int.eq_ofNat_of_zero_le h0
  have hj : j < ns.length := by omega
  exact ⟨ns[j], atI_nat (by rw [List.getElem?_map, List.getElem?_eq_getElem hj]; rfl)⟩
theorem cp18 : CPow 10 18 := ⟨by decide, by decide, by decide⟩
theorem mod_small (a : Int) : -(2 ^ 64) < a % 46337 + 1 ∧ a % 46337 + 1 < 2 ^ 64 := by omega
theorem rd__law_pick : ∀ as κ R E', F__law_pick as κ R E' → a__law_pick K (endsA K κ.length R) (startA N__law_pick as) κ := by
  rintro as κ R E' ⟨s, m, rfl, rfl, ⟨ns, i, x, y, rfl, hi⟩, h0, h1, h⟩
  have fin : ∀ v ns i x y, 0 ≤ i → 0 ≤ v → v < m → (endsA K [srcK ns i x y].length R).rt (.d (.int v)) [srcK ns i x y] := fun v ns i x y hi hv hm => ⟨_, _, GhR.refl (Nat.le_refl _), h _ _ ⟨ns, i, x, y, rfl, hi⟩ hv hm⟩
  have hd : CDiv 0 m := ⟨h0, by omega⟩
  refine ⟨fun δ κ => ∃ i x y c, δ = [some (.c 0), some (.d (.int m)), c, none, none] ∧ κ = [srcK ns i x y] ∧ 0 ≤ i, ?_, ?_⟩
  · refine ⟨_, rfl, bsel_i (fun hx => ?_) fun _ => ⟨i, x, y, _, rfl, rfl, hi⟩⟩
    refine ⟨_, rfl, _, rfl, bsel_i (fun hl => ?_) fun _ => ⟨i, x, y, _, rfl, rfl, hi⟩⟩
    have hl' : i < ns.length := by have := of_decide_eq_true hl; simpa using this
    obtain ⟨v, hv⟩ := at_ints hi hl'
    refine ⟨_, rfl, _, rfl, _, hv, _, rfl, _, rfl, cp18, bsel_i (fun hb => ?_) fun hb => ?_⟩
    · exact ⟨cp18, _, rfl, _, _, _, _, rfl, rfl, by omega⟩
    · exact ⟨_, rfl, .inr (by decide), (by decide : (0 : Int) < 2147483647), _, rfl, _, _, _, _, rfl, rfl, by omega⟩
  · rintro δ κ ⟨i, x, y, c, rfl, rfl, hi⟩ _
    refine ⟨_, rfl, bsel_i (fun hx => ?_) fun _ => ?_⟩
    · refine ⟨_, rfl, h0, _, rfl, ⟨h0, by omega⟩, _, rfl, fin _ _ _ _ _ hi (Int.emod_nonneg _ (by omega)) (Int.emod_lt_of_pos _ h0)⟩
    · exact ⟨_, rfl, .inr (by decide), (by decide : (0 : Int) < 2147483647), _, rfl, _, rfl, (by decide : (0 : Int) < 46337), _, rfl, ⟨by decide, by decide⟩, .inl (mod_small _), .inr (by decide), (by decide : (0 : Int) < 2147483629), ⟨by decide, by decide⟩, h0, fin _ _ _ _ _ hi (Int.emod_nonneg _ (by omega)) (Int.emod_lt_of_pos _ h0)⟩

theorem sel0 {s : Cell} {κr : AK} (h : isSrc s) : selK [0] (s :: κr) = some [s] := by
  show (if clC s = true then some [s] else none) = _
  rw [if_pos h.cl.1]
theorem isSrc.fz {s : Cell} {k : Nat} {d : PyData} (h : isSrc s) : isSrc (fzC k d s) := by
  obtain ⟨ns, i, x, y, rfl, hi⟩ := h; exact ⟨ns, i, x, y, rfl, hi⟩
theorem cl1_ok {s c : Cell} (h : isSrc s) : (([s, c] : AK).take 1).all (okC 1) = true := by
  obtain ⟨ns, i, x, y, rfl, _⟩ := h; rfl
theorem cl1 {s : Cell} (h : isSrc s) : ([s] : AK).all clC = true := List.all_eq_true.mpr fun c hc => by rw [List.mem_singleton.mp hc]; exact h.cl.1
theorem pick_w {s : Cell} {κr : AK} {m : Int} {E : AX → AK → Prop} {R : AR} (hs : isSrc s) (h0 : 0 < m) (h1 : m < 1000000) (k : ∀ v s', isSrc s' → 0 ≤ v → v < m → R (.d (.int v)) (s' :: κr)) : callW F__law_pick E [.c 0, .d (.int m)] (s :: κr) R :=
  callW_i ⟨[0], _, _, by decide, rfl, sel0 hs, s, m, rfl, rfl, hs, h0, h1, fun v s' hs' hv0 hv => ⟨Nat.le_refl _, cl1 hs', rfl, k v s' hs' hv0 hv⟩⟩
/-! ### signs, names -/
def low (c : Nat) : Prop := 97 ≤ c ∧ c ≤ 122
def dig (c : Nat) : Prop := 48 ≤ c ∧ c ≤ 57
def run (c : Nat) : Prop := low c ∨ dig c
instance (c : Nat) : Decidable (low c) := by unfold low; exact inferInstance
instance (c : Nat) : Decidable (dig c) := by unfold dig; exact inferInstance
instance (c : Nat) : Decidable (run c) := by unfold run; exact inferInstance
def wordsL : List Str := ["pact", "end", "choice", "both", "loop", "use"]
def isName (z : Str) : Prop := (∃ c r, tl z = c :: r ∧ low c ∧ (∀ x ∈ r, run x) ∧ r.length ≤ 11) ∧ z ∉ wordsL
abbrev alnum : Str := "abcdefghijklmnopqrstuvwxyz0123456789"
theorem alnum_len : alnum.length = 36 := by decide +kernel
theorem alnum_mem {c : Nat} : c ∈ tl alnum ↔ run c := by
  have h : tl alnum = (List.range 26).map (97 + ·) ++ (List.range 10).map (48 + ·) := by decide +kernel
  rw [h, List.mem_append, List.mem_map, List.mem_map]
  unfold run low dig
  constructor
  · rintro (⟨i, hi, rfl⟩ | ⟨i, hi, rfl⟩) <;> rw [List.mem_range] at hi <;> omega
  · rintro (h | h)
    · exact .inl ⟨c - 97, by rw [List.mem_range]; omega, by omega⟩
    · exact .inr ⟨c - 48, by rw [List.mem_range]; omega, by omega⟩
theorem alnum_low : ∀ j : Nat, j < 26 → ∀ c, (tl alnum)[j]? = some c → low c := by
  have h : tl alnum = (List.range 26).map (97 + ·) ++ (List.range 10).map (48 + ·) := by decide +kernel
  intro j hj c hc
  rw [h, List.getElem?_append_left (by simpa using hj), List.getElem?_map, List.getElem?_range hj] at hc
  simp at hc
  unfold low; omega
theorem sl100 {n : Nat} (h : n ≤ 100000) : n ≤ sizeLine := Nat.le_trans h (by decide)
theorem al_sl : alnum.length ≤ sizeLine := by rw [alnum_len]; decide
/-- blanks -/
def blankC (c : Nat) : Prop := c = 32 ∨ c = 10
def isBlank (b : Str) : Prop := (∀ c ∈ tl b, blankC c) ∧ b.length ≤ 2
def F__law_blank : FSp := fun as κ R _ => ∃ s least, as = [.c 0, .d (.bool least)] ∧ κ = [s] ∧ isSrc s ∧ ∀ b s', isSrc s' → isBlank b → (least = true → b ≠ "") → R (.d (.str b)) [s']
abbrev N__law_blank : List Str := ["source", "least", "blank"]
def a__law_blank (K : PySem.W.Frag) : AS :=
  (aSeq (aSet 2 (aOp aIx (aLstD (aCons (aC (.d (.str ""))) (aCons (aC (.d (.str ""))) (aCons (aC (.d (.str " "))) (aCons (aC (.d (.str "\n"))) (aCons (aC (.d (.str "  "))) (aCons (aC (.d (.str " \n"))) aNil))))))) (aCall F__law_pick (fun _ _ => False) (aCons (aVar 0) (aCons (aC (.d (.int 6))) aNil))))) (aSeq (aIfS (aAnd (aB (aOp aEq (aVar 2) (aC (.d (.str ""))))) (aTru (aVar 1))) (aRet (aOp aIx (aLstD (aCons (aC (.d (.str " "))) (aCons (aC (.d (.str "\n"))) aNil))) (aCall F__law_pick (fun _ _ => False) (aCons (aVar 0) (aCons (aC (.d (.int 2))) aNil))))) aNext) (aRet (aVar 2))))
theorem len__law_blank : ∀ as κ R E', F__law_blank as κ R E' → as.length = (["source", "least"] : List Str).length := by
  rintro as κ R E' ⟨s, m, rfl, _⟩; rfl
theorem blanks6 {w : PyData} (h : w ∈ ([.str "", .str "", .str " ", .str "\n", .str "  ", .str " \n"] : List PyData)) : ∃ b, w = .str b ∧ isBlank b := by
  simp only [List.mem_cons, List.mem_nil_iff, or_false] at h
  rcases h with rfl | rfl | rfl | rfl | rfl | rfl <;> refine ⟨_, rfl, ?_, ?_⟩ <;> first | decide +kernel | (unfold blankC; decide +kernel)
theorem blanks2 {w : PyData} (h : w ∈ ([.str " ", .str "\n"] : List PyData)) : ∃ b, w = .str b ∧ isBlank b ∧ b ≠ "" := by
  simp only [List.mem_cons, List.mem_nil_iff, or_false] at h
  rcases h with rfl | rfl <;> refine ⟨_, rfl, ⟨?_, ?_⟩, ?_⟩ <;> first | decide +kernel | (unfold blankC; decide +kernel)
theorem rd__law_blank : ∀ as κ R E', F__law_blank as κ R E' → a__law_blank K (endsA K κ.length R) (startA N__law_blank as) κ := by
  rintro as κ R E' ⟨s, least, rfl, rfl, hs, h⟩
  have fin : ∀ s b, isSrc s → isBlank b → (least = true → b ≠ "") → (endsA K [s].length R).rt (.d (.str b)) [s] := fun s b h1 h2 h3 => ⟨_, _, GhR.refl (Nat.le_refl _), h _ _ h1 h2 h3⟩
  refine ⟨(show 6 ≤ sizeLine by decide), ?_⟩
  refine pick_w hs (by decide) (by decide) fun v s' hs' hv0 hv => ?_
  obtain ⟨w, hw, hm, _⟩ := at_mem (xs := ([.str "", .str "", .str " ", .str "\n", .str "  ", .str " \n"] : List PyData)) hv0 hv
  obtain ⟨b, rfl, hb⟩ := blanks6 hm
  refine ⟨_, hw, bsel_i (fun he => ?_) fun he => ?_⟩
  · cases least with
    | false => exact fin _ _ hs' hb (fun z => by cases z)
    | true =>
      refine ⟨(show 2 ≤ sizeLine by decide), ?_⟩
      refine pick_w hs' (by decide) (by decide) fun v s2 hs2 hv0 hv => ?_
      obtain ⟨w, hw, hm, _⟩ := at_mem (xs := ([.str " ", .str "\n"] : List PyData)) hv0 hv
      obtain ⟨b2, rfl, hb2, hn⟩ := blanks2 hm
      exact ⟨_, hw, fin _ _ hs2 hb2 fun _ => hn⟩
  · exact fin _ _ hs' hb fun _ => of_decide_eq_false he

theorem bsel_or {c d : Bool} {S F X : Prop} (h : (c || d) = true → S) (h' : (c || d) = false → F) (k : bsel d S F → X) : bsel c (bsel true S F) X := by
  cases c with
  | true => exact h rfl
  | false => exact k (by cases d with | true => exact h rfl | false => exact h' rfl)
/-! ### a name -/
def spare (i : Nat) : Str := "q" ++ Str.ofString (toString ((i : Nat) : Int))
theorem tl_q : tl "q" = [113] := by decide +kernel
theorem tl_spare (i : Nat) : tl (spare i) = 113 :: TL.numL i := by
  unfold spare
  rw [tl_app, tl_q]
  show [113] ++ TL.tl _ = _
  rw [TL.tl_num]; rfl
theorem spare_inj {i j : Nat} (h : spare i = spare j) : i = j := by
  have e := congrArg tl h
  rw [tl_spare, tl_spare] at e
  exact TL.numL_inj (List.cons.inj e).2
theorem words_heads : ∀ w ∈ wordsL, (tl w).head? ≠ some 113 := by decide +kernel
theorem spare_name {i : Nat} (h : i ≤ 100000) : isName (spare i) := by
  refine ⟨⟨113, TL.numL i, tl_spare i, by decide, fun x hx => ?_, ?_⟩, fun hm => ?_⟩
  · have := TL.numL_digits i x hx
    right; unfold dig; simpa using this
  · have := TL.numL_len (n := i) (k := 6) (by decide) (by omega); omega
  · have := words_heads _ hm
    rw [tl_spare] at this; exact this rfl
theorem spare_free (tk : List Str) : ∃ i, i < tk.length + 1 ∧ spare i ∉ tk := by
  apply Classical.byContradiction
  intro hn
  have all : ∀ i, i < tk.length + 1 → spare i ∈ tk := fun i hi => Classical.byContradiction fun h => hn ⟨i, hi, h⟩
  have nd : ((List.range (tk.length + 1)).map spare).Nodup := by
    rw [List.Nodup, List.pairwise_map]
    exact List.nodup_range.imp fun h e => h (spare_inj e)
  have := List.Nodup.length_le_of_subset nd (l₂ := tk) (fun x hx => by
    obtain ⟨i, hi, rfl⟩ := List.mem_map.mp hx
    exact all i (List.mem_range.mp hi))
  rw [List.length_map, List.length_range] at this
  omega
theorem wordsD : ([.str "pact", .str "end", .str "choice", .str "both", .str "loop", .str "use"] : List PyData) = wordsL.map .str := rfl
def F__law_name : FSp := fun as κ R _ => ∃ (s : Cell) (tk : List Str), as = [.c 0, .d (.list (tk.map .str))] ∧ κ = [s] ∧ isSrc s ∧ tk.length ≤ 10000 ∧ ∀ z s', isSrc s' → isName z → z ∉ tk → R (.d (.str z)) [s']
abbrev N__law_name : List Str := ["source", "taken", "letters", "name", "k", "spare", "one"]
def a__law_name (K : PySem.W.Frag) : AS :=
  (aSeq (aSet 2 (aC (.d (.str "abcdefghijklmnopqrstuvwxyz0123456789")))) (aSeq (aSet 3 (aOp aIx (aVar 2) (aCall F__law_pick (fun _ _ => False) (aCons (aVar 0) (aCons (aC (.d (.int 26))) aNil))))) (aSeq (aFor (aRng1 (aCons (aOp aIx (aLstD (aCons (aC (.d (.int 0))) (aCons (aC (.d (.int 0))) (aCons (aC (.d (.int 1))) (aCons (aC (.d (.int 2))) (aCons (aCall F__law_pick (fun _ _ => False) (aCons (aVar 0) (aCons (aC (.d (.int 12))) aNil))) aNil)))))) (aCall F__law_pick (fun _ _ => False) (aCons (aVar 0) (aCons (aC (.d (.int 5))) aNil)))) aNil)) (aName 4) (aSet 3 (aOp aAdd (aVar 3) (aOp aIx (aVar 2) (aCall F__law_pick (fun _ _ => False) (aCons (aVar 0) (aCons (aC (.d (.int 36))) aNil))))))) (aSeq (aIfS (aOr (aB (aOp (aIn id) (aVar 3) (aVar 1))) (aB (aOp (aIn id) (aVar 3) (aTup (aCons (aC (.d (.str "pact"))) (aCons (aC (.d (.str "end"))) (aCons (aC (.d (.str "choice"))) (aCons (aC (.d (.str "both"))) (aCons (aC (.d (.str "loop"))) (aCons (aC (.d (.str "use"))) aNil)))))))))) (aSeq (aSet 5 (aLc (aRng1 (aCons (aOp aAdd (aCB aLen (aCons (aVar 1) aNil)) (aC (.d (.int 1)))) aNil)) (aName 4) aYes (aOp aAdd (aC (.d (.str "q"))) (aCB aStrOf (aCons (aVar 4) aNil))) [4])) (aRet (aOp aIx (aLc (aIter (aVar 5)) (aName 6) (aB (aOp (aIn not) (aVar 6) (aVar 1))) (aVar 6) [6]) (aC (.d (.int 0)))))) aNext) (aRet (aVar 3))))))
theorem len__law_name : ∀ as κ R E', F__law_name as κ R E' → as.length = (["source", "taken"] : List Str).length := by
  rintro as κ R E' ⟨s, m, rfl, _⟩; rfl
def nmOf (z : Str) (i : Nat) : Prop := ∃ c r, tl z = c :: r ∧ low c ∧ (∀ x ∈ r, run x) ∧ r.length = i
theorem nmOf.len {z : Str} {i : Nat} (h : nmOf z i) : z.length = i + 1 := by
  obtain ⟨c, r, e, _, _, l⟩ := h
  rw [tl_len, e, List.length_cons, l]
theorem nmOf.snoc {z : Str} {i c : Nat} (h : nmOf z i) (hc : run c) : nmOf (z ++ ⟨#[c]⟩) (i + 1) := by
  obtain ⟨d, r, e, h1, h2, l⟩ := h
  refine ⟨d, r ++ [c], by rw [tl_app, e]; rfl, h1, fun x hx => ?_, by simp [l]⟩
  rcases List.mem_append.mp hx with z | z
  · exact h2 x z
  · rw [List.mem_singleton.mp z]; exact hc
theorem five {w : PyData} {v : Int} (h0 : 0 ≤ v) (h1 : v < 12) (h : w ∈ ([.int 0, .int 0, .int 1, .int 2, .int v] : List PyData)) : ∃ n : Int, w = .int n ∧ 0 ≤ n ∧ n ≤ 11 := by
  simp only [List.mem_cons, List.mem_nil_iff, or_false] at h
  rcases h with rfl | rfl | rfl | rfl | rfl <;> exact ⟨_, rfl, by omega, by omega⟩
theorem log_small {n : Int} (h0 : 0 ≤ n) (h : n < 20000) : n.natAbs.log2 < 1920 := by
  by_cases e : n.natAbs = 0
  · rw [e]; decide
  · exact Nat.lt_of_lt_of_le ((Nat.log2_lt e).mpr (show n.natAbs < 2 ^ 15 by omega)) (by decide)
theorem rd__law_name : ∀ as κ R E', F__law_name as κ R E' → a__law_name K (endsA K κ.length R) (startA N__law_name as) κ := by
  rintro as κ R E' ⟨s, tk, rfl, rfl, hs, htk, h⟩
  have fin : ∀ s z, isSrc s → isName z → z ∉ tk → (endsA K [s].length R).rt (.d (.str z)) [s] := fun s z h1 h2 h3 => ⟨_, _, GhR.refl (Nat.le_refl _), h _ _ h1 h2 h3⟩
  refine pick_w hs (by decide) (by decide) fun v s1 hs1 h0 h1 => ?_
  have la : (tl alnum).length = 36 := by rw [← tl_len]; exact alnum_len
  obtain ⟨c, hc, hm, hg⟩ := at_mem (xs := tl alnum) h0 (by omega)
  refine ⟨c, al_sl, hc, ?_⟩
  have hc1 := alnum_low v.toNat (by omega) c hg
  refine pick_w hs1 (by decide) (by decide) fun v2 s2 hs2 h20 h21 => ⟨(show 5 ≤ sizeLine by decide), ?_⟩
  refine pick_w hs2 (by decide) (by decide) fun v3 s3 hs3 h30 h31 => ?_
  obtain ⟨w, hw, hwm, _⟩ := at_mem (xs := ([.int 0, .int 0, .int 1, .int 2, .int v2] : List PyData)) h30 h31
  obtain ⟨n, rfl, hn0, hn1⟩ := five h20 h21 hwm
  refine ⟨_, hw, by omega, by omega, ?_⟩
  refine for_r (fun i δ κ => ∃ z k s, δ = [some (.c 0), some (.d (.list (tk.map .str))), some (.d (.str alnum)), some (.d (.str z)), k, none, none] ∧ κ = [s] ∧ isSrc s ∧ nmOf z i)
    ⟨_, _, s3, rfl, rfl, hs3, c, [], rfl, hc1, fun x hx => (by cases hx), rfl⟩ ?_ ?_
  · rintro δ κ ⟨z, k, s, rfl, rfl, hs, hz⟩ _
    refine ⟨rfl, flat_strs _, bsel_or (d := id (inD (.str z) (wordsL.map .str))) (fun ht => ?_) (fun ht => ?_) fun q => ⟨(show 6 ≤ sizeLine by decide), rfl, rfl, q⟩⟩
    · -- a spare name
      have ltk : (tk.map PyData.str).length = tk.length := List.length_map ..
      refine ⟨by omega, by omega, lc_r (fun i acc κ' => κ' = [s] ∧ acc = (List.range i).map fun i => .str (spare i)) ⟨rfl, rfl⟩ ?_ ?_⟩
      · rintro acc κ' ⟨rfl, rfl⟩
        rw [ltk]
        have e : ((tk.length : Int) + 1).toNat = tk.length + 1 := by omega
        rw [e]
        refine lc_d (fun i acc κ' => κ' = [s] ∧ ∃ l : List Str, acc = l.map .str ∧ l = (((List.range (tk.length + 1)).map spare).take i).filter fun x => decide (x ∉ tk)) ⟨rfl, [], rfl, rfl⟩ ?_ ?_
        · rintro acc κ' ⟨rfl, l, rfl, hl⟩
          rw [List.length_map, List.length_range, List.take_of_length_le (by simp)] at hl
          obtain ⟨i, hi, hf⟩ := spare_free tk
          have hmem : spare i ∈ l := by
            rw [hl, List.mem_filter]
            exact ⟨List.mem_map.mpr ⟨i, List.mem_range.mpr hi, rfl⟩, decide_eq_true hf⟩
          cases l with
          | nil => cases hmem
          | cons z0 l =>
            have hz0 : z0 ∈ ((List.range (tk.length + 1)).map spare).filter fun x => decide (x ∉ tk) := by rw [← hl]; exact List.mem_cons_self ..
            obtain ⟨y1, y2⟩ := List.mem_filter.mp hz0
            obtain ⟨j, hj, rfl⟩ := List.mem_map.mp y1
            rw [List.mem_range] at hj
            exact ⟨_, at_nat (j := 0) rfl, fin _ _ hs (spare_name (by omega)) (of_decide_eq_true y2)⟩
        · rintro i x acc κ' hx ⟨rfl, l, rfl, hl⟩
          rw [List.getElem?_map] at hx
          obtain ⟨j, hj, rfl⟩ := Option.map_eq_some_iff.mp hx
          have hlen : l.length ≤ 10001 := by
            rw [hl]
            refine Nat.le_trans (List.length_filter_le ..) (Nat.le_trans (List.length_take_le' ..) ?_)
            simp; omega
          have ht : ((List.range (tk.length + 1)).map spare)[i]? = some (spare j) := by rw [List.getElem?_map, hj]; rfl
          refine ⟨rfl, flat_strs _, bsel_i (fun hb => ⟨_, rfl, ?_, rfl, l ++ [spare j], by simp, ?_⟩) fun hb => ⟨rfl, l, rfl, ?_⟩⟩
          · rw [List.length_map]; exact Nat.lt_of_le_of_lt hlen (by decide)
          · rw [inD_str] at hb
            rw [List.take_add_one, ht, List.filter_append, ← hl]
            congr 1
            show [spare j] = List.filter _ [spare j]
            rw [List.filter_cons_of_pos (by simpa using hb)]; rfl
          · rw [inD_str] at hb
            rw [List.take_add_one, ht, List.filter_append, ← hl]
            show l = l ++ List.filter _ [spare j]
            rw [List.filter_cons_of_neg (by simpa using hb)]; simp
      · rintro i acc κ' hi ⟨rfl, rfl⟩
        have hi' : i < 10001 := by omega
        have e0 : (0 : Int) + (i : Int) = (i : Int) := Int.zero_add _
        rw [e0]
        refine ⟨log_small (by omega) (by omega), ?_, _, rfl, ?_, rfl, ?_⟩
        · have l1 : (Str.ofString (toString ((i : Nat) : Int))).length ≤ 6 := by
            rw [tl_len]
            show (TL.tl _).length ≤ 6
            rw [TL.tl_num]
            exact TL.numL_len (by decide) (by omega)
          have l2 : ("q" : Str).length = 1 := by decide +kernel
          exact sl100 (by omega)
        · rw [List.length_map, List.length_range]; exact Nat.lt_of_lt_of_le hi' (by decide)
        · rw [List.range_succ, List.map_append]; rfl
    · -- the name itself
      rw [Bool.or_eq_false_iff] at ht
      have h1 := ht.1
      have h2 := ht.2
      have h1' : inD (.str z) (tk.map .str) = false := h1
      have h2' : inD (.str z) (wordsL.map .str) = false := h2
      rw [inD_str] at h1' h2'
      obtain ⟨c, r, e1, e2, e3, e4⟩ := hz
      exact fin _ _ hs ⟨⟨c, r, e1, e2, e3, by omega⟩, of_decide_eq_false h2'⟩ (of_decide_eq_false h1')
  · rintro i δ κ hi ⟨z, k, s, rfl, rfl, hs, hz⟩ _
    refine pick_w hs (by decide) (by decide) fun v s1 hs1 h0 h1 => ?_
    obtain ⟨c, hc, hm, hg⟩ := at_mem (xs := tl alnum) h0 (by omega)
    refine ⟨c, al_sl, hc, ?_, _, _, s1, rfl, rfl, hs1, hz.snoc (alnum_mem.mp hm)⟩
    rw [hz.len]
    show i + 1 + 1 ≤ sizeLine
    exact sl100 (by omega)

/-! ### words spread over a text -/
def runFirst (w : Str) : Prop := ∃ c r, tl w = c :: r ∧ run c
def runLast (w : Str) : Prop := ∃ r c, tl w = r ++ [c] ∧ run c
abbrev Piece := Str × Str
def txt (ps : List Piece) : List Nat := ps.flatMap fun p => tl p.1 ++ tl p.2
/-- where the words stand -/
def plc (n : Nat) : List Piece → List Int
  | [] => []
  | p :: ps => ((n + p.1.length : Nat) : Int) :: plc (n + p.1.length + p.2.length) ps
theorem txt_snoc (ps : List Piece) (p : Piece) : txt (ps ++ [p]) = txt ps ++ (tl p.1 ++ tl p.2) := by
  unfold txt; rw [List.flatMap_append]; simp
theorem txt_len : ∀ ps : List Piece, (txt ps).length = (ps.map fun p => p.1.length + p.2.length).sum
  | [] => rfl
  | p :: ps => by
    have ih := txt_len ps
    unfold txt at ih ⊢
    rw [List.flatMap_cons, List.length_append, ih, List.length_append, ← tl_len, ← tl_len]; rfl
theorem plc_snoc : ∀ (n : Nat) (ps : List Piece) (p : Piece), plc n (ps ++ [p]) = plc n ps ++ [((n + (txt ps).length + p.1.length : Nat) : Int)]
  | n, [], p => rfl
  | n, q :: ps, p => by
    show _ :: plc _ (ps ++ [p]) = _ :: (plc _ ps ++ _)
    rw [plc_snoc _ ps p]
    congr 2
    have : (txt (q :: ps)).length = q.1.length + q.2.length + (txt ps).length := by
      unfold txt; rw [List.flatMap_cons, List.length_append, List.length_append, ← tl_len, ← tl_len]
    rw [this]
    congr 2; omega
def Sep (ps : List Piece) : Prop := ∀ (k : Nat) (p q : Piece), ps[k]? = some p → ps[k + 1]? = some q → runLast p.2 → runFirst q.2 → q.1 ≠ ""
structure Spread (ws : List Str) (text : Str) (places : List Int) : Prop where
  ex : ∃ (b0 bl : Str) (ps : List Piece), ps.map (·.2) = ws ∧ isBlank b0 ∧ isBlank bl ∧ (∀ p ∈ ps, isBlank p.1) ∧ Sep ps ∧ tl text = tl b0 ++ txt ps ++ tl bl ∧ places = plc b0.length ps
def F__law_spread : FSp := fun as κ R _ => ∃ (s : Cell) (ws : List Str), as = [.c 0, .d (.list (ws.map .str))] ∧ κ = [s] ∧ isSrc s ∧ ws.length ≤ 50000 ∧ (∀ w ∈ ws, w.length ≤ 100 ∧ w ≠ "") ∧
  ∀ text places s', isSrc s' → Spread ws text places → text.length ≤ 102 * ws.length + 4 → R (.d (.tuple [.str text, .list (places.map .int)])) [s']
abbrev N__law_spread : List Str := ["source", "words", "signs", "text", "places", "k"]
def a__law_spread (K : PySem.W.Frag) : AS :=
  (aSeq (aSet 2 (aC (.d (.str "abcdefghijklmnopqrstuvwxyz0123456789")))) (aSeq (aSet 3 (aCall F__law_blank (fun _ _ => False) (aCons (aVar 0) (aCons (aC (.d (.bool false))) aNil)))) (aSeq (aSet 4 (aLst aNil)) (aSeq (aFor (aRng1 (aCons (aCB aLen (aCons (aVar 1) aNil)) aNil)) (aName 5) (aSeq (aSet 3 (aOp aAdd (aVar 3) (aCall F__law_blank (fun _ _ => False) (aCons (aVar 0) (aCons (aAndV (aOp aGt (aVar 5) (aC (.d (.int 0)))) (aAndV (aOp (aIn id) (aOp aIx (aOp aIx (aVar 1) (aVar 5)) (aC (.d (.int 0)))) (aVar 2)) (aOp (aIn id) (aOp aIx (aOp aIx (aVar 1) (aOp aSub (aVar 5) (aC (.d (.int 1))))) (aUn aNeg (aC (.d (.int 1))))) (aVar 2)))) aNil))))) (aSeq (aDrop (aBM "list" aAppend (aVar 4) (aCons (aCB aLen (aCons (aVar 3) aNil)) aNil))) (aSet 3 (aOp aAdd (aVar 3) (aOp aIx (aVar 1) (aVar 5))))))) (aGh K (aRet (aTup (aCons (aOp aAdd (aVar 3) (aCall F__law_blank (fun _ _ => False) (aCons (aVar 0) (aCons (aC (.d (.bool false))) aNil)))) (aCons (aVar 4) aNil)))))))))
theorem len__law_spread : ∀ as κ R E', F__law_spread as κ R E' → as.length = (["source", "words"] : List Str).length := by
  rintro as κ R E' ⟨s, m, rfl, _⟩; rfl
theorem blank_w {s : Cell} {κr : AK} {b : Bool} {E : AX → AK → Prop} {R : AR} (hs : isSrc s) (k : ∀ z s', isSrc s' → isBlank z → (b = true → z ≠ "") → R (.d (.str z)) (s' :: κr)) : callW F__law_blank E [.c 0, .d (.bool b)] (s :: κr) R :=
  callW_i ⟨[0], _, _, by decide, rfl, sel0 hs, s, b, rfl, rfl, hs, fun z s' hs' hb hn => ⟨Nat.le_refl _, cl1 hs', rfl, k z s' hs' hb hn⟩⟩
theorem tl_empty : tl "" = [] := by decide +kernel
theorem ne_tl {w : Str} (h : w ≠ "") : tl w ≠ [] := fun e => h (tl_inj (e.trans tl_empty.symm))
theorem ne_first {w : Str} (h : w ≠ "") : ∃ c r, tl w = c :: r := by
  cases e : tl w with
  | nil => exact absurd e (ne_tl h)
  | cons c r => exact ⟨c, r, rfl⟩
theorem ne_last {w : Str} (h : w ≠ "") : ∃ r c, tl w = r ++ [c] := ⟨_, _, (List.dropLast_concat_getLast (ne_tl h)).symm⟩
theorem txt_le : ∀ {ps : List Piece}, (∀ p ∈ ps, isBlank p.1 ∧ p.2.length ≤ 100) → (txt ps).length ≤ 102 * ps.length
  | [], _ => Nat.le_refl _
  | p :: ps, h => by
    have ih := txt_le (ps := ps) fun q hq => h q (List.mem_cons_of_mem _ hq)
    obtain ⟨h1, h2⟩ := h p (List.mem_cons_self ..)
    have := h1.2
    unfold txt at ih ⊢
    rw [List.flatMap_cons, List.length_append, List.length_append, ← tl_len, ← tl_len, List.length_cons]
    omega
theorem andV_i {f g : AE} {δ : AD} {κ : AK} {R : AR} (a b : Bool) (hf : ∀ R', R' (.d (.bool a)) κ → f δ κ R') (hg : a = true → ∀ R', R' (.d (.bool b)) κ → g δ κ R') (h : R (.d (.bool (a && b))) κ) : aAndV f g δ κ R := by
  refine hf _ ?_
  cases a with
  | true => exact hg rfl _ h
  | false => exact h
theorem rd__law_spread : ∀ as κ R E', F__law_spread as κ R E' → a__law_spread K (endsA K κ.length R) (startA N__law_spread as) κ := by
  rintro as κ R E' ⟨s, ws, rfl, rfl, hs, hlen, hw, h⟩
  refine blank_w hs fun b0 s0 hs0 hb0 _ => ⟨Nat.zero_le _, ?_⟩
  have lw : (ws.map PyData.str).length = ws.length := List.length_map ..
  refine ⟨by omega, by omega, ?_⟩
  refine for_r (fun i δ κ => ∃ (text : Str) (s : Cell) (ps : List Piece) (k : Option AV), δ = [some (.c 0), some (.d (.list (ws.map .str))), some (.d (.str alnum)), some (.d (.str text)), some (.c 1), k] ∧
      κ = [s, .ld ((plc b0.length ps).map .int)] ∧ isSrc s ∧ ps.map (·.2) = ws.take i ∧ (∀ p ∈ ps, isBlank p.1) ∧ Sep ps ∧ tl text = tl b0 ++ txt ps)
    ⟨b0, s0, [], none, rfl, rfl, hs0, rfl, fun p hp => (by cases hp), fun k p q h => (by simp at h), by simp [txt]⟩ ?_ ?_
  · rintro δ κ ⟨text, s, ps, k, rfl, rfl, hs, hps, hb, hsep, ht⟩ _
    have e : ((ws.map PyData.str).length : Int).toNat = ws.length := by omega
    rw [e, List.take_length] at hps
    refine ⟨_, _, GhS.freeze (show 1 ≤ 2 by decide) 1 _ rfl, ?_⟩
    refine blank_w hs.fz fun bl s2 hs2 hbl _ => ?_
    have pl : ps.length = ws.length := by rw [← hps, List.length_map]
    have t1 : text.length = b0.length + (txt ps).length := by rw [tl_len, ht, List.length_append, ← tl_len]
    have t2 : (txt ps).length ≤ 102 * ps.length := txt_le fun p hp => ⟨hb p hp, (hw p.2 (by rw [← hps]; exact List.mem_map.mpr ⟨p, hp, rfl⟩)).1⟩
    have h1 := hb0.2
    have h2 := hbl.2
    refine ⟨Nat.le_trans (show text.length + bl.length ≤ 6000000 by omega) (by decide), (show 2 ≤ sizeLine by decide), _, _, GhR.take 1 (Nat.le_refl _) (show 1 ≤ 2 by decide) (cl1_ok hs2) rfl, h _ _ _ hs2 ⟨b0, bl, ps, hps, hb0, hbl, hb, hsep, by rw [tl_app, ht], rfl⟩ ?_⟩
    show (text ++ bl).length ≤ _
    rw [tl_len, tl_app, List.length_append, ← tl_len, ← tl_len]; omega
  · rintro i δ κ hi ⟨text, s, ps, k, rfl, rfl, hs, hps, hb, hsep, ht⟩ _
    have hi' : i < ws.length := by omega
    have ei : (0 : Int) + (i : Int) = (i : Int) := Int.zero_add _
    rw [ei]
    have hwi : (ws.map PyData.str)[i]? = some (.str ws[i]) := by rw [List.getElem?_map, List.getElem?_eq_getElem hi']; rfl
    obtain ⟨hl1, hne⟩ := hw _ (List.getElem_mem hi')
    obtain ⟨c, r, ec⟩ := ne_first hne
    have pl : ps.length = i := by
      have := congrArg List.length hps
      rw [List.length_map, List.length_take] at this; omega
    have t1 : text.length = b0.length + (txt ps).length := by rw [tl_len, ht, List.length_append, ← tl_len]
    have t2 : (txt ps).length ≤ 102 * ps.length := txt_le fun p hp => ⟨hb p hp, (hw p.2 (List.mem_of_mem_take (by rw [← hps]; exact List.mem_map.mpr ⟨p, hp, rfl⟩))).1⟩
    have h1 := hb0.2
    have hc0 : atI (tl ws[i]) 0 = some c := at_nat (j := 0) (by rw [ec]; rfl)
    -- the blank's condition
    have cond : ∃ least : Bool, (∀ p, ps[i - 1]? = some p → 0 < i → runLast p.2 → runFirst ws[i] → least = true) ∧ ∀ R' : AR, R' (.d (.bool least)) [s, .ld ((plc b0.length ps).map .int)] →
        aAndV (aOp aGt (aVar 5) (aC (.d (.int 0)))) (aAndV (aOp (aIn id) (aOp aIx (aOp aIx (aVar 1) (aVar 5)) (aC (.d (.int 0)))) (aVar 2)) (aOp (aIn id) (aOp aIx (aOp aIx (aVar 1) (aOp aSub (aVar 5) (aC (.d (.int 1))))) (aUn aNeg (aC (.d (.int 1))))) (aVar 2)))
          [some (.c 0), some (.d (.list (ws.map .str))), some (.d (.str alnum)), some (.d (.str text)), some (.c 1), some (.d (.int i))] [s, .ld ((plc b0.length ps).map .int)] R' := by
      by_cases h0 : i = 0
      · refine ⟨false, fun _ _ z => absurd h0 (by omega), fun R' h => andV_i false true (fun R2 h2 => ?_) (fun z => by cases z) h⟩
        show R2 (.d (.bool (decide ((0 : Int) < (i : Int))))) _
        rw [decide_eq_false (by omega)]; exact h2
      · have hj : i - 1 < ws.length := by omega
        obtain ⟨hlj, hnj⟩ := hw _ (List.getElem_mem hj)
        obtain ⟨r', c', ec'⟩ := ne_last hnj
        have hwj : (ws.map PyData.str)[i - 1]? = some (.str ws[i - 1]) := by rw [List.getElem?_map, List.getElem?_eq_getElem hj]; rfl
        refine ⟨true && (decide (c ∈ tl alnum) && decide (c' ∈ tl alnum)), fun p hp _ hl hf => ?_, fun R' h => andV_i true _ (fun R2 h2 => ?_) (fun _ R2 h2 => andV_i _ _ (fun R3 h3 => ?_) (fun _ R3 h3 => ?_) h2) h⟩
        · have e2 : p.2 = ws[i - 1] := by
            have := congrArg (fun l => l[i - 1]?) hps
            simp only [List.getElem?_map, hp, List.getElem?_take_of_lt (show i - 1 < i by omega), List.getElem?_eq_getElem hj] at this
            exact Option.some.inj this
          rw [e2] at hl
          obtain ⟨r2, c2, y1, y2⟩ := hl
          obtain ⟨c3, r3, y3, y4⟩ := hf
          rw [ec] at y3; cases y3
          rw [ec'] at y1
          obtain ⟨_, y5⟩ := List.append_inj' y1 rfl
          cases y5
          rw [Bool.true_and, Bool.and_eq_true, decide_eq_true_eq, decide_eq_true_eq]
          exact ⟨alnum_mem.mpr y4, alnum_mem.mpr y2⟩
        · show R2 (.d (.bool (decide ((0 : Int) < (i : Int))))) _
          rw [decide_eq_true (by omega)]; exact h2
        · exact ⟨_, at_nat hwi, c, sl100 (by omega), hc0, c, rfl, h3⟩
        · have ej : ((i : Int) - 1) = ((i - 1 : Nat) : Int) := by omega
          have hjv : atI (ws.map PyData.str) ((i : Int) - 1) = some (.str ws[i - 1]) := by rw [ej]; exact at_nat hwj
          refine ⟨_, hjv, c', sl100 (by omega), (by rw [show (ws[i - 1]).cps.toList = r' ++ [c'] from ec']; exact atI_last _ _), c', rfl, h3⟩
    obtain ⟨least, hleast, hcond⟩ := cond
    refine hcond _ (blank_w hs fun bl s2 hs2 hbl hn => ?_)
    have h2 := hbl.2
    refine ⟨Nat.le_trans (show text.length + bl.length ≤ 6000000 by omega) (by decide), ?_⟩
    have ltb : (text ++ bl).length = text.length + bl.length := by rw [tl_len, tl_app, List.length_append, ← tl_len, ← tl_len]
    refine ⟨rfl, Nat.le_trans (show (text ++ bl).length ≤ 6000000 by omega) (by decide), ?_, _, at_nat hwi, Nat.le_trans (show (text ++ bl).length + (ws[i]).length ≤ 6000000 by omega) (by decide), text ++ bl ++ ws[i], s2, ps ++ [(bl, ws[i])], _, rfl, ?_, hs2, ?_, ?_, ?_, ?_⟩
    · have lp : (plc b0.length ps).length = ps.length := by
        have : ∀ (n : Nat) (l : List Piece), (plc n l).length = l.length := by
          intro n l
          induction l generalizing n with
          | nil => rfl
          | cons p l ih => show (plc _ l).length + 1 = _; rw [ih]; rfl
        exact this _ _
      rw [List.length_map, lp]
      exact Nat.lt_of_lt_of_le (show ps.length < 60000 by omega) (by decide)
    · rw [plc_snoc, List.map_append]
      show [s2, Cell.ld (_ ++ [PyData.int ((text ++ bl).length : Nat)])] = _
      rw [ltb, t1]; rfl
    · rw [List.map_append, hps]
      show _ ++ [ws[i]] = _
      rw [List.take_add_one, List.getElem?_eq_getElem hi']; rfl
    · intro p hp
      rcases List.mem_append.mp hp with z | z
      · exact hb p z
      · rw [List.mem_singleton.mp z]; exact hbl
    · intro k p q hk hk1 hl hf
      by_cases hlt : k + 1 < ps.length
      · rw [List.getElem?_append_left (by omega)] at hk hk1
        exact hsep k p q hk hk1 hl hf
      · have hb' := (List.getElem?_eq_some_iff.mp hk1).1
        rw [List.length_append] at hb'
        have hb2 : ([(bl, ws[i])] : List Piece).length = 1 := rfl
        have ek : k + 1 = ps.length := by omega
        rw [List.getElem?_append_right (by omega), ek, Nat.sub_self] at hk1
        cases hk1
        rw [List.getElem?_append_left (by omega)] at hk
        have : k = i - 1 := by omega
        subst this
        exact hn (hleast p hk (by omega) hl hf)
    · rw [tl_app, tl_app, ht, txt_snoc]; simp

/-! ### the same -/
/-- data of a depth below n, lists not longer than a range may be -/
def sdep : Nat → PyData → Prop
  | 0, _ => False
  | n + 1, .list ds => ds.length < 2 ^ 62 ∧ ∀ d ∈ ds, sdep n d
  | n + 1, .tuple ds => ds.length < 2 ^ 62 ∧ ∀ d ∈ ds, sdep n d
  | _ + 1, .dict _ => False
  | _ + 1, _ => True
def F_same (n : Nat) : FSp := fun as κ R _ => ∃ d, sdep n d ∧ R (.d (.bool true)) κ ∧ ((as = [.d d, .d d] ∧ κ = []) ∨ (∃ ds, d = .list ds ∧ as = [.c 0, .d d] ∧ κ = [.ld ds]) ∨ ∃ x ds, d = .tuple [x, .list ds] ∧ as = [.c 0, .d d] ∧ κ = [.tup [.d x, .c 1], .ld ds])
def F__law_same : FSp := F_same 5
theorem sdep_mono : ∀ {n : Nat} {d : PyData}, sdep n d → sdep (n + 1) d
  | 0, _, h => h.elim
  | n + 1, .list ds, h => ⟨h.1, fun d hd => sdep_mono (h.2 d hd)⟩
  | n + 1, .tuple ds, h => ⟨h.1, fun d hd => sdep_mono (h.2 d hd)⟩
  | _ + 1, .dict _, h => h.elim
  | _ + 1, .none, _ => trivial
  | _ + 1, .bool _, _ => trivial
  | _ + 1, .int _, _ => trivial
  | _ + 1, .str _, _ => trivial
theorem len__law_same (n : Nat) : ∀ as κ R E', F_same n as κ R E' → as.length = (["actual", "due"] : List Str).length := by
  rintro as κ R E' ⟨d, _, _, ⟨rfl, _⟩ | ⟨ds, _, rfl, _⟩ | ⟨x, ds, _, rfl, _⟩⟩ <;> rfl
theorem rd0__law_same {as : List AV} {κ : AK} {R : AR} {E' : AX → AK → Prop} (h : F_same 0 as κ R E') : False := by
  obtain ⟨d, h, _⟩ := h; exact h
theorem same_w {n : Nat} {d : PyData} {κ : AK} {R : AR} {E : AX → AK → Prop} (hd : sdep n d) (h : R (.d (.bool true)) κ) : callW (F_same n) E [.d d, .d d] κ R :=
  callW_i ⟨[], _, _, .nil, rfl, rfl, d, hd, ⟨Nat.zero_le _, rfl, rfl, h⟩, .inl ⟨rfl, rfl⟩⟩
theorem tru_of {f : AE} {δ : AD} {κ : AK} {R : Bool → AK → Prop} (b : Bool) (h : f δ κ fun a κ1 => a = .d (.bool b) ∧ R b κ1) (mono : ∀ P Q : AR, (∀ a κ, P a κ → Q a κ) → f δ κ P → f δ κ Q) : aTru f δ κ R := mono _ _ (fun a κ1 ⟨e, q⟩ => by subst e; exact q) h
theorem kb_b : kitB "bool" "bool" = some true := by decide +kernel
theorem kb_i : kitB "int" "bool" = some false := by decide +kernel
theorem kb_s : kitB "str" "bool" = some false := by decide +kernel
theorem kb_l : kitB "list" "bool" = some false := by decide +kernel
theorem kb_t : kitB "tuple" "bool" = some false := by decide +kernel
theorem ki_i : kitB "int" "int" = some true := by decide +kernel
theorem ki_s : kitB "str" "int" = some false := by decide +kernel
theorem ki_l : kitB "list" "int" = some false := by decide +kernel
theorem ki_t : kitB "tuple" "int" = some false := by decide +kernel
theorem ks_s : kitB "str" "str" = some true := by decide +kernel
theorem ks_l : kitB "list" "str" = some false := by decide +kernel
theorem ks_t : kitB "tuple" "str" = some false := by decide +kernel
theorem kl_l : kitB "list" "list" = some true := by decide +kernel
theorem kl_t : kitB "tuple" "list" = some false := by decide +kernel
theorem kt_l : kitB "list" "tuple" = some false := by decide +kernel
theorem kt_t : kitB "tuple" "tuple" = some true := by decide +kernel
abbrev N__law_same : List Str := ["actual", "due", "k"]
def a__law_same (K : PySem.W.Frag) (F_self : FSp) : AS :=
  (aSeq (aIfS (aB (aOp (aIsN id) (aVar 1) (aC (.d .none)))) (aRet (aOp (aIsN id) (aVar 0) (aC (.d .none)))) aNext) (aSeq (aIfS (aTru (aCB aIsi (aCons (aVar 1) (aCons (aC (.r (.ty "bool"))) aNil)))) (aRet (aAndV (aCB aIsi (aCons (aVar 0) (aCons (aC (.r (.ty "bool"))) aNil))) (aOp aEq (aVar 0) (aVar 1)))) aNext) (aSeq (aIfS (aTru (aCB aIsi (aCons (aVar 1) (aCons (aC (.r (.ty "int"))) aNil)))) (aRet (aAndV (aCB aIsi (aCons (aVar 0) (aCons (aC (.r (.ty "int"))) aNil))) (aAndV (aNotV (aCB aIsi (aCons (aVar 0) (aCons (aC (.r (.ty "bool"))) aNil)))) (aOp aEq (aVar 0) (aVar 1))))) aNext) (aSeq (aIfS (aTru (aCB aIsi (aCons (aVar 1) (aCons (aC (.r (.ty "str"))) aNil)))) (aRet (aAndV (aCB aIsi (aCons (aVar 0) (aCons (aC (.r (.ty "str"))) aNil))) (aOp aEq (aVar 0) (aVar 1)))) aNext) (aSeq (aIfS (aOr (aB (aOp aNe (aCB aIsi (aCons (aVar 1) (aCons (aC (.r (.ty "list"))) aNil))) (aCB aIsi (aCons (aVar 0) (aCons (aC (.r (.ty "list"))) aNil))))) (aB (aOp aNe (aCB aIsi (aCons (aVar 1) (aCons (aC (.r (.ty "tuple"))) aNil))) (aCB aIsi (aCons (aVar 0) (aCons (aC (.r (.ty "tuple"))) aNil)))))) (aRet (aC (.d (.bool false)))) aNext) (aSeq (aIfS (aB (aOp aNe (aCB aLen (aCons (aVar 0) aNil)) (aCB aLen (aCons (aVar 1) aNil)))) (aRet (aC (.d (.bool false)))) aNext) (aSeq (aFor (aRng1 (aCons (aCB aLen (aCons (aVar 1) aNil)) aNil)) (aName 2) (aIfS (aNot (aTru (aCall F_self (fun _ _ => False) (aCons (aOp aIx (aVar 0) (aVar 2)) (aCons (aOp aIx (aVar 1) (aVar 2)) aNil))))) (aRet (aC (.d (.bool false)))) aNext)) (aRet (aC (.d (.bool true)))))))))))
theorem rd__law_same (n : Nat) : ∀ as κ R E', F_same (n + 1) as κ R E' → a__law_same K (F_same n) (endsA K κ.length R) (startA N__law_same as) κ := by
  rintro as κ R E' ⟨d, hd, hR, hv⟩
  have fin : (endsA K κ.length R).rt (.d (.bool true)) κ := ⟨_, _, GhR.refl (Nat.le_refl _), hR⟩
  have eqt : ∀ b : Bool, b = true → (endsA K κ.length R).rt (.d (.bool b)) κ := fun b e => by subst e; exact fin
  -- the items, one by one
  have items : ∀ (a b : AV) (ds : List PyData), ds.length < 2 ^ 62 → (∀ x ∈ ds, sdep n x) → ((a = .d (.list ds) ∧ b = .d (.list ds)) ∨ (a = .d (.tuple ds) ∧ b = .d (.tuple ds)) ∨ (a = .c 0 ∧ b = .d (.list ds) ∧ κ = [.ld ds])) →
      ForW (itR 0 ds.length) (aName 2) (aIfS (aNot (aTru (aCall (F_same n) (fun _ _ => False) (aCons (aOp aIx (aVar 0) (aVar 2)) (aCons (aOp aIx (aVar 1) (aVar 2)) aNil))))) (aRet (aC (.d (.bool false)))) aNext)
        { n := κ.length, nx := aRet (aC (.d (.bool true))) (endsA K κ.length R), rt := (endsA K κ.length R).rt, bk := (endsA K κ.length R).bk, ct := (endsA K κ.length R).ct } κ.length [some a, some b, none] κ := by
    intro a b ds hl hs hab
    refine for_r (fun i δ κ' => ∃ k, δ = [some a, some b, k] ∧ κ' = κ) ⟨none, rfl, rfl⟩ ?_ ?_
    · rintro δ κ' ⟨k, rfl, rfl⟩ _
      exact fin
    · rintro i δ κ' hi ⟨k, rfl, e⟩ _
      have e0 : (0 : Int) + (i : Int) = (i : Int) := Int.zero_add _
      have hx := List.getElem?_eq_getElem hi
      have hsi := hs _ (List.getElem_mem hi)
      rw [e0]
      rcases hab with ⟨rfl, rfl⟩ | ⟨rfl, rfl⟩ | ⟨rfl, rfl, rfl⟩
      · exact ⟨_, at_nat hx, _, at_nat hx, same_w hsi ⟨_, rfl, e⟩⟩
      · exact ⟨_, at_nat hx, _, at_nat hx, same_w hsi ⟨_, rfl, e⟩⟩
      · subst e; exact ⟨_, at_nat hx, _, at_nat hx, same_w hsi ⟨_, rfl, rfl⟩⟩
  rcases hv with ⟨rfl, rfl⟩ | ⟨ds, rfl, rfl, rfl⟩ | ⟨x, ds, rfl, rfl, rfl⟩
  · cases d with
    | none => exact fin
    | bool b => exact ⟨true, kb_b, true, kb_b, eqt _ (decide_eq_true rfl)⟩
    | int i => exact ⟨false, kb_i, true, ki_i, true, ki_i, false, kb_i, eqt _ (decide_eq_true rfl)⟩
    | str z => exact ⟨false, kb_s, false, ki_s, true, ks_s, true, ks_s, eqt _ (decide_eq_true rfl)⟩
    | list ds =>
      refine ⟨false, kb_l, false, ki_l, false, ks_l, true, kl_l, true, kl_l, false, kt_l, false, kt_l, bsel_i (fun h => by simp at h) fun _ => ?_⟩
      obtain ⟨hl, hs⟩ := hd
      refine ⟨by omega, by omega, ?_⟩
      exact items _ _ ds hl hs (.inl ⟨rfl, rfl⟩)
    | tuple ds =>
      refine ⟨false, kb_t, false, ki_t, false, ks_t, false, kl_t, false, kl_t, true, kt_t, true, kt_t, bsel_i (fun h => by simp at h) fun _ => ?_⟩
      obtain ⟨hl, hs⟩ := hd
      refine ⟨by omega, by omega, ?_⟩
      exact items _ _ ds hl hs (.inr (.inl ⟨rfl, rfl⟩))
    | dict _ => exact hd.elim
  · refine ⟨false, kb_l, false, ki_l, false, ks_l, true, kl_l, true, kl_l, false, kt_l, false, kt_l, bsel_i (fun h => by simp at h) fun _ => ?_⟩
    obtain ⟨hl, hs⟩ := hd
    refine ⟨by omega, by omega, ?_⟩
    exact items _ _ ds hl hs (.inr (.inr ⟨rfl, rfl, rfl⟩))
  · refine ⟨false, kb_t, false, ki_t, false, ks_t, false, kl_t, false, kl_t, true, kt_t, true, kt_t, ?_⟩
    obtain ⟨hl, hs⟩ := hd
    refine ⟨(show -(2 ^ 62) ≤ (2 : Int) by decide), (show (2 : Int) < 2 ^ 62 by decide), ?_⟩
    refine for_r (fun i δ κ' => ∃ k, δ = [some (.c 0), some (.d (.tuple [x, .list ds])), k] ∧ κ' = [.tup [.d x, .c 1], .ld ds]) ⟨none, rfl, rfl⟩ ?_ ?_
    · rintro δ κ' ⟨k, rfl, rfl⟩ _
      exact fin
    · rintro i δ κ' hi ⟨k, rfl, rfl⟩ _
      have hi : i < 2 := hi
      have hx := hs x (by simp)
      have hds := hs (.list ds) (by simp)
      have e : i = 0 ∨ i = 1 := by omega
      rcases e with rfl | rfl
      · exact ⟨_, at_nat (j := 0) rfl, _, at_nat (j := 0) rfl, same_w hx ⟨_, rfl, rfl⟩⟩
      · exact ⟨_, at_nat (j := 1) rfl, _, at_nat (j := 1) rfl, callW_i ⟨[1], _, _, by decide, rfl, rfl, .list ds, hds, ⟨Nat.le_refl _, rfl, rfl, ⟨_, rfl, rfl⟩⟩, .inr (.inl ⟨ds, rfl, rfl, rfl⟩)⟩⟩
theorem imp__law_same : ∀ as κ R E', F__law_same as κ R E' → F_same 5 as κ R E' := fun _ _ _ _ h => h
theorem source_w {ns : List Int} {κ : AK} {R : AR} {E : AX → AK → Prop} (h : ∀ s, isSrc s → R (.c κ.length) (κ ++ [s])) : callW F__law_source E [.d (.list (ns.map .int))] κ R :=
  callW_i ⟨[], _, _, .nil, rfl, rfl, ns, rfl, rfl, fun s hs => ⟨Nat.zero_le _, cl1 hs, List.all_eq_true.mpr fun c hc => (by have hc : c ∈ [s] := hc; rw [List.mem_singleton.mp hc]; exact hs.cl.2), h s hs⟩⟩
theorem name_w {s : Cell} {κr : AK} {tk : List Str} {E : AX → AK → Prop} {R : AR} (hs : isSrc s) (ht : tk.length ≤ 10000) (k : ∀ z s', isSrc s' → isName z → z ∉ tk → R (.d (.str z)) (s' :: κr)) : callW F__law_name E [.c 0, .d (.list (tk.map .str))] (s :: κr) R :=
  callW_i ⟨[0], _, _, by decide, rfl, sel0 hs, s, tk, rfl, rfl, hs, ht, fun z s' hs' hb hn => ⟨Nat.le_refl _, cl1 hs', rfl, k z s' hs' hb hn⟩⟩
theorem spread_w {s : Cell} {κr : AK} {ws : List Str} {E : AX → AK → Prop} {R : AR} (hs : isSrc s) (h1 : ws.length ≤ 50000) (h2 : ∀ w ∈ ws, w.length ≤ 100 ∧ w ≠ "")
    (k : ∀ text places s', isSrc s' → Spread ws text places → text.length ≤ 102 * ws.length + 4 → R (.d (.tuple [.str text, .list (places.map .int)])) (s' :: κr)) : callW F__law_spread E [.c 0, .d (.list (ws.map .str))] (s :: κr) R :=
  callW_i ⟨[0], _, _, by decide, rfl, sel0 hs, s, ws, rfl, rfl, hs, h1, h2, fun t p s' hs' hb hn => ⟨Nat.le_refl _, cl1 hs', rfl, k t p s' hs' hb hn⟩⟩
end Com
set_option Elab.async false
set_option linter.all false
set_option maxRecDepth 100000
set_option maxHeartbeats 4000000
/-! Com2: texts joined, trees of pacts, the drawing of bodies: what the laws share -/
namespace Com
open PySem L2 Ab
variable {K : PySem.W.Frag}
/-! ### texts -/
theorem slen_app (a b : Str) : (a ++ b).length = a.length + b.length := by rw [tl_len, tl_app, List.length_append, ← tl_len, ← tl_len]
theorem emp_app (a : Str) : Str.empty ++ a = a := tl_inj (by rw [tl_app]; rfl)
theorem app_assoc (a b c : Str) : a ++ b ++ c = a ++ (b ++ c) := tl_inj (by simp only [tl_app, List.append_assoc])
theorem tl_tjoin (s : Str) (ys : List Str) : tl (Txt.join s ys) = TL.joinL (tl s) (ys.map tl) := by
  rw [TL.join_eq]; exact TL.tl_join s ys
theorem joinL_len (S : List Nat) : ∀ ps : List (List Nat), (TL.joinL S ps).length ≤ (ps.map fun p => p.length + S.length).sum
  | [] => Nat.le_refl _
  | [p] => by show p.length ≤ (p.length + S.length) + 0; omega
  | p :: q :: r => by
    have ih := joinL_len S (q :: r)
    show (p ++ (S ++ TL.joinL S (q :: r))).length ≤ _
    rw [List.map_cons, List.sum_cons, List.length_append, List.length_append]
    omega
theorem tjoin_len (s : Str) (ys : List Str) : (Txt.join s ys).length ≤ (ys.map fun y => y.length + s.length).sum := by
  have h := joinL_len (tl s) (ys.map tl)
  rw [← tl_tjoin, ← tl_len, List.map_map] at h
  refine Nat.le_trans h (Nat.le_of_eq ?_)
  refine congrArg List.sum (List.map_congr_left fun y _ => ?_)
  show (tl y).length + (tl s).length = _
  rw [← tl_len, ← tl_len]
theorem joinL_snoc (S p : List Nat) : ∀ ps : List (List Nat), TL.joinL S (ps ++ [p]) = if ps = [] then p else TL.joinL S ps ++ (S ++ p)
  | [] => rfl
  | [q] => rfl
  | q :: q2 :: r => by
    have ih := joinL_snoc S p (q2 :: r)
    show q ++ (S ++ TL.joinL S ((q2 :: r) ++ [p])) = (q ++ (S ++ TL.joinL S (q2 :: r))) ++ (S ++ p)
    rw [ih, if_neg (by simp)]
    simp only [List.append_assoc]
theorem tjoin_snoc (s y : Str) (ys : List Str) : Txt.join s (ys ++ [y]) = if ys = [] then y else Txt.join s ys ++ s ++ y := by
  apply tl_inj
  rw [tl_tjoin, List.map_append]
  show TL.joinL (tl s) (ys.map tl ++ [tl y]) = _
  rw [joinL_snoc]
  cases ys with
  | nil => rfl
  | cons z zs => rw [if_neg (by simp), if_neg (by simp), tl_app, tl_app, tl_tjoin, List.append_assoc]
theorem tjoin_nil (s : Str) : Txt.join s [] = Str.empty := tl_inj (by rw [tl_tjoin]; rfl)
theorem tjoin_one (s y : Str) : Txt.join s [y] = y := tl_inj (by rw [tl_tjoin]; rfl)
theorem sum_le {α : Type} {f g : α → Nat} : ∀ {xs : List α}, (∀ x ∈ xs, f x ≤ g x) → (xs.map f).sum ≤ (xs.map g).sum
  | [], _ => Nat.le_refl _
  | x :: xs, h => by
    have h1 := h x (List.mem_cons_self ..)
    have h2 := sum_le (xs := xs) fun z hz => h z (List.mem_cons_of_mem _ hz)
    rw [List.map_cons, List.map_cons, List.sum_cons, List.sum_cons]; omega
theorem sum_mul {α : Type} (c : Nat) (g : α → Nat) : ∀ xs : List α, (xs.map fun x => c * g x).sum = c * (xs.map g).sum
  | [] => rfl
  | x :: xs => by rw [List.map_cons, List.map_cons, List.sum_cons, List.sum_cons, sum_mul c g xs, Nat.mul_add]
theorem sum_addc {α : Type} (c : Nat) (g : α → Nat) : ∀ xs : List α, (xs.map fun x => g x + c).sum = (xs.map g).sum + c * xs.length
  | [] => rfl
  | x :: xs => by rw [List.map_cons, List.map_cons, List.sum_cons, List.sum_cons, sum_addc c g xs, List.length_cons, Nat.mul_add]; omega
theorem sum_const {α : Type} (c : Nat) : ∀ xs : List α, (xs.map fun _ => c).sum = c * xs.length
  | [] => rfl
  | x :: xs => by rw [List.map_cons, List.sum_cons, sum_const c xs, List.length_cons, Nat.mul_add]; omega
theorem l0 : (Str.empty).length = 0 := rfl
theorem l1 : ("(" : Str).length = 1 := by decide +kernel
theorem l2 : (")" : Str).length = 1 := by decide +kernel
theorem l3 : (", " : Str).length = 2 := by decide +kernel
theorem l4 : (" {" : Str).length = 2 := by decide +kernel
theorem l5 : ("}" : Str).length = 1 := by decide +kernel
theorem l6 : (" | " : Str).length = 3 := by decide +kernel
theorem l7 : (" -> " : Str).length = 4 := by decide +kernel
theorem l8 : (": " : Str).length = 2 := by decide +kernel
theorem l9 : ("use " : Str).length = 4 := by decide +kernel
theorem l10 : ("; " : Str).length = 2 := by decide +kernel
theorem l11 : ("loop {" : Str).length = 6 := by decide +kernel
theorem l12 : ("loop" : Str).length = 4 := by decide +kernel
theorem l13 : ("choice" : Str).length = 6 := by decide +kernel
theorem l14 : ("both" : Str).length = 4 := by decide +kernel
theorem l15 : ("pact " : Str).length = 5 := by decide +kernel
theorem l16 : (" end" : Str).length = 4 := by decide +kernel
theorem l17 : (" " : Str).length = 1 := by decide +kernel
theorem l18 : ("pact" : Str).length = 4 := by decide +kernel
theorem l19 : ("end" : Str).length = 3 := by decide +kernel
theorem l20 : ("\n" : Str).length = 1 := by decide +kernel
theorem l21 : ("" : Str).length = 0 := by decide +kernel
/-! ### trees -/
inductive Tr where
  | letter (a b c : Str)
  | use (n : Str) (qs : List Str)
  | loop (b : List Tr)
  | br (w : Bool) (bs : List (List Tr))
def brW (w : Bool) : Str := if w = true then "both" else "choice"
/-! a tree as data; letters and steps counted; depth; what a body may have: of the parties, of the pacts known -/
mutual
def dS : Tr → PyData
  | .letter a b c => .tuple [.str "letter", .str a, .str b, .str c]
  | .use n qs => .tuple [.str "use", .str n, .tuple (qs.map .str)]
  | .loop b => .tuple [.str "loop", .tuple (dB b)]
  | .br w bs => .tuple [.str (brW w), .tuple (dBs bs)]
def dB : List Tr → List PyData
  | [] => []
  | s :: b => dS s :: dB b
def dBs : List (List Tr) → List PyData
  | [] => []
  | b :: bs => .tuple (dB b) :: dBs bs
end
mutual
def szS : Tr → Nat
  | .letter _ _ _ => 1
  | .use _ _ => 1
  | .loop b => szB b + 1
  | .br _ bs => szBs bs + 1
def szB : List Tr → Nat
  | [] => 0
  | s :: b => szS s + szB b
def szBs : List (List Tr) → Nat
  | [] => 0
  | b :: bs => szB b + szBs bs
end
mutual
def dpS : Tr → Nat
  | .letter _ _ _ => 0
  | .use _ _ => 0
  | .loop b => dpB b + 1
  | .br _ bs => dpBs bs + 1
def dpB : List Tr → Nat
  | [] => 0
  | s :: b => max (dpS s) (dpB b)
def dpBs : List (List Tr) → Nat
  | [] => 0
  | b :: bs => max (dpB b) (dpBs bs)
end
mutual
def okS (ps : List Str) (er : List (Str × Nat)) : Tr → Prop
  | .letter a b c => a ∈ ps ∧ b ∈ ps ∧ a ≠ b ∧ isName c
  | .use n qs => (n, qs.length) ∈ er ∧ qs.Nodup ∧ ∀ q ∈ qs, q ∈ ps
  | .loop b => okB ps er b
  | .br _ bs => bs ≠ [] ∧ bs.length ≤ 3 ∧ okBs ps er bs
def okB (ps : List Str) (er : List (Str × Nat)) : List Tr → Prop
  | [] => True
  | s :: b => okS ps er s ∧ okB ps er b
def okBs (ps : List Str) (er : List (Str × Nat)) : List (List Tr) → Prop
  | [] => True
  | b :: bs => okB ps er b ∧ okBs ps er bs
end
theorem dB_map (b : List Tr) : dB b = b.map dS := by
  induction b with
  | nil => rfl
  | cons s b ih => show dS s :: dB b = _; rw [ih]; rfl
theorem dBs_map (bs : List (List Tr)) : dBs bs = bs.map fun b => .tuple (dB b) := by
  induction bs with
  | nil => rfl
  | cons s b ih => show .tuple (dB s) :: dBs b = _; rw [ih]; rfl
theorem szB_map (b : List Tr) : szB b = (b.map szS).sum := by
  induction b with
  | nil => rfl
  | cons s b ih => show szS s + szB b = _; rw [ih]; rfl
theorem szBs_map (bs : List (List Tr)) : szBs bs = (bs.map szB).sum := by
  induction bs with
  | nil => rfl
  | cons s b ih => show szB s + szBs b = _; rw [ih]; rfl
theorem okB_all {ps er} {b : List Tr} : okB ps er b ↔ ∀ s ∈ b, okS ps er s := by
  induction b with
  | nil => exact ⟨(fun _ s hs => by cases hs), fun _ => trivial⟩
  | cons s b ih =>
    show okS ps er s ∧ okB ps er b ↔ _
    rw [ih, List.forall_mem_cons]
theorem okBs_all {ps er} {bs : List (List Tr)} : okBs ps er bs ↔ ∀ b ∈ bs, okB ps er b := by
  induction bs with
  | nil => exact ⟨(fun _ s hs => by cases hs), fun _ => trivial⟩
  | cons s b ih =>
    show okB ps er s ∧ okBs ps er b ↔ _
    rw [ih, List.forall_mem_cons]
theorem dpB_le {n : Nat} {b : List Tr} : dpB b ≤ n ↔ ∀ s ∈ b, dpS s ≤ n := by
  induction b with
  | nil => exact ⟨(fun _ s hs => by cases hs), fun _ => Nat.zero_le _⟩
  | cons s b ih =>
    show max (dpS s) (dpB b) ≤ n ↔ _
    rw [Nat.max_le, ih, List.forall_mem_cons]
theorem dpBs_le {n : Nat} {bs : List (List Tr)} : dpBs bs ≤ n ↔ ∀ b ∈ bs, dpB b ≤ n := by
  induction bs with
  | nil => exact ⟨(fun _ s hs => by cases hs), fun _ => Nat.zero_le _⟩
  | cons s b ih =>
    show max (dpB s) (dpBs b) ≤ n ↔ _
    rw [Nat.max_le, ih, List.forall_mem_cons]
theorem szS_pos : ∀ t : Tr, 1 ≤ szS t
  | .letter _ _ _ => Nat.le_refl _
  | .use _ _ => Nat.le_refl _
  | .loop b => Nat.le_add_left _ _
  | .br _ bs => Nat.le_add_left _ _
theorem szB_cnt : ∀ b : List Tr, b.length ≤ szB b
  | [] => Nat.le_refl _
  | s :: b => by have := szS_pos s; have := szB_cnt b; show b.length + 1 ≤ szS s + szB b; omega
theorem dB_len (b : List Tr) : (dB b).length = b.length := by rw [dB_map, List.length_map]
theorem dBs_len (b : List (List Tr)) : (dBs b).length = b.length := by rw [dBs_map, List.length_map]
theorem szB_app (b c : List Tr) : szB (b ++ c) = szB b + szB c := by rw [szB_map, szB_map, szB_map, List.map_append, List.sum_append]
theorem dS_tup (t : Tr) : ∃ l, dS t = .tuple l := by cases t <;> exact ⟨_, rfl⟩
def nm (z : Str) : Prop := z.length ≤ 12
theorem nm_of {z : Str} (h : isName z) : nm z := by
  obtain ⟨⟨c, r, e, _, _, l⟩, _⟩ := h
  unfold nm
  rw [tl_len, e, List.length_cons]; omega
/-! ### names -/
def F__law_names : FSp := fun as κ R _ => ∃ (s : Cell) (m : Int) (tk : List Str), as = [.c 0, .d (.int m), .d (.list (tk.map .str))] ∧ κ = [s] ∧ isSrc s ∧ 0 ≤ m ∧ m ≤ 1000 ∧ tk.length ≤ 1000 ∧
  ∀ (zs : List Str) (s' : Cell), isSrc s' → zs.length = m.toNat → zs.Nodup → (∀ z ∈ zs, isName z ∧ z ∉ tk) → R (.d (.list (zs.map .str))) [s']
abbrev N__law_names : List Str := ["source", "many", "taken", "names", "k"]
def a__law_names (K : PySem.W.Frag) : AS :=
  (aSeq (aSet 3 (aLst aNil)) (aSeq (aFor (aRng1 (aCons (aVar 1) aNil)) (aName 4) (aDrop (aBM "list" aAppend (aVar 3) (aCons (aCall Com.F__law_name (fun _ _ => False) (aCons (aVar 0) (aCons (aOp (aCat false) (aVar 3) (aVar 2)) aNil))) aNil)))) (aRet (aVar 3))))
theorem len__law_names : ∀ as κ R E', F__law_names as κ R E' → as.length = (["source", "many", "taken"] : List Str).length := by
  rintro as κ R E' ⟨s, m, tk, rfl, _⟩; rfl
theorem src2_take {s c : Cell} (h : isSrc s) : (([s, c] : AK).take 1).all (okC 1) = true := by
  obtain ⟨ns, i, x, y, rfl, _⟩ := h; rfl
theorem rd__law_names : ∀ as κ R E', F__law_names as κ R E' → a__law_names K (endsA K κ.length R) (startA N__law_names as) κ := by
  rintro as κ R E' ⟨s, m, tk, rfl, rfl, hs, h0, h1, htk, h⟩
  refine ⟨Nat.zero_le _, ?_⟩
  refine ⟨by omega, by omega, ?_⟩
  refine for_r (fun i δ κ => ∃ s zs k, δ = [some (.c 0), some (.d (.int m)), some (.d (.list (tk.map .str))), some (.c 1), k] ∧ κ = [s, .ld (zs.map .str)] ∧ isSrc s ∧ zs.length = i ∧ zs.Nodup ∧ ∀ z ∈ zs, isName z ∧ z ∉ tk)
    ⟨s, [], none, rfl, rfl, hs, rfl, .nil, (fun z hz => by cases hz)⟩ ?_ ?_
  · rintro δ κ ⟨s, zs, k, rfl, rfl, hs, hl, hnd, hz⟩ _
    refine ⟨_, _, (GhR.freeze (show 1 ≤ 2 by decide) 1 _ rfl).trans (GhR.take 1 (Nat.le_refl _) (show 1 ≤ 2 by decide) (src2_take hs.fz) rfl), h _ _ hs.fz hl hnd hz⟩
  · rintro i δ κ hi ⟨s, zs, k, rfl, rfl, hs, hl, hnd, hz⟩ _
    refine ⟨rfl, zs.map .str, tk.map .str, rfl, rfl, ?_, ?_⟩
    · rw [List.length_map, List.length_map]; exact sl100 (by omega)
    rw [← List.map_append]
    refine name_w hs (by rw [List.length_append]; omega) fun z s' hs' hn hnin => ?_
    refine ⟨?_, s', zs ++ [z], _, rfl, ?_, hs', by simp [hl], ?_, fun x hx => ?_⟩
    · rw [List.length_map]; exact Nat.lt_of_lt_of_le (show zs.length < 10000 by omega) (by decide)
    · simp
    · rw [List.nodup_append]
      refine ⟨hnd, by simp, fun x hx y hy e => ?_⟩
      rw [List.mem_singleton.mp hy] at e
      subst e
      exact hnin (List.mem_append_left _ hx)
    · rcases List.mem_append.mp hx with y | y
      · exact hz x y
      · rw [List.mem_singleton.mp y]; exact ⟨hn, fun z => hnin (List.mem_append_right _ z)⟩
theorem names_w {s : Cell} {κr : AK} {m : Int} {tk : List Str} {E : AX → AK → Prop} {R : AR} (hs : isSrc s) (h0 : 0 ≤ m) (h1 : m ≤ 1000) (ht : tk.length ≤ 1000)
    (k : ∀ (zs : List Str) (s' : Cell), isSrc s' → zs.length = m.toNat → zs.Nodup → (∀ z ∈ zs, isName z ∧ z ∉ tk) → R (.d (.list (zs.map .str))) (s' :: κr)) : callW F__law_names E [.c 0, .d (.int m), .d (.list (tk.map .str))] (s :: κr) R :=
  callW_i ⟨[0], _, _, by decide, rfl, sel0 hs, s, m, tk, rfl, rfl, hs, h0, h1, ht, fun zs s' hs' hl hn hz => ⟨Nat.le_refl _, cl1 hs', rfl, k zs s' hs' hl hn hz⟩⟩
/-! ### the world of a pact -/
def wD (ps : List Str) (er : List (Str × Nat)) (rm : Int) (lb : List Str) (dp : Int) : List (L2.Key × PyData) :=
  [(.inr "parties", .list (ps.map .str)), (.inr "earlier", .list (er.map fun p => .tuple [.str p.1, .int p.2])), (.inr "room", .int rm), (.inr "labels", .list (lb.map .str)), (.inr "deep", .int dp)]
structure okW (ps : List Str) (er : List (Str × Nat)) (lb : List Str) : Prop where
  p : ∀ x ∈ ps, isName x
  pn : ps.Nodup
  pl : ps.length ≤ 6
  pp : 0 < ps.length
  e : ∀ x ∈ er, isName x.1 ∧ 0 < x.2 ∧ x.2 ≤ 6
  el : er.length ≤ 1000
  l : ∀ x ∈ lb, isName x
  ll : lb.length ≤ 1000
  lp : 0 < lb.length
theorem kne {a b : Str} (h : a ≠ b) : (Sum.inr a : L2.Key) ≠ .inr b := fun e => h (Sum.inr.inj e)
section
variable {ps : List Str} {er : List (Str × Nat)} {rm rm' dp : Int} {lb : List Str}
theorem get_p : valD (wD ps er rm lb dp) (.inr "parties") = some (.list (ps.map .str)) := valD_pos rfl
theorem get_e : valD (wD ps er rm lb dp) (.inr "earlier") = some (.list (er.map fun p => .tuple [.str p.1, .int p.2])) := (valD_neg (kne (by decide +kernel))).trans (valD_pos rfl)
theorem get_r : valD (wD ps er rm lb dp) (.inr "room") = some (.int rm) := (valD_neg (kne (by decide +kernel))).trans ((valD_neg (kne (by decide +kernel))).trans (valD_pos rfl))
theorem get_l : valD (wD ps er rm lb dp) (.inr "labels") = some (.list (lb.map .str)) := (valD_neg (kne (by decide +kernel))).trans ((valD_neg (kne (by decide +kernel))).trans ((valD_neg (kne (by decide +kernel))).trans (valD_pos rfl)))
theorem get_d : valD (wD ps er rm lb dp) (.inr "deep") = some (.int dp) := (valD_neg (kne (by decide +kernel))).trans ((valD_neg (kne (by decide +kernel))).trans ((valD_neg (kne (by decide +kernel))).trans ((valD_neg (kne (by decide +kernel))).trans (valD_pos rfl))))
theorem s_er : ("earlier" : Str) ≠ "room" := by decide +kernel
theorem s_pr : ("parties" : Str) ≠ "room" := by decide +kernel
theorem s_lr : ("labels" : Str) ≠ "room" := by decide +kernel
theorem s_dr : ("deep" : Str) ≠ "room" := by decide +kernel
theorem s_pl : ("parties" : Str) ≠ "labels" := by decide +kernel
theorem s_el : ("earlier" : Str) ≠ "labels" := by decide +kernel
theorem s_rl : ("room" : Str) ≠ "labels" := by decide +kernel
theorem s_pd : ("parties" : Str) ≠ "deep" := by decide +kernel
theorem s_ed : ("earlier" : Str) ≠ "deep" := by decide +kernel
theorem s_rd : ("room" : Str) ≠ "deep" := by decide +kernel
theorem s_ld : ("labels" : Str) ≠ "deep" := by decide +kernel
theorem s_pe : ("parties" : Str) ≠ "earlier" := by decide +kernel
theorem put_r : putD (wD ps er rm lb dp) (.inr "room") (.int rm') = wD ps er rm' lb dp := by
  simp [putD, wD, s_er, s_pr, s_lr, s_dr]
theorem mk_w {a b c : PyData} : mergeD [] [(.inr "parties", a), (.inr "earlier", b), (.inr "room", c)] = [(.inr "parties", a), (.inr "earlier", b), (.inr "room", c)] := by
  simp [mergeD, putD, s_pr, s_er, s_pe]
theorem put_l {a b c d : PyData} : putD [(.inr "parties", a), (.inr "earlier", b), (.inr "room", c)] (.inr "labels") d = [(.inr "parties", a), (.inr "earlier", b), (.inr "room", c), (.inr "labels", d)] := by
  simp [putD, s_pl, s_el, s_rl]
theorem put_d {a b c d e : PyData} : putD [(.inr "parties", a), (.inr "earlier", b), (.inr "room", c), (.inr "labels", d)] (.inr "deep") e = [(.inr "parties", a), (.inr "earlier", b), (.inr "room", c), (.inr "labels", d), (.inr "deep", e)] := by
  simp [putD, s_pd, s_ed, s_rd, s_ld]
end
theorem str_at {xs : List Str} {i : Int} (h0 : 0 ≤ i) (h : i < xs.length) : ∃ z, z ∈ xs ∧ atI (xs.map PyData.str) i = some (.str z) ∧ (xs.map PyData.str)[i.toNat]? = some (.str z) := by
  obtain ⟨w, hw, hm, hg⟩ := at_mem (xs := xs.map PyData.str) h0 (by rw [List.length_map]; exact h)
  obtain ⟨z, hz, rfl⟩ := List.mem_map.mp hm
  exact ⟨z, hz, hw, hg⟩
theorem sel01 {s : Cell} {kv : List (L2.Key × PyData)} {κr : AK} (h : isSrc s) : selK [0, 1] (s :: .dK kv :: κr) = some [s, .dK kv] := by
  show (match some s, (if true = true then some [Cell.dK kv] else none) with | some c, some cs => if clC c = true then some (c :: cs) else none | _, _ => none) = _
  simp [h.cl.1]
theorem sel02 {s c1 : Cell} {kv : List (L2.Key × PyData)} {κr : AK} (h : isSrc s) : selK [0, 2] (s :: c1 :: .dK kv :: κr) = some [s, .dK kv] := by
  show (match some s, (if true = true then some [Cell.dK kv] else none) with | some c, some cs => if clC c = true then some (c :: cs) else none | _, _ => none) = _
  simp [h.cl.1]
theorem cl2 {s : Cell} {kv : List (L2.Key × PyData)} (h : isSrc s) : ([s, .dK kv] : AK).all clC = true := by rw [List.all_cons, h.cl.1]; rfl
theorem map_erase {α β : Type} (f : α → β) : ∀ (l : List α) (i : Nat), (l.map f).eraseIdx i = (l.eraseIdx i).map f
  | [], _ => rfl
  | _ :: _, 0 => rfl
  | a :: l, i + 1 => congrArg (f a :: ·) (map_erase f l i)
theorem mem_erase {α : Type} {x : α} : ∀ {l : List α} {i : Nat}, x ∈ l.eraseIdx i → x ∈ l
  | [], _, h => h
  | _ :: _, 0, h => List.mem_cons_of_mem _ h
  | a :: l, i + 1, h => by
    rcases List.mem_cons.mp (show x ∈ a :: l.eraseIdx i from h) with rfl | h
    · exact List.mem_cons_self ..
    · exact List.mem_cons_of_mem _ (mem_erase h)
theorem perm_erase {α : Type} {z : α} : ∀ {l : List α} {i : Nat}, l[i]? = some z → (z :: l.eraseIdx i).Perm l
  | [], _, h => by simp at h
  | a :: l, 0, h => by simp at h; subst h; exact List.Perm.refl _
  | a :: l, i + 1, h => by
    have ih := perm_erase (l := l) (i := i) (z := z) (by simpa using h)
    exact (List.Perm.swap a z (l.eraseIdx i)).trans (ih.cons a)
theorem nodup_move {α : Type} {z : α} {ch l : List α} {i : Nat} (h : (ch ++ l).Nodup) (hz : l[i]? = some z) : ((ch ++ [z]) ++ l.eraseIdx i).Nodup := by
  rw [List.append_assoc]
  exact ((List.Perm.append_left ch (perm_erase hz)).nodup_iff).mpr h
/-! ### a letter -/
def F__law_letter : FSp := fun as κ R _ => ∃ (s : Cell) (ps : List Str) (er : List (Str × Nat)) (rm : Int) (lb : List Str) (dp : Int), as = [.c 0, .c 1] ∧ κ = [s, .dK (wD ps er rm lb dp)] ∧ isSrc s ∧ okW ps er lb ∧
  (∀ s', isSrc s' → R (.d .none) [s', .dK (wD ps er rm lb dp)]) ∧ ∀ s' a b c, isSrc s' → a ∈ ps → b ∈ ps → a ≠ b → isName c → R (.d (.tuple [.str "letter", .str a, .str b, .str c])) [s', .dK (wD ps er rm lb dp)]
abbrev N__law_letter : List Str := ["source", "world", "parties", "sender", "taker"]
def a__law_letter (K : PySem.W.Frag) : AS :=
  (aSeq (aSet 2 (aDGet (aVar 1) (aC (.d (.str "parties"))))) (aSeq (aIfS (aB (aOp aLt (aCB aLen (aCons (aVar 2) aNil)) (aC (.d (.int 2))))) (aRet (aC (.d .none))) aNext) (aSeq (aSet 3 (aCall Com.F__law_pick (fun _ _ => False) (aCons (aVar 0) (aCons (aCB aLen (aCons (aVar 2) aNil)) aNil)))) (aSeq (aSet 4 (aOp aMod (aCB aIntOf (aCons (aOp aAdd (aOp aAdd (aVar 3) (aC (.d (.int 1)))) (aCall Com.F__law_pick (fun _ _ => False) (aCons (aVar 0) (aCons (aOp aSub (aCB aLen (aCons (aVar 2) aNil)) (aC (.d (.int 1)))) aNil)))) aNil)) (aCB aLen (aCons (aVar 2) aNil)))) (aRet (aTup (aCons (aC (.d (.str "letter"))) (aCons (aOp aIx (aVar 2) (aVar 3)) (aCons (aOp aIx (aVar 2) (aVar 4)) (aCons (aOp aIx (aDGet (aVar 1) (aC (.d (.str "labels")))) (aCall Com.F__law_pick (fun _ _ => False) (aCons (aVar 0) (aCons (aCB aLen (aCons (aDGet (aVar 1) (aC (.d (.str "labels")))) aNil)) aNil)))) aNil))))))))))
theorem len__law_letter : ∀ as κ R E', F__law_letter as κ R E' → as.length = (["source", "world"] : List Str).length := by
  rintro as κ R E' ⟨s, m, tk, _, _, _, rfl, _⟩; rfl
theorem rd__law_letter : ∀ as κ R E', F__law_letter as κ R E' → a__law_letter K (endsA K κ.length R) (startA N__law_letter as) κ := by
  rintro as κ R E' ⟨s, ps, er, rm, lb, dp, rfl, rfl, hs, ok, h1, h2⟩
  have lp : (ps.map PyData.str).length = ps.length := List.length_map ..
  have ll : (lb.map PyData.str).length = lb.length := List.length_map ..
  have := ok.pl; have := ok.pp; have := ok.ll; have := ok.lp
  refine ⟨_, .inr "parties", _, rfl, rfl, get_p, ?_⟩
  refine bsel_i (fun _ => ⟨_, _, GhR.refl (Nat.le_refl _), h1 _ hs⟩) fun hl => ?_
  have hl : ¬ (((ps.map PyData.str).length : Nat) : Int) < 2 := of_decide_eq_false hl
  refine pick_w hs (by omega) (by omega) fun v s1 hs1 h10 h11 => ?_
  refine pick_w hs1 (by show (0 : Int) < ((ps.map PyData.str).length : Int) - 1; omega) (by show ((ps.map PyData.str).length : Int) - 1 < 1000000; omega) fun v2 s2 hs2 h20 h21 => ⟨by omega, ?_⟩
  obtain ⟨z1, m1, e1, g1'⟩ := str_at (xs := ps) h10 (by omega)
  have hlp : (0 : Int) < ((ps.map PyData.str).length : Nat) := by omega
  obtain ⟨z2, m2, e2, g2'⟩ := str_at (xs := ps) (i := (v + 1 + v2) % ((ps.map PyData.str).length : Nat)) (Int.emod_nonneg _ (by omega)) (by have := Int.emod_lt_of_pos (v + 1 + v2) hlp; omega)
  refine ⟨_, e1, _, e2, _, .inr "labels", _, rfl, rfl, get_l, _, .inr "labels", _, rfl, rfl, get_l, ?_⟩
  refine pick_w hs2 (by omega) (by omega) fun v3 s3 hs3 h30 h31 => ?_
  obtain ⟨z3, m3, e3, _⟩ := str_at (xs := lb) h30 (by omega)
  refine ⟨_, e3, (show 4 ≤ sizeLine by decide), _, _, GhR.refl (Nat.le_refl _), h2 _ _ _ _ hs3 m1 m2 ?_ (ok.l _ m3)⟩
  -- another place, another party
  have g1 := g1'
  rw [List.getElem?_map] at g1 g2'
  intro e
  subst e
  obtain ⟨y1, hy1, q1⟩ := Option.map_eq_some_iff.mp g1
  obtain ⟨y2, hy2, q2⟩ := Option.map_eq_some_iff.mp g2'
  cases q1; cases q2
  have b1 := (List.getElem?_eq_some_iff.mp hy1).1
  have hinj := (List.getElem?_inj b1 ok.pn).mp (hy1.trans hy2.symm)
  have h21' : v2 < (ps.length : Int) - 1 := by have : v2 < ((ps.map PyData.str).length : Int) - 1 := h21; omega
  have hq : ((ps.map PyData.str).length : Int) = ps.length := by omega
  rw [hq] at hinj
  have hmod := Int.emod_add_mul_ediv (v + 1 + v2) (ps.length : Int)
  have hm0 : 0 ≤ (v + 1 + v2) % (ps.length : Int) := Int.emod_nonneg _ (by omega)
  have hvm : v = (v + 1 + v2) % (ps.length : Int) := by omega
  have hdv : (ps.length : Int) * ((v + 1 + v2) / (ps.length : Int)) = 1 + v2 := by omega
  have hd1 : 0 < (v + 1 + v2) / (ps.length : Int) := by
    rcases Int.lt_or_le 0 ((v + 1 + v2) / (ps.length : Int)) with z | z
    · exact z
    · have := Int.mul_nonpos_of_nonneg_of_nonpos (a := (ps.length : Int)) (by omega) z; omega
  have := Int.mul_le_mul_of_nonneg_left (a := (1 : Int)) (c := (ps.length : Int)) hd1 (by omega)
  omega
theorem letter_w {s : Cell} {κr : AK} {ps : List Str} {er : List (Str × Nat)} {rm : Int} {lb : List Str} {dp : Int} {E : AX → AK → Prop} {R : AR} (hs : isSrc s) (ok : okW ps er lb)
    (h1 : ∀ s', isSrc s' → R (.d .none) (s' :: .dK (wD ps er rm lb dp) :: κr)) (h2 : ∀ s' a b c, isSrc s' → a ∈ ps → b ∈ ps → a ≠ b → isName c → R (.d (.tuple [.str "letter", .str a, .str b, .str c])) (s' :: .dK (wD ps er rm lb dp) :: κr)) :
    callW F__law_letter E [.c 0, .c 1] (s :: .dK (wD ps er rm lb dp) :: κr) R :=
  callW_i ⟨[0, 1], _, _, by decide, rfl, sel01 hs, s, ps, er, rm, lb, dp, rfl, rfl, hs, ok, fun s' hs' => ⟨Nat.le_refl _, cl2 hs', rfl, h1 s' hs'⟩, fun s' a b c hs' ha hb hn hc => ⟨Nat.le_refl _, cl2 hs', rfl, h2 s' a b c hs' ha hb hn hc⟩⟩
/-! ### a use -/
def F__law_use : FSp := fun as κ R _ => ∃ (s : Cell) (ps : List Str) (er : List (Str × Nat)) (rm : Int) (lb : List Str) (dp : Int), as = [.c 0, .c 1] ∧ κ = [s, .dK (wD ps er rm lb dp)] ∧ isSrc s ∧ okW ps er lb ∧
  (∀ s', isSrc s' → R (.d .none) [s', .dK (wD ps er rm lb dp)]) ∧ ∀ (s' : Cell) (n : Str) (qs : List Str), isSrc s' → (n, qs.length) ∈ er → qs.Nodup → (∀ q ∈ qs, q ∈ ps) → R (.d (.tuple [.str "use", .str n, .tuple (qs.map .str)])) [s', .dK (wD ps er rm lb dp)]
abbrev N__law_use : List Str := ["source", "world", "fits", "name", "many", "left", "chosen", "k", "one"]
def a__law_use (K : PySem.W.Frag) : AS :=
  (aSeq (aSet 2 (aLc (aIter (aDGet (aVar 1) (aC (.d (.str "earlier"))))) (aName 8) (aB (aOp aLe (aOp aIx (aVar 8) (aC (.d (.int 1)))) (aCB aLen (aCons (aDGet (aVar 1) (aC (.d (.str "parties")))) aNil)))) (aVar 8) [8])) (aSeq (aIfS (aNot (aTru (aVar 2))) (aRet (aC (.d .none))) aNext) (aSeq (aAsg (aOp aIx (aVar 2) (aCall Com.F__law_pick (fun _ _ => False) (aCons (aVar 0) (aCons (aCB aLen (aCons (aVar 2) aNil)) aNil)))) (aGTup 2 (aGCons (aName 3) (aGCons (aName 4) aGNil)))) (aSeq (aSet 5 (aCB (aListOf true) (aCons (aDGet (aVar 1) (aC (.d (.str "parties")))) aNil))) (aSeq (aSet 6 (aLst aNil)) (aSeq (aFor (aRng1 (aCons (aVar 4) aNil)) (aName 7) (aDrop (aBM "list" aAppend (aVar 6) (aCons (aBM "list" aPopAt (aVar 5) (aCons (aCall Com.F__law_pick (fun _ _ => False) (aCons (aVar 0) (aCons (aCB aLen (aCons (aVar 5) aNil)) aNil))) aNil)) aNil)))) (aRet (aTup (aCons (aC (.d (.str "use"))) (aCons (aVar 3) (aCons (aCB aTupOf (aCons (aVar 6) aNil)) aNil)))))))))))
theorem len__law_use : ∀ as κ R E', F__law_use as κ R E' → as.length = (["source", "world"] : List Str).length := by
  rintro as κ R E' ⟨s, m, tk, _, _, _, rfl, _⟩; rfl
theorem src_takeW {s : Cell} {kv : List (L2.Key × PyData)} {κr : AK} (h : isSrc s) : ((s :: .dK kv :: κr : AK).take 2).all (okC 2) = true := by
  obtain ⟨ns, i, x, y, rfl, _⟩ := h; rfl
theorem rd__law_use : ∀ as κ R E', F__law_use as κ R E' → a__law_use K (endsA K κ.length R) (startA N__law_use as) κ := by
  rintro as κ R E' ⟨s, ps, er, rm, lb, dp, rfl, rfl, hs, ok, h1, h2⟩
  have lp : (ps.map PyData.str).length = ps.length := List.length_map ..
  have := ok.pl; have := ok.pp; have := ok.el
  refine ⟨_, .inr "earlier", _, rfl, rfl, get_e, ?_⟩
  refine lc_d (fun i acc κ' => κ' = [s, .dK (wD ps er rm lb dp)] ∧ ∃ es : List (Str × Nat), acc = es.map (fun p => .tuple [.str p.1, .int p.2]) ∧ es.length ≤ i ∧ ∀ e ∈ es, e ∈ er ∧ e.2 ≤ ps.length) ⟨rfl, [], rfl, Nat.zero_le _, (fun e he => by cases he)⟩ ?_ ?_
  · rintro acc κ' ⟨rfl, es, rfl, hel, hes⟩
    have le : (es.map (fun p : Str × Nat => PyData.tuple [.str p.1, .int p.2])).length = es.length := List.length_map ..
    have ler : (er.map (fun p : Str × Nat => PyData.tuple [.str p.1, .int p.2])).length = er.length := List.length_map ..
    refine bsel_i (fun _ => ⟨_, _, GhR.refl (Nat.le_refl _), h1 _ hs⟩) fun hn => ?_
    have hne : 0 < es.length := by
      cases es with
      | nil => exact absurd hn (by decide)
      | cons _ _ => exact Nat.succ_pos _
    refine pick_w hs (by omega) (by omega) fun v s1 hs1 h10 h11 => ?_
    obtain ⟨w, hw, hm, _⟩ := at_mem (xs := es.map (fun p : Str × Nat => PyData.tuple [.str p.1, .int p.2])) h10 h11
    obtain ⟨⟨n, k⟩, hmem, rfl⟩ := List.mem_map.mp hm
    obtain ⟨hn1, hk⟩ := hes _ hmem
    have hk : k ≤ ps.length := hk
    refine ⟨_, hw, rfl, _, .inr "parties", _, rfl, rfl, get_p, Nat.zero_le _, by omega, by omega, ?_⟩
    have hlen : ∀ {ch : List Str}, ch.length = ((k : Nat) : Int).toNat → (n, ch.length) ∈ er := fun h => by
      have e : _ = k := h.trans (by omega)
      rw [e]; exact hn1
    refine for_r (fun i δ κ => ∃ (s : Cell) (l ch : List Str) (x : Option AV), δ = [some (.c 0), some (.c 1), some (.d (.list (es.map fun p => .tuple [.str p.1, .int p.2]))), some (.d (.str n)), some (.d (.int k)), some (.c 2), some (.c 3), x, none] ∧ κ = [s, .dK (wD ps er rm lb dp), .ld (l.map .str), .ld (ch.map .str)] ∧ isSrc s ∧ l.length + i = ps.length ∧ ch.length = i ∧ (ch ++ l).Nodup ∧ (∀ z ∈ l, z ∈ ps) ∧ ∀ z ∈ ch, z ∈ ps)
      ⟨s1, ps, [], none, rfl, rfl, hs1, rfl, rfl, ok.pn, (fun z hz => hz), (fun z hz => by cases hz)⟩ ?_ ?_
    · rintro δ κ ⟨s, l, ch, x, rfl, rfl, hs, hl, hc, hnd, hl2, hc2⟩ _
      exact ⟨_, rfl, (show 3 ≤ sizeLine by decide), _, _, GhR.take 2 (Nat.le_refl _) (show 2 ≤ 4 by decide) (src_takeW hs) rfl, h2 _ _ _ hs (hlen hc) (List.nodup_append.mp hnd).1 hc2⟩
    · rintro i δ κ hi ⟨s, l, ch, x, rfl, rfl, hs, hl, hc, hnd, hl2, hc2⟩ _
      have ll : (l.map PyData.str).length = l.length := List.length_map ..
      refine ⟨rfl, rfl, pick_w hs (by omega) (by omega) fun v s2 hs2 h20 h21 => ?_⟩
      obtain ⟨z, hz, _, hg⟩ := str_at (xs := l) h20 (by omega)
      have hg' : l[v.toNat]? = some z := by
        rw [List.getElem?_map] at hg
        obtain ⟨y, hy, q⟩ := Option.map_eq_some_iff.mp hg
        cases q; exact hy
      refine ⟨_, _, rfl, h20, by omega, hg, ?_, ?_⟩
      · rw [List.length_map]; exact Nat.lt_of_lt_of_le (show ch.length < 1000 by omega) (by decide)
      · refine ⟨s2, l.eraseIdx v.toNat, ch ++ [z], _, rfl, ?_, hs2, ?_, by simp [hc], ?_, fun y hy => hl2 _ (mem_erase hy), fun y hy => ?_⟩
        · simp only [List.set_cons_succ, List.set_cons_zero, map_erase, List.map_append, List.map_cons, List.map_nil]
        · rw [List.length_eraseIdx_of_lt (by omega)]; omega
        · exact nodup_move hnd hg'
        · rcases List.mem_append.mp hy with q | q
          · exact hc2 y q
          · rw [List.mem_singleton.mp q]; exact hl2 z hz
  · rintro i x acc κ' hx ⟨rfl, es, rfl, hel, hes⟩
    rw [List.getElem?_map] at hx
    obtain ⟨⟨n, k⟩, hg, rfl⟩ := Option.map_eq_some_iff.mp hx
    refine ⟨_, at_nat (j := 1) rfl, _, .inr "parties", _, rfl, rfl, get_p, bsel_i (fun hc => ?_) fun _ => ⟨rfl, es, rfl, Nat.le_succ_of_le hel, hes⟩⟩
    have hc : ((k : Nat) : Int) ≤ ((ps.map PyData.str).length : Nat) := of_decide_eq_true hc
    have hil := (List.getElem?_eq_some_iff.mp hg).1
    refine ⟨_, rfl, ?_, rfl, es ++ [(n, k)], by simp, by simp; omega, fun e he => ?_⟩
    · rw [List.length_map]; exact Nat.lt_of_lt_of_le (show es.length < 100000 by omega) (by decide)
    · rcases List.mem_append.mp he with q | q
      · exact hes e q
      · rw [List.mem_singleton.mp q]; exact ⟨List.mem_of_getElem? hg, (show k ≤ ps.length by omega)⟩
theorem use_w {s : Cell} {κr : AK} {ps : List Str} {er : List (Str × Nat)} {rm : Int} {lb : List Str} {dp : Int} {E : AX → AK → Prop} {R : AR} (hs : isSrc s) (ok : okW ps er lb)
    (h1 : ∀ s', isSrc s' → R (.d .none) (s' :: .dK (wD ps er rm lb dp) :: κr)) (h2 : ∀ (s' : Cell) (n : Str) (qs : List Str), isSrc s' → (n, qs.length) ∈ er → qs.Nodup → (∀ q ∈ qs, q ∈ ps) → R (.d (.tuple [.str "use", .str n, .tuple (qs.map .str)])) (s' :: .dK (wD ps er rm lb dp) :: κr)) :
    callW F__law_use E [.c 0, .c 1] (s :: .dK (wD ps er rm lb dp) :: κr) R :=
  callW_i ⟨[0, 1], _, _, by decide, rfl, sel01 hs, s, ps, er, rm, lb, dp, rfl, rfl, hs, ok, fun s' hs' => ⟨Nat.le_refl _, cl2 hs', rfl, h1 s' hs'⟩, fun s' a b hs' ha hb hc => ⟨Nat.le_refl _, cl2 hs', rfl, h2 s' a b hs' ha hb hc⟩⟩
/-! ### steps, bodies -/
def FF__law_step (n : Nat) : FSp := fun as κ R _ => ∃ (s : Cell) (D : Int) (d : Nat) (ps : List Str) (er : List (Str × Nat)) (rm : Int) (lb : List Str) (dp : Int), as = [.c 0, .c 1, .d (.int D)] ∧ κ = [s, .dK (wD ps er rm lb dp)] ∧ D = d ∧ isSrc s ∧ okW ps er lb ∧
  d ≤ 8 ∧ dp ≤ 8 ∧ 0 ≤ rm ∧ rm ≤ 100 ∧ 2 * (9 - d) ≤ n + 1 ∧ (∀ s' rm', isSrc s' → 0 ≤ rm' → rm' ≤ rm → R (.d .none) [s', .dK (wD ps er rm' lb dp)]) ∧
  ∀ (s' : Cell) (x : Tr) (rm' : Int), isSrc s' → okS ps er x → dpS x + d ≤ 8 → 0 ≤ rm' → szS x + rm' ≤ rm + 1 → R (.d (dS x)) [s', .dK (wD ps er rm' lb dp)]
def FF__law_body (n : Nat) : FSp := fun as κ R _ => ∃ (s : Cell) (D : Int) (d : Nat) (ps : List Str) (er : List (Str × Nat)) (rm : Int) (lb : List Str) (dp : Int), as = [.c 0, .c 1, .d (.int D)] ∧ κ = [s, .dK (wD ps er rm lb dp)] ∧ D = d ∧ isSrc s ∧ okW ps er lb ∧
  d ≤ 8 ∧ dp ≤ 8 ∧ 0 ≤ rm ∧ rm ≤ 100 ∧ 2 * (9 - d) ≤ n ∧
  ∀ (s' : Cell) (b : List Tr) (rm' : Int), isSrc s' → okB ps er b → dpB b + d ≤ 8 → 0 ≤ rm' → szB b + rm' ≤ rm → R (.d (.tuple (dB b))) [s', .dK (wD ps er rm' lb dp)]
abbrev N__law_step : List Str := ["source", "world", "depth", "kind", "bodies", "made", "k"]
def a__law_step (K : PySem.W.Frag) (F_self__law_body : FSp) : AS :=
  (aSeq (aSet 3 (aCall Com.F__law_pick (fun _ _ => False) (aCons (aVar 0) (aCons (aC (.d (.int 9))) aNil)))) (aCut (aIfS (aAnd (aB (aOp aGt (aVar 3) (aC (.d (.int 4))))) (aAnd (aB (aOp aLt (aVar 3) (aC (.d (.int 8))))) (aB (aOp aLt (aVar 2) (aDGet (aVar 1) (aC (.d (.str "deep")))))))) (aSeq (aIfS (aB (aOp aEq (aVar 3) (aC (.d (.int 7))))) (aRet (aTup (aCons (aC (.d (.str "loop"))) (aCons (aCall F_self__law_body (fun _ _ => False) (aCons (aVar 0) (aCons (aVar 1) (aCons (aOp aAdd (aVar 2) (aC (.d (.int 1)))) aNil)))) aNil)))) aNext) (aSeq (aSet 4 (aLc (aRng1 (aCons (aOp aAdd (aC (.d (.int 1))) (aCall Com.F__law_pick (fun _ _ => False) (aCons (aVar 0) (aCons (aC (.d (.int 3))) aNil)))) aNil)) (aName 6) aYes (aCall F_self__law_body (fun _ _ => False) (aCons (aVar 0) (aCons (aVar 1) (aCons (aOp aAdd (aVar 2) (aC (.d (.int 1)))) aNil)))) [6])) (aRet (aTup (aCons (aOp aIx (aLstD (aCons (aC (.d (.str "choice"))) (aCons (aC (.d (.str "both"))) aNil))) (aOp aSub (aVar 3) (aC (.d (.int 5))))) (aCons (aCB aTupOf (aCons (aVar 4) aNil)) aNil)))))) aNext) (aCut (aIfS (aB (aOp aEq (aVar 3) (aC (.d (.int 8))))) (aSeq (aSet 5 (aCall F__law_use (fun _ _ => False) (aCons (aVar 0) (aCons (aVar 1) aNil)))) (aIfS (aB (aOp (aIsN not) (aVar 5) (aC (.d .none)))) (aRet (aVar 5)) aNext)) aNext) (aRet (aCall F__law_letter (fun _ _ => False) (aCons (aVar 0) (aCons (aVar 1) aNil)))))))
abbrev N__law_body : List Str := ["source", "world", "depth", "steps", "k", "step"]
def a__law_body (K : PySem.W.Frag) (F_self__law_step : FSp) : AS :=
  (aSeq (aSet 3 (aLst aNil)) (aSeq (aFor (aRng1 (aCons (aCall Com.F__law_pick (fun _ _ => False) (aCons (aVar 0) (aCons (aC (.d (.int 4))) aNil))) aNil)) (aName 4) (aIfS (aB (aOp aGt (aDGet (aVar 1) (aC (.d (.str "room")))) (aC (.d (.int 0))))) (aSeq (aDPut (aVar 1) (aC (.d (.str "room"))) (aOp aSub (aDGet (aVar 1) (aC (.d (.str "room")))) (aC (.d (.int 1))))) (aSeq (aSet 5 (aCall F_self__law_step (fun _ _ => False) (aCons (aVar 0) (aCons (aVar 1) (aCons (aVar 2) aNil))))) (aIfS (aB (aOp (aIsN not) (aVar 5) (aC (.d .none)))) (aDrop (aBM "list" aAppend (aVar 3) (aCons (aVar 5) aNil))) aNext))) aNext)) (aRet (aCB aTupOf (aCons (aVar 3) aNil)))))
theorem len__law_step (n : Nat) : ∀ as κ R E', FF__law_step n as κ R E' → as.length = (["source", "world", "depth"] : List Str).length := by
  rintro as κ R E' ⟨s, m, tk, _, _, _, _, _, rfl, _⟩; rfl
theorem len__law_body (n : Nat) : ∀ as κ R E', FF__law_body n as κ R E' → as.length = (["source", "world", "depth"] : List Str).length := by
  rintro as κ R E' ⟨s, m, tk, _, _, _, _, _, rfl, _⟩; rfl
theorem rd0__law_step {as κ R E'} (h : FF__law_step 0 as κ R E') : False := by
  obtain ⟨s, D, d, ps, er, rm, lb, dp, _, _, _, _, _, hd, _, _, _, hn, _⟩ := h; omega
theorem rd0__law_body {as κ R E'} (h : FF__law_body 0 as κ R E') : False := by
  obtain ⟨s, D, d, ps, er, rm, lb, dp, _, _, _, _, _, hd, _, _, _, hn, _⟩ := h; omega
section
variable {s : Cell} {κr : AK} {n : Nat} {D : Int} {d : Nat} {ps : List Str} {er : List (Str × Nat)} {rm : Int} {lb : List Str} {dp : Int} {E : AX → AK → Prop} {R : AR} {kv : List (L2.Key × PyData)}
theorem step_w (hk : kv = wD ps er rm lb dp) (hD : D = d) (hs : isSrc s) (ok : okW ps er lb) (h8 : d ≤ 8) (hp8 : dp ≤ 8) (h0 : 0 ≤ rm) (h100 : rm ≤ 100) (hn : 2 * (9 - d) ≤ n + 1)
    (h1 : ∀ s' rm', isSrc s' → 0 ≤ rm' → rm' ≤ rm → R (.d .none) (s' :: .dK (wD ps er rm' lb dp) :: κr))
    (h2 : ∀ (s' : Cell) (x : Tr) (rm' : Int), isSrc s' → okS ps er x → dpS x + d ≤ 8 → 0 ≤ rm' → szS x + rm' ≤ rm + 1 → R (.d (dS x)) (s' :: .dK (wD ps er rm' lb dp) :: κr)) :
    callW (FF__law_step n) E [.c 0, .c 1, .d (.int D)] (s :: .dK kv :: κr) R := by
  subst hk
  exact callW_i ⟨[0, 1], _, _, by decide, rfl, sel01 hs, s, D, d, ps, er, rm, lb, dp, rfl, rfl, hD, hs, ok, h8, hp8, h0, h100, hn, fun s' rm' hs' a b => ⟨Nat.le_refl _, cl2 hs', rfl, h1 s' rm' hs' a b⟩,
    fun s' x rm' hs' hx hd a b => by obtain ⟨l, el⟩ := dS_tup x; have := h2 s' x rm' hs' hx hd a b; rw [el] at this ⊢; exact ⟨Nat.le_refl _, cl2 hs', rfl, this⟩⟩
theorem body_w (hk : kv = wD ps er rm lb dp) (hD : D = d) (hs : isSrc s) (ok : okW ps er lb) (h8 : d ≤ 8) (hp8 : dp ≤ 8) (h0 : 0 ≤ rm) (h100 : rm ≤ 100) (hn : 2 * (9 - d) ≤ n)
    (h2 : ∀ (s' : Cell) (b : List Tr) (rm' : Int), isSrc s' → okB ps er b → dpB b + d ≤ 8 → 0 ≤ rm' → szB b + rm' ≤ rm → R (.d (.tuple (dB b))) (s' :: .dK (wD ps er rm' lb dp) :: κr)) :
    callW (FF__law_body n) E [.c 0, .c 1, .d (.int D)] (s :: .dK kv :: κr) R := by
  subst hk
  exact callW_i ⟨[0, 1], _, _, by decide, rfl, sel01 hs, s, D, d, ps, er, rm, lb, dp, rfl, rfl, hD, hs, ok, h8, hp8, h0, h100, hn, fun s' b rm' hs' hx hd a c => ⟨Nat.le_refl _, cl2 hs', rfl, h2 s' b rm' hs' hx hd a c⟩⟩
theorem body_w2 {c1 : Cell} (hk : kv = wD ps er rm lb dp) (hD : D = d) (hs : isSrc s) (ok : okW ps er lb) (h8 : d ≤ 8) (hp8 : dp ≤ 8) (h0 : 0 ≤ rm) (h100 : rm ≤ 100) (hn : 2 * (9 - d) ≤ n)
    (h2 : ∀ (s' : Cell) (b : List Tr) (rm' : Int), isSrc s' → okB ps er b → dpB b + d ≤ 8 → 0 ≤ rm' → szB b + rm' ≤ rm → R (.d (.tuple (dB b))) (s' :: c1 :: .dK (wD ps er rm' lb dp) :: κr)) :
    callW (FF__law_body n) E [.c 0, .c 2, .d (.int D)] (s :: c1 :: .dK kv :: κr) R := by
  subst hk
  exact callW_i ⟨[0, 2], _, _, by decide, rfl, sel02 hs, s, D, d, ps, er, rm, lb, dp, rfl, rfl, hD, hs, ok, h8, hp8, h0, h100, hn, fun s' b rm' hs' hx hd a c => ⟨Nat.le_refl _, cl2 hs', rfl, h2 s' b rm' hs' hx hd a c⟩⟩
end
theorem rd__law_body (n : Nat) : ∀ as κ R E', FF__law_body (n + 1) as κ R E' → a__law_body K (FF__law_step n) (endsA K κ.length R) (startA N__law_body as) κ := by
  rintro as κ R E' ⟨s, D, d, ps, er, rm, lb, dp, rfl, rfl, hD, hs, ok, h8, hp8, h0, h100, hn, h⟩
  refine ⟨Nat.zero_le _, pick_w hs (by decide) (by decide) fun v s1 hs1 h10 h11 => ⟨by omega, by omega, ?_⟩⟩
  refine for_r (fun i δ κ => ∃ (s : Cell) (rm' : Int) (b : List Tr) (x y : Option AV), δ = [some (.c 0), some (.c 1), some (.d (.int D)), some (.c 2), x, y] ∧ κ = [s, .dK (wD ps er rm' lb dp), .ld (dB b)] ∧ isSrc s ∧ okB ps er b ∧ dpB b + d ≤ 8 ∧ 0 ≤ rm' ∧ szB b + rm' ≤ rm)
    ⟨s1, rm, [], none, none, rfl, rfl, hs1, trivial, (by show 0 + d ≤ 8; omega), h0, (by show (0 : Int) + rm ≤ rm; omega)⟩ ?_ ?_
  · rintro δ κ ⟨s, rm', b, x, y, rfl, rfl, hs, hb, hdb, hr0, hr⟩ _
    exact ⟨_, rfl, _, _, GhR.take 2 (Nat.le_refl _) (show 2 ≤ 3 by decide) (src_takeW hs) rfl, h _ _ _ hs hb hdb hr0 hr⟩
  · rintro i δ κ hi ⟨s, rm', b, x, y, rfl, rfl, hs, hb, hdb, hr0, hr⟩ _
    refine ⟨_, .inr "room", _, rfl, rfl, get_r, bsel_i (fun hc => ?_) fun _ => ⟨s, rm', b, _, _, rfl, rfl, hs, hb, hdb, hr0, hr⟩⟩
    have hc : (0 : Int) < rm' := of_decide_eq_true hc
    refine ⟨_, .inr "room", _, rfl, rfl, get_r, _, .inr "room", _, rfl, rfl, rfl, (show 5 < sizeLine by decide), ?_⟩
    refine step_w (rm := rm' - 1) put_r hD hs ok h8 hp8 (by omega) (by omega) hn (fun s2 rm2 hs2 a c => ?_) fun s2 x rm2 hs2 hx hdx a c => ?_
    · exact ⟨s2, rm2, b, _, _, rfl, rfl, hs2, hb, hdb, a, by omega⟩
    · have hcnt := szB_cnt b
      have e : dB (b ++ [x]) = dB b ++ [dS x] := by rw [dB_map, dB_map, List.map_append]; rfl
      have hin : ∃ (s : Cell) (rm' : Int) (b' : List Tr) (x' y : Option AV), [some (AV.c 0), some (.c 1), some (.d (.int D)), some (.c 2), some (.d (.int (0 + (i : Int)))), some (.d (dS x))] = [some (.c 0), some (.c 1), some (.d (.int D)), some (.c 2), x', y] ∧ [s2, .dK (wD ps er rm2 lb dp), Cell.ld (dB b ++ [dS x])] = [s, .dK (wD ps er rm' lb dp), .ld (dB b')] ∧ isSrc s ∧ okB ps er b' ∧ dpB b' + d ≤ 8 ∧ 0 ≤ rm' ∧ szB b' + rm' ≤ rm :=
        ⟨s2, rm2, b ++ [x], _, _, rfl, by rw [e], hs2, okB_all.mpr fun s hs => by
          rcases List.mem_append.mp hs with q | q
          · exact okB_all.mp hb s q
          · rw [List.mem_singleton.mp q]; exact hx, by
          have : dpB (b ++ [x]) ≤ 8 - d := dpB_le.mpr fun s hs => by
            rcases List.mem_append.mp hs with q | q
            · exact dpB_le.mp (by omega) s q
            · rw [List.mem_singleton.mp q]; omega
          omega, a, by rw [szB_app]; show ((szB b + (szS x + 0) : Nat) : Int) + rm2 ≤ rm; omega⟩
      obtain ⟨l, el⟩ := dS_tup x
      rw [el] at hin ⊢
      refine ⟨rfl, ?_, hin⟩
      rw [dB_len]
      exact Nat.lt_of_lt_of_le (show b.length < 1000 by omega) (by decide)
theorem rd__law_step (n : Nat) : ∀ as κ R E', FF__law_step (n + 1) as κ R E' → a__law_step K (FF__law_body n) (endsA K κ.length R) (startA N__law_step as) κ := by
  rintro as κ R E' ⟨s, D, d, ps, er, rm, lb, dp, rfl, rfl, hD, hs, ok, h8, hp8, h0, h100, hn, h1, h2⟩
  refine pick_w hs (by decide) (by decide) fun v s1 hs1 h10 h11 => ?_
  refine ⟨fun δ κ => δ = [some (.c 0), some (.c 1), some (.d (.int D)), some (.d (.int v)), none, none, none] ∧ κ = [s1, .dK (wD ps er rm lb dp)], ?_, ?_⟩
  · refine bsel_i (fun hv4 => bsel_i (fun hv8 => ⟨_, .inr "deep", _, rfl, rfl, get_d, bsel_i (fun hdp => ?_) fun _ => ⟨rfl, rfl⟩⟩) fun _ => ⟨rfl, rfl⟩) fun _ => ⟨rfl, rfl⟩
    have hv4 : (4 : Int) < v := of_decide_eq_true hv4
    have hv8 : v < 8 := of_decide_eq_true hv8
    have hdp : D < dp := of_decide_eq_true hdp
    have hd8 : d < 8 := by omega
    refine bsel_i (fun hv7 => ?_) fun hv7 => ?_
    · refine body_w (d := d + 1) rfl (by omega) hs1 ok (by omega) hp8 h0 h100 (by omega) fun s2 b rm2 hs2 hb hdb a c => ?_
      exact ⟨(show 2 ≤ sizeLine by decide), _, _, GhR.refl (Nat.le_refl _), h2 _ (.loop b) _ hs2 hb (by show dpB b + 1 + d ≤ 8; omega) a (by show ((szB b + 1 : Nat) : Int) + rm2 ≤ rm + 1; omega)⟩
    · have hv7 : v ≠ 7 := of_decide_eq_false hv7
      refine pick_w hs1 (by decide) (by decide) fun w' s2 hs2 h20 h21 => ⟨by omega, by omega, ?_⟩
      refine lc_r (fun i acc κ' => ∃ (s : Cell) (rm' : Int) (bs : List (List Tr)), κ' = [s, .dK (wD ps er rm' lb dp)] ∧ acc = dBs bs ∧ isSrc s ∧ (∀ b ∈ bs, okB ps er b ∧ dpB b + d ≤ 7) ∧ bs.length = i ∧ 0 ≤ rm' ∧ szBs bs + rm' ≤ rm)
        ⟨s2, rm, [], rfl, rfl, hs2, (fun x hx => by cases hx), rfl, h0, (by show (0 : Int) + rm ≤ rm; omega)⟩ ?_ ?_
      · rintro acc κ' ⟨s, rm', bs, rfl, rfl, hs, hb, hl, hr0, hr⟩
        refine ⟨(show 2 ≤ sizeLine by decide), ?_⟩
        have : ∃ w : Bool, atI ([.str "choice", .str "both"] : List PyData) (v - 5) = some (.str (brW w)) := by
          by_cases e5 : v = 5
          · subst e5; exact ⟨false, at_nat (j := 0) rfl⟩
          · have e6 : v = 6 := by omega
            subst e6; exact ⟨true, at_nat (j := 1) rfl⟩
        obtain ⟨w, hat⟩ := this
        refine ⟨_, hat, _, rfl, (show 2 ≤ sizeLine by decide), _, _, GhR.refl (Nat.le_refl _), h2 _ (.br w bs) _ hs ⟨fun e => ?_, by omega, okBs_all.mpr fun b q => (hb b q).1⟩ ?_ hr0 (by show ((szBs bs + 1 : Nat) : Int) + rm' ≤ rm + 1; omega)⟩
        · subst e
          have : (0 : Nat) = (1 + w' : Int).toNat := hl
          omega
        · have : dpBs bs ≤ 7 - d := dpBs_le.mpr fun b q => by have := (hb b q).2; omega
          show dpBs bs + 1 + d ≤ 8; omega
      · rintro i acc κ' hi ⟨s, rm', bs, rfl, rfl, hs, hb, hl, hr0, hr⟩
        refine body_w (d := d + 1) rfl (by omega) hs ok (by omega) hp8 hr0 (by omega) (by omega) fun s3 b rm3 hs3 hb3 hdb a c => ?_
        refine ⟨_, rfl, ?_, s3, rm3, bs ++ [b], rfl, by rw [dBs_map, dBs_map, List.map_append]; rfl, hs3, fun x hx => ?_, by simp [hl], a, ?_⟩
        · rw [dBs_len]; exact Nat.lt_of_lt_of_le (show bs.length < 100 by omega) (by decide)
        · rcases List.mem_append.mp hx with q | q
          · exact hb x q
          · rw [List.mem_singleton.mp q]; exact ⟨hb3, by omega⟩
        · rw [szBs_map, List.map_append, List.sum_append, ← szBs_map]; show ((szBs bs + (szB b + 0) : Nat) : Int) + rm3 ≤ rm; omega
  · rintro δ κ ⟨rfl, rfl⟩ _
    refine ⟨fun δ κ => ∃ (s : Cell) (x : Option AV), δ = [some (.c 0), some (.c 1), some (.d (.int D)), some (.d (.int v)), none, x, none] ∧ κ = [s, .dK (wD ps er rm lb dp)] ∧ isSrc s, ?_, ?_⟩
    · refine bsel_i (fun _ => ?_) fun _ => ⟨s1, _, rfl, rfl, hs1⟩
      refine use_w hs1 ok (fun s2 hs2 => ⟨s2, _, rfl, rfl, hs2⟩) fun s2 n qs hs2 hn hq h6 => ?_
      exact ⟨_, _, GhR.refl (Nat.le_refl _), h2 _ (.use n qs) _ hs2 ⟨hn, hq, h6⟩ (by show 0 + d ≤ 8; omega) h0 (by show (1 : Int) + rm ≤ rm + 1; omega)⟩
    · rintro δ κ ⟨s, x, rfl, rfl, hs⟩ _
      refine letter_w hs ok (fun s2 hs2 => ⟨_, _, GhR.refl (Nat.le_refl _), h1 _ _ hs2 h0 (Int.le_refl _)⟩) fun s2 a b c hs2 ha hb hne hc => ⟨_, _, GhR.refl (Nat.le_refl _), h2 _ (.letter a b c) _ hs2 ⟨ha, hb, hne, hc⟩ (by show 0 + d ≤ 8; omega) h0 (by show (1 : Int) + rm ≤ rm + 1; omega)⟩
/-! ### pacts, books -/
structure Pct where
  name : Str
  ps : List Str
  body : List Tr
def pctD (p : Pct) : PyData := .tuple [.str "pact", .str p.name, .tuple (p.ps.map .str), .tuple (dB p.body)]
def earl (bk : List Pct) : List (Str × Nat) := bk.map fun p => (p.name, p.ps.length)
structure okP (room : Int) (er : List (Str × Nat)) (p : Pct) : Prop where
  n : isName p.name
  fresh : ∀ e ∈ er, e.1 ≠ p.name
  pa : ∀ x ∈ p.ps, isName x
  pn : p.ps.Nodup
  pl : p.ps.length ≤ 6
  pp : 0 < p.ps.length
  b : okB p.ps er p.body
  d : dpB p.body ≤ 8
  z : (szB p.body : Int) ≤ room
def okBk (room : Int) (bk : List Pct) : Prop := ∀ (i : Nat) (p : Pct), bk[i]? = some p → okP room (earl (bk.take i)) p
theorem okBk.snoc {room : Int} {bk : List Pct} {p : Pct} (h : okBk room bk) (hp : okP room (earl bk) p) : okBk room (bk ++ [p]) := by
  intro i q hq
  rcases get_snoc hq with ⟨l, e⟩ | ⟨l, e⟩
  · rw [List.take_append_of_le_length (Nat.le_of_lt l)]
    exact h i q e
  · subst l; subst e
    rw [List.take_append_of_le_length (Nat.le_refl _), List.take_of_length_le (Nat.le_refl _)]
    exact hp
def F__law_book : FSp := fun as κ R _ => ∃ (s : Cell) (most room : Int), as = [.c 0, .d (.int most), .d (.int room)] ∧ κ = [s] ∧ isSrc s ∧ 0 < most ∧ most ≤ 10 ∧ 0 ≤ room ∧ room ≤ 100 ∧
  ∀ (s' : Cell) (bk : List Pct), isSrc s' → okBk room bk → 0 < bk.length → bk.length ≤ most → R (.d (.list (bk.map pctD))) [s']
abbrev N__law_book : List Str := ["source", "most", "room", "book", "names", "earlier", "name", "world", "body"]
def a__law_book (K : PySem.W.Frag) : AS :=
  (aSeq (aSet 3 (aLst aNil)) (aSeq (aSet 4 (aCall F__law_names (fun _ _ => False) (aCons (aVar 0) (aCons (aOp aAdd (aC (.d (.int 1))) (aCall Com.F__law_pick (fun _ _ => False) (aCons (aVar 0) (aCons (aVar 1) aNil)))) (aCons (aLstD aNil) aNil))))) (aSeq (aSet 5 (aLstD aNil)) (aSeq (aFor (aIter (aVar 4)) (aName 6) (aSeq (aSet 7 (aDisp (aPCons (aC (.d (.str "parties"))) (aCall F__law_names (fun _ _ => False) (aCons (aVar 0) (aCons (aOp aAdd (aC (.d (.int 1))) (aCall Com.F__law_pick (fun _ _ => False) (aCons (aVar 0) (aCons (aC (.d (.int 6))) aNil)))) (aCons (aLstD aNil) aNil)))) (aPCons (aC (.d (.str "earlier"))) (aVar 5) (aPCons (aC (.d (.str "room"))) (aVar 2) aPNil))))) (aSeq (aDPut (aVar 7) (aC (.d (.str "labels"))) (aCall F__law_names (fun _ _ => False) (aCons (aVar 0) (aCons (aOp aAdd (aC (.d (.int 1))) (aCall Com.F__law_pick (fun _ _ => False) (aCons (aVar 0) (aCons (aC (.d (.int 4))) aNil)))) (aCons (aLstD aNil) aNil))))) (aSeq (aDPut (aVar 7) (aC (.d (.str "deep"))) (aOp aIx (aLstD (aCons (aC (.d (.int 1))) (aCons (aC (.d (.int 2))) (aCons (aC (.d (.int 3))) (aCons (aC (.d (.int 8))) aNil))))) (aCall Com.F__law_pick (fun _ _ => False) (aCons (aVar 0) (aCons (aC (.d (.int 4))) aNil))))) (aSeq (aSet 8 (aCall (FF__law_body 20) (fun _ _ => False) (aCons (aVar 0) (aCons (aVar 7) (aCons (aC (.d (.int 0))) aNil))))) (aCut (aIfS (aB (aOp aGt (aCall Com.F__law_pick (fun _ _ => False) (aCons (aVar 0) (aCons (aC (.d (.int 4))) aNil))) (aC (.d (.int 0))))) (aSet 8 (aOp aAdd (aVar 8) (aCall (FF__law_body 20) (fun _ _ => False) (aCons (aVar 0) (aCons (aVar 7) (aCons (aC (.d (.int 0))) aNil)))))) aNext) (aSeq (aDrop (aBM "list" aAppend (aVar 3) (aCons (aTup (aCons (aC (.d (.str "pact"))) (aCons (aVar 6) (aCons (aCB aTupOf (aCons (aDGet (aVar 7) (aC (.d (.str "parties")))) aNil)) (aCons (aVar 8) aNil))))) aNil))) (aSeq (aSet 5 (aOp (aCat false) (aVar 5) (aLstD (aCons (aTup (aCons (aVar 6) (aCons (aCB aLen (aCons (aDGet (aVar 7) (aC (.d (.str "parties")))) aNil)) aNil))) aNil)))) (aGh K aNext))))))))) (aRet (aVar 3))))))
theorem len__law_book : ∀ as κ R E', F__law_book as κ R E' → as.length = (["source", "most", "room"] : List Str).length := by
  rintro as κ R E' ⟨s, m, r, rfl, _⟩; rfl
theorem deeps {w : PyData} (h : w ∈ ([.int 1, .int 2, .int 3, .int 8] : List PyData)) : ∃ n : Int, w = .int n ∧ n ≤ 8 := by
  simp only [List.mem_cons, List.mem_nil_iff, or_false] at h
  rcases h with rfl | rfl | rfl | rfl <;> exact ⟨_, rfl, by omega⟩
theorem src_take2 {s : Cell} {ds : List PyData} {κr : AK} (h : isSrc s) : ((s :: .ld ds :: κr : AK).take 2).all (okC 2) = true := by
  obtain ⟨ns, i, x, y, rfl, _⟩ := h; rfl
theorem rd__law_book : ∀ as κ R E', F__law_book as κ R E' → a__law_book K (endsA K κ.length R) (startA N__law_book as) κ := by
  rintro as κ R E' ⟨s, most, room, rfl, rfl, hs, hm0, hm1, hr0, hr1, h⟩
  refine ⟨Nat.zero_le _, pick_w hs hm0 (by omega) fun v s1 hs1 h10 h11 => ⟨Nat.zero_le _, ?_⟩⟩
  refine names_w (tk := []) hs1 (by omega) (by omega) (Nat.zero_le _) fun zs s2 hs2 hzl hznd hz => ⟨Nat.zero_le _, ?_⟩
  refine for_d (fun i δ κ => ∃ (s : Cell) (bk : List Pct) (x6 x7 x8 : Option AV), δ = [some (.c 0), some (.d (.int most)), some (.d (.int room)), some (.c 1), some (.d (.list (zs.map .str))), some (.d (.list ((earl bk).map fun p => .tuple [.str p.1, .int p.2]))), x6, x7, x8] ∧ κ = [s, .ld (bk.map pctD)] ∧ isSrc s ∧ okBk room bk ∧ bk.length = i ∧ bk.map (·.name) = zs.take i)
    ⟨s2, [], none, none, none, rfl, rfl, hs2, (fun i p hp => by simp at hp), rfl, rfl⟩ ?_ ?_
  · rintro δ κ ⟨s, bk, x6, x7, x8, rfl, rfl, hs, hb, hbl, he⟩ _
    rw [List.length_map] at hbl
    exact ⟨_, _, (GhR.freeze (show 1 ≤ 2 by decide) 1 _ rfl).trans (GhR.take 1 (Nat.le_refl _) (show 1 ≤ 2 by decide) (src2_take hs.fz) rfl), h _ bk hs.fz hb (by omega) (by omega)⟩
  · rintro i x δ κ hx ⟨s, bk, x6, x7, x8, rfl, rfl, hs, hb, hbl, he⟩ _
    rw [List.getElem?_map] at hx
    obtain ⟨name, hg, rfl⟩ := Option.map_eq_some_iff.mp hx
    have hname := List.mem_of_getElem? hg
    have hil : i < zs.length := (List.getElem?_eq_some_iff.mp hg).1
    have hel : (earl bk).length = i := by unfold earl; rw [List.length_map]; exact hbl
    have hpct : ∀ q ∈ bk, ∃ er, okP room er q := fun q hq => by
      obtain ⟨j, hj⟩ := List.mem_iff_getElem?.mp hq
      exact ⟨_, hb j q hj⟩
    refine pick_w hs (by decide) (by decide) fun v3 s3 hs3 h30 h31 => ⟨Nat.zero_le _, ?_⟩
    refine names_w (tk := []) hs3 (by omega) (by omega) (Nat.zero_le _) fun ps s4 hs4 hpl hpnd hps => ?_
    refine ⟨[(.inr "parties", .list (ps.map .str)), (.inr "earlier", .list ((earl bk).map fun p => .tuple [.str p.1, .int p.2])), (.inr "room", .int room)], rfl, (show 3 ≤ 15 by decide), ?_⟩
    refine pick_w hs4 (by decide) (by decide) fun v5 s5 hs5 h50 h51 => ⟨Nat.zero_le _, ?_⟩
    refine names_w (tk := []) hs5 (by omega) (by omega) (Nat.zero_le _) fun lb s6 hs6 hll hlnd hlb => ?_
    refine ⟨_, .inr "labels", _, rfl, rfl, rfl, (by rw [mk_w]; exact (show 3 < sizeLine by decide)), ?_⟩
    refine ⟨(show 4 ≤ sizeLine by decide), pick_w hs6 (by decide) (by decide) fun v7 s7 hs7 h70 h71 => ?_⟩
    obtain ⟨w, hw, hwm, _⟩ := at_mem (xs := ([.int 1, .int 2, .int 3, .int 8] : List PyData)) h70 h71
    obtain ⟨dp, rfl, hdp⟩ := deeps hwm
    refine ⟨_, hw, _, .inr "deep", _, rfl, rfl, rfl, (by rw [mk_w, put_l]; exact (show 4 < sizeLine by decide)), ?_⟩
    have ok : okW ps (earl bk) lb := ⟨fun x hx => (hps x hx).1, hpnd, by omega, by omega, fun e he => (by
      obtain ⟨q, hq, rfl⟩ := List.mem_map.mp he
      obtain ⟨er, oq⟩ := hpct q hq
      exact ⟨oq.n, oq.pp, oq.pl⟩), by omega, fun x hx => (hlb x hx).1, by omega, by omega⟩
    refine body_w2 (d := 0) (ps := ps) (er := earl bk) (rm := room) (lb := lb) (dp := dp) (by rw [mk_w, put_l, put_d]; rfl) rfl hs7 ok (by decide) hdp hr0 hr1 (by decide) fun s8 body rm8 hs8 hbd hd8 h80 h81 => ?_
    refine ⟨fun δ κ => ∃ (s : Cell) (body : List Tr) (rm : Int), δ = [some (.c 0), some (.d (.int most)), some (.d (.int room)), some (.c 1), some (.d (.list (zs.map .str))), some (.d (.list ((earl bk).map fun p => .tuple [.str p.1, .int p.2]))), some (.d (.str name)), some (.c 2), some (.d (.tuple (dB body)))] ∧ κ = [s, .ld (bk.map pctD), .dK (wD ps (earl bk) rm lb dp)] ∧ isSrc s ∧ okB ps (earl bk) body ∧ dpB body ≤ 8 ∧ szB body ≤ room, ?_, ?_⟩
    · refine pick_w hs8 (by decide) (by decide) fun v9 s9 hs9 h90 h91 => bsel_i (fun _ => ?_) fun _ => ⟨s9, body, rm8, rfl, rfl, hs9, hbd, by omega, by omega⟩
      refine body_w2 (d := 0) rfl rfl hs9 ok (by decide) hdp h80 (by omega) (by decide) fun s10 body2 rm10 hs10 hbd2 hd10 h100 h101 => ?_
      have c1 := szB_cnt body
      have c2 := szB_cnt body2
      refine ⟨by rw [dB_len, dB_len]; exact sl100 (by omega), s10, body ++ body2, rm10, ?_, rfl, hs10, okB_all.mpr fun s hs => ?_, dpB_le.mpr fun s hs => ?_, by rw [szB_app]; omega⟩
      · rw [dB_map (body ++ body2), List.map_append, ← dB_map, ← dB_map]; rfl
      · rcases List.mem_append.mp hs with q | q
        · exact okB_all.mp hbd s q
        · exact okB_all.mp hbd2 s q
      · rcases List.mem_append.mp hs with q | q
        · exact dpB_le.mp (show dpB body ≤ 8 by omega) s q
        · exact dpB_le.mp (show dpB body2 ≤ 8 by omega) s q
    · rintro δ κ ⟨s, body, rm, rfl, rfl, hs, hbd, hd, hm⟩ _
      refine ⟨rfl, _, .inr "parties", _, rfl, rfl, get_p, _, rfl, (show 4 ≤ sizeLine by decide), ?_, _, .inr "parties", _, rfl, rfl, get_p, (show 2 ≤ sizeLine by decide), (show 1 ≤ sizeLine by decide), ?_⟩
      · rw [List.length_map]; exact Nat.lt_of_lt_of_le (show bk.length < 100 by omega) (by decide)
      refine ⟨_, _, rfl, rfl, ?_, ?_⟩
      · rw [List.length_map]; exact sl100 (by show (earl bk).length + 1 ≤ _; omega)
      refine ⟨_, _, (GhS.wipe [6, 7, 8] (show 2 ≤ 3 by decide)).trans (GhS.take 2 (Nat.le_refl _) (show 2 ≤ 3 by decide) (src_take2 hs) rfl), s, bk ++ [⟨name, ps, body⟩], none, none, none, ?_, ?_, hs, hb.snoc ⟨(hz _ hname).1, fun e he' => ?_, ok.p, ok.pn, ok.pl, ok.pp, hbd, hd, hm⟩, by simp [hbl], ?_⟩
      · unfold earl; simp only [List.map_append, List.map_cons, List.map_nil, List.length_map]; rfl
      · simp only [List.map_append, List.map_cons, List.map_nil]; rfl
      · obtain ⟨q, hq, rfl⟩ := List.mem_map.mp he'
        have hqn : q.name ∈ zs.take i := by rw [← he]; exact List.mem_map.mpr ⟨q, hq, rfl⟩
        intro e
        have e : q.name = name := e
        rw [e] at hqn
        obtain ⟨j, hj⟩ := List.mem_iff_getElem?.mp hqn
        have hji : j < i := by have := (List.getElem?_eq_some_iff.mp hj).1; rw [List.length_take] at this; omega
        rw [List.getElem?_take_of_lt hji] at hj
        have := (List.getElem?_inj (by omega) hznd).mp (hj.trans hg.symm)
        omega
      · rw [List.map_append, he, List.take_add_one, hg]; rfl
theorem book_w {s : Cell} {κr : AK} {most room : Int} {E : AX → AK → Prop} {R : AR} (hs : isSrc s) (h0 : 0 < most) (h1 : most ≤ 10) (hr0 : 0 ≤ room) (hr1 : room ≤ 100)
    (k : ∀ (s' : Cell) (bk : List Pct), isSrc s' → okBk room bk → 0 < bk.length → bk.length ≤ most → R (.d (.list (bk.map pctD))) (s' :: κr)) :
    callW F__law_book E [.c 0, .d (.int most), .d (.int room)] (s :: κr) R :=
  callW_i ⟨[0], _, _, by decide, rfl, sel0 hs, s, most, room, rfl, rfl, hs, h0, h1, hr0, hr1, fun s' bk hs' hb h0 hl => ⟨Nat.le_refl _, cl1 hs', rfl, k s' bk hs' hb h0 hl⟩⟩
end Com
set_option Elab.async false
set_option linter.all false
set_option maxRecDepth 100000
set_option maxHeartbeats 4000000
/-! Tok: tokens, what the laws share -/
namespace Com
open PySem L2 Ab
/-! ### tokens -/
def marksS : List Str := ["(", ")", "{", "}", ",", ";", ":", "|"]
def isRunTok (w : Str) : Prop := ∃ c r, tl w = c :: r ∧ low c ∧ (∀ x ∈ r, run x) ∧ r.length ≤ 11
def tokW (w : Str) : Prop := isRunTok w ∨ w ∈ marksS ∨ w = "->"
def kindOf (w : Str) : Str := if w ∈ wordsL then ("word" : Str) else if w ∈ marksS ∨ w = "->" then ("mark" : Str) else ("name" : Str)
def tokD (w : Str) (p : Int) : PyData := .tuple [.str (kindOf w), .str w, .int p]
inductive Toks : List Nat → Nat → List (Str × Nat) → Prop
  | nil (n : Nat) : Toks [] n []
  | blank {c : Nat} {l : List Nat} {n : Nat} {ts} : blankC c → Toks l (n + 1) ts → Toks (c :: l) n ts
  | tok {w : Str} {l : List Nat} {n : Nat} {ts} : tokW w → (isRunTok w → ∀ c r, l = c :: r → ¬ run c) → Toks l (n + w.length) ts → Toks (tl w ++ l) n ((w, n) :: ts)
theorem marks_ok {w : Str} (h : w ∈ marksS) : ∃ c, w = ⟨#[c]⟩ ∧ ¬ run c ∧ ¬ low c ∧ ¬ blankC c ∧ w ∉ wordsL ∧ c ∈ tl "(){},;:|" ∧ w.length = 1 := by
  unfold marksS at h
  simp only [List.mem_cons, List.mem_nil_iff, or_false] at h
  rcases h with rfl | rfl | rfl | rfl | rfl | rfl | rfl | rfl
  · exact ⟨40, by decide +kernel, by decide, by decide, (fun h => by rcases h with h | h <;> cases h), by decide +kernel, by decide +kernel, by decide +kernel⟩
  · exact ⟨41, by decide +kernel, by decide, by decide, (fun h => by rcases h with h | h <;> cases h), by decide +kernel, by decide +kernel, by decide +kernel⟩
  · exact ⟨123, by decide +kernel, by decide, by decide, (fun h => by rcases h with h | h <;> cases h), by decide +kernel, by decide +kernel, by decide +kernel⟩
  · exact ⟨125, by decide +kernel, by decide, by decide, (fun h => by rcases h with h | h <;> cases h), by decide +kernel, by decide +kernel, by decide +kernel⟩
  · exact ⟨44, by decide +kernel, by decide, by decide, (fun h => by rcases h with h | h <;> cases h), by decide +kernel, by decide +kernel, by decide +kernel⟩
  · exact ⟨59, by decide +kernel, by decide, by decide, (fun h => by rcases h with h | h <;> cases h), by decide +kernel, by decide +kernel, by decide +kernel⟩
  · exact ⟨58, by decide +kernel, by decide, by decide, (fun h => by rcases h with h | h <;> cases h), by decide +kernel, by decide +kernel, by decide +kernel⟩
  · exact ⟨124, by decide +kernel, by decide, by decide, (fun h => by rcases h with h | h <;> cases h), by decide +kernel, by decide +kernel, by decide +kernel⟩
theorem arrow_tl : tl "->" = [45, 62] := by decide +kernel
theorem words_low : ∀ w ∈ wordsL, isRunTok w := by
  intro w h
  unfold wordsL at h
  simp only [List.mem_cons, List.mem_nil_iff, or_false] at h
  rcases h with rfl | rfl | rfl | rfl | rfl | rfl
  · exact ⟨112, [97, 99, 116], by decide +kernel, by decide, by decide, by decide⟩
  · exact ⟨101, [110, 100], by decide +kernel, by decide, by decide, by decide⟩
  · exact ⟨99, [104, 111, 105, 99, 101], by decide +kernel, by decide, by decide, by decide⟩
  · exact ⟨98, [111, 116, 104], by decide +kernel, by decide, by decide, by decide⟩
  · exact ⟨108, [111, 111, 112], by decide +kernel, by decide, by decide, by decide⟩
  · exact ⟨117, [115, 101], by decide +kernel, by decide, by decide, by decide⟩
theorem run_notMark {w : Str} (h : isRunTok w) : ¬ (w ∈ marksS ∨ w = "->") := by
  obtain ⟨c, r, e, hc, _⟩ := h
  rintro (hm | rfl)
  · obtain ⟨d, rfl, _, hd, _⟩ := marks_ok hm
    cases e
    exact hd hc
  · rw [arrow_tl] at e; cases e; exact absurd hc (by decide)
theorem kind_run {w : Str} (h : isRunTok w) : kindOf w = if w ∈ wordsL then ("word" : Str) else ("name" : Str) := by
  unfold kindOf; rw [if_neg (run_notMark h)]
theorem mark_notWord {w : Str} (h : w ∈ marksS ∨ w = "->") : w ∉ wordsL := fun hw => run_notMark (words_low w hw) h
theorem kind_mark {w : Str} (h : w ∈ marksS ∨ w = "->") : kindOf w = "mark" := by
  unfold kindOf; rw [if_neg (mark_notWord h), if_pos h]
theorem tok_ne {w : Str} (h : tokW w) : w ≠ "" := by
  rintro rfl
  rcases h with ⟨c, r, e, _⟩ | h | h
  · rw [tl_empty] at e; cases e
  · exact absurd h (by decide +kernel)
  · exact absurd h (by decide +kernel)
theorem tok_len {w : Str} (h : tokW w) : w.length ≤ 12 := by
  rcases h with ⟨c, r, e, _, _, h⟩ | h | rfl
  · rw [tl_len, e, List.length_cons]; omega
  · obtain ⟨c, rfl, _⟩ := marks_ok h
    show 1 ≤ 12; decide
  · rw [tl_len, arrow_tl]; decide
/-- a token of letters and digits at its place -/
structure RunAt (s : Str) (at' : Nat) (w : Str) (l : List Nat) : Prop where
  len : s.length ≤ 6000000
  ex : ∃ pre, tl s = pre ++ (tl w ++ l) ∧ pre.length = at'
def F__belongs_to_run : FSp := fun as κ R _ => ∃ c, as = [.d (.str ⟨#[c]⟩)] ∧ κ = [] ∧ R (.d (.bool (decide (run c)))) []
def F__run_at : FSp := fun as κ R _ => ∃ s at' w l, as = [.d (.str s), .d (.int (at' : Nat))] ∧ κ = [] ∧ RunAt s at' w l ∧ isRunTok w ∧ (∀ c r, l = c :: r → ¬ run c) ∧ R (.d (tokD w (at' : Nat))) []
def F__token_at : FSp := fun as κ R _ => ∃ s at' w l, as = [.d (.str s), .d (.int (at' : Nat))] ∧ κ = [] ∧ RunAt s at' w l ∧ tokW w ∧ (isRunTok w → ∀ c r, l = c :: r → ¬ run c) ∧ R (.d (tokD w (at' : Nat))) []
def F_tokenize : FSp := fun as κ R _ => ∃ s ts, as = [.d (.str s)] ∧ κ = [] ∧ s.length ≤ 6000000 ∧ Toks (tl s) 0 ts ∧ R (.c 0) [.ld (ts.map fun p => tokD p.1 (p.2 : Nat))]
def w_ARROW : PyData := .str "->"
def w_DIGITS : PyData := .str "0123456789"
def w_LETTERS : PyData := .str "abcdefghijklmnopqrstuvwxyz"
def w_LONGEST_NAME : PyData := .int 12
def w_MOST_BRACES : PyData := .int 8
def w_MOST_PACTS : PyData := .int 10
def w_MOST_PARTIES : PyData := .int 6
def w_SHORT_MARKS : PyData := .str "(){},;:|"
def w_STEP_WORDS : PyData := .tuple [.str "choice", .str "both", .str "loop", .str "use"]
def w_WORDS : PyData := .tuple [.str "pact", .str "end", .str "choice", .str "both", .str "loop", .str "use"]
abbrev N__belongs_to_run : List Str := ["sign"]
def a__belongs_to_run (K : PySem.W.Frag) : AS :=
  (aRet (aOrV (aOp (aIn id) (aVar 0) (aC (.d w_LETTERS))) (aOp (aIn id) (aVar 0) (aC (.d w_DIGITS)))))
abbrev N__run_at : List Str := ["text", "at", "behind", "run"]
def a__run_at (K : PySem.W.Frag) : AS :=
  (aSeq (aSet 2 (aVar 1)) (aCut (aWhile (aAnd (aB (aOp aLt (aVar 2) (aCB aLen (aCons (aVar 0) aNil)))) (aTru (aCall F__belongs_to_run (fun _ _ => False) (aCons (aOp aIx (aVar 0) (aVar 2)) aNil)))) (aAug 2 (aC (.d (.int 1))) (aI0 fun i j => i + j))) (aSeq (aSet 3 (aSl (aVar 0) (aPart (aVar 1)) (aPart (aVar 2)))) (aSeq (aIfS (aOr (aB (aOp (aIn id) (aOp aIx (aVar 3) (aC (.d (.int 0)))) (aC (.d w_DIGITS)))) (aB (aOp aGt (aCB aLen (aCons (aVar 3) aNil)) (aC (.d w_LONGEST_NAME))))) aNever aNext) (aSeq (aIfS (aB (aOp (aIn id) (aVar 3) (aC (.d w_WORDS)))) (aRet (aTup (aCons (aC (.d (.str "word"))) (aCons (aVar 3) (aCons (aVar 1) aNil))))) aNext) (aRet (aTup (aCons (aC (.d (.str "name"))) (aCons (aVar 3) (aCons (aVar 1) aNil))))))))))
abbrev N__token_at : List Str := ["text", "at"]
def a__token_at (K : PySem.W.Frag) : AS :=
  (aSeq (aIfS (aTru (aCall F__belongs_to_run (fun _ _ => False) (aCons (aOp aIx (aVar 0) (aVar 1)) aNil))) (aRet (aCall F__run_at (fun _ _ => False) (aCons (aVar 0) (aCons (aVar 1) aNil)))) aNext) (aSeq (aIfS (aB (aOp (aIn id) (aOp aIx (aVar 0) (aVar 1)) (aC (.d w_SHORT_MARKS)))) (aRet (aTup (aCons (aC (.d (.str "mark"))) (aCons (aOp aIx (aVar 0) (aVar 1)) (aCons (aVar 1) aNil))))) aNext) (aSeq (aIfS (aTru (aBM "str" aStarts3 (aVar 0) (aCons (aC (.d w_ARROW)) (aCons (aVar 1) aNil)))) (aRet (aTup (aCons (aC (.d (.str "mark"))) (aCons (aC (.d w_ARROW)) (aCons (aVar 1) aNil))))) aNext) aNever)))
abbrev N_tokenize : List Str := ["text", "tokens", "at", "token"]
def a_tokenize (K : PySem.W.Frag) : AS :=
  (aSeq (aSet 1 (aLst aNil)) (aSeq (aSet 2 (aC (.d (.int 0)))) (aCut (aWhile (aB (aOp aLt (aVar 2) (aCB aLen (aCons (aVar 0) aNil)))) (aIfS (aB (aOp (aIn id) (aOp aIx (aVar 0) (aVar 2)) (aC (.d (.str " \n"))))) (aAug 2 (aC (.d (.int 1))) (aI0 fun i j => i + j)) (aSeq (aSet 3 (aCall F__token_at (fun _ _ => False) (aCons (aVar 0) (aCons (aVar 2) aNil)))) (aSeq (aDrop (aBM "list" aAppend (aVar 1) (aCons (aVar 3) aNil))) (aAug 2 (aCB aLen (aCons (aOp aIx (aVar 3) (aC (.d (.int 1)))) aNil)) (aI0 fun i j => i + j)))))) (aRet (aVar 1)))))
variable {K : PySem.W.Frag}
/-! ### the program's own defs -/
theorem len__belongs_to_run : ∀ as κ R E', F__belongs_to_run as κ R E' → as.length = (["sign"] : List Str).length := by
  rintro as κ R E' ⟨c, rfl, _⟩; rfl
theorem letters_mem {c : Nat} : c ∈ tl "abcdefghijklmnopqrstuvwxyz" ↔ low c := by
  have h : tl "abcdefghijklmnopqrstuvwxyz" = (List.range 26).map (97 + ·) := by decide +kernel
  rw [h, List.mem_map]
  unfold low
  constructor
  · rintro ⟨i, hi, rfl⟩; rw [List.mem_range] at hi; omega
  · intro h; exact ⟨c - 97, by rw [List.mem_range]; omega, by omega⟩
theorem digits_mem {c : Nat} : c ∈ tl "0123456789" ↔ dig c := by
  have h : tl "0123456789" = (List.range 10).map (48 + ·) := by decide +kernel
  rw [h, List.mem_map]
  unfold dig
  constructor
  · rintro ⟨i, hi, rfl⟩; rw [List.mem_range] at hi; omega
  · intro h; exact ⟨c - 48, by rw [List.mem_range]; omega, by omega⟩
theorem rd__belongs_to_run : ∀ as κ R E', F__belongs_to_run as κ R E' → a__belongs_to_run K (endsA K κ.length R) (startA N__belongs_to_run as) κ := by
  rintro as κ R E' ⟨c, rfl, rfl, h⟩
  have fin : ∀ b : Bool, b = decide (run c) → (endsA K ([] : AK).length R).rt (.d (.bool b)) [] := fun b e => ⟨_, _, GhR.refl (Nat.le_refl _), by rw [e]; exact h⟩
  refine ⟨c, rfl, bsel_i (fun h1 => fin _ ?_) fun h1 => ⟨c, rfl, fin _ ?_⟩⟩
  · have h1 : decide (c ∈ tl "abcdefghijklmnopqrstuvwxyz") = true := h1
    rw [decide_eq_true (show run c from .inl (letters_mem.mp (of_decide_eq_true h1)))]
  · have h1 : decide (c ∈ tl "abcdefghijklmnopqrstuvwxyz") = false := h1
    have hl : ¬ low c := fun z => of_decide_eq_false h1 (letters_mem.mpr z)
    show decide (c ∈ tl "0123456789") = _
    by_cases hd : dig c
    · rw [decide_eq_true (digits_mem.mpr hd), decide_eq_true (show run c from .inr hd)]
    · rw [decide_eq_false (fun z => hd (digits_mem.mp z)), decide_eq_false (fun z : run c => z.elim hl hd)]
theorem bel_w {c : Nat} {κ : AK} {R : AR} {E : AX → AK → Prop} (h : R (.d (.bool (decide (run c)))) κ) : callW F__belongs_to_run E [.d (.str ⟨#[c]⟩)] κ R :=
  callW_i ⟨[], _, _, .nil, rfl, rfl, c, rfl, rfl, Nat.zero_le _, rfl, rfl, h⟩
theorem len__run_at : ∀ as κ R E', F__run_at as κ R E' → as.length = (["text", "at"] : List Str).length := by
  rintro as κ R E' ⟨s, a, w, l, rfl, _⟩; rfl
theorem RunAt.at' {s w : Str} {n : Nat} {l : List Nat} (h : RunAt s n w l) {j : Nat} (hj : j < w.length) : ∃ c, (tl s)[n + j]? = some c ∧ (tl w)[j]? = some c := by
  obtain ⟨pre, e, rfl⟩ := h.ex
  have hj' : j < (tl w).length := by rw [← tl_len]; exact hj
  refine ⟨(tl w)[j], ?_, List.getElem?_eq_getElem hj'⟩
  rw [e, List.getElem?_append_right (by omega), Nat.add_sub_cancel_left, List.getElem?_append_left hj', List.getElem?_eq_getElem hj']
theorem RunAt.slen {s w : Str} {n : Nat} {l : List Nat} (h : RunAt s n w l) : s.length = n + w.length + l.length := by
  obtain ⟨pre, e, rfl⟩ := h.ex
  rw [tl_len, e, List.length_append, List.length_append, ← tl_len]; omega
theorem RunAt.next {s w : Str} {n : Nat} {l : List Nat} (h : RunAt s n w l) : (tl s)[n + w.length]? = l[0]? := by
  obtain ⟨pre, e, rfl⟩ := h.ex
  rw [e, List.getElem?_append_right (by omega), Nat.add_sub_cancel_left, List.getElem?_append_right (by rw [tl_len]; omega), tl_len, Nat.sub_self]
theorem RunAt.cut {s w : Str} {n : Nat} {l : List Nat} (h : RunAt s n w l) : cutS s (some (n : Int)) (some ((n + w.length : Nat) : Int)) = w := by
  have hs := h.slen
  obtain ⟨pre, e, hp⟩ := h.ex
  apply tl_inj
  show ((tl s).drop (HT.sIx s.length 0 (some (n : Int)))).take _ = _
  rw [HT.sIx_nat, HT.sIx_nat, show min n s.length = n by omega, show min (n + w.length) s.length = n + w.length by omega, e, ← hp, List.drop_left, Nat.add_sub_cancel_left, tl_len, List.take_left]
theorem lt6 {n : Nat} (h : n ≤ 6000000) : n ≤ sizeLine := Nat.le_trans h (by decide)
theorem rd__run_at : ∀ as κ R E', F__run_at as κ R E' → a__run_at K (endsA K κ.length R) (startA N__run_at as) κ := by
  rintro as κ R E' ⟨s, n, w, l, rfl, rfl, hr, hw, hl, h⟩
  have hs := hr.slen
  have hsl := hr.len
  have fin : ∀ k : Str, k = kindOf w → (endsA K ([] : AK).length R).rt (.d (.tuple [.str k, .str w, .int (n : Nat)])) [] := fun k e => ⟨_, _, GhR.refl (Nat.le_refl _), by rw [e]; exact h⟩
  obtain ⟨c0, r0, e0, hc0, hr0, hr1⟩ := hw
  have hw : isRunTok w := ⟨c0, r0, e0, hc0, hr0, hr1⟩
  refine ⟨fun δ κ => δ = [some (.d (.str s)), some (.d (.int (n : Nat))), some (.d (.int ((n + w.length : Nat) : Int))), none] ∧ κ = [], ?_, ?_⟩
  · refine ⟨fun m δ κ => ∃ j, δ = [some (.d (.str s)), some (.d (.int (n : Nat))), some (.d (.int ((n + j : Nat) : Int))), none] ∧ κ = [] ∧ j ≤ w.length ∧ m = w.length - j, ⟨_, 0, rfl, rfl, Nat.zero_le _, rfl⟩, ?_⟩
    rintro m δ κ ⟨j, rfl, rfl, hj, rfl⟩ _
    have done : j = w.length → ([some (.d (.str s)), some (.d (.int (n : Nat))), some (.d (.int ((n + j : Nat) : Int))), none] : AD) = [some (.d (.str s)), some (.d (.int (n : Nat))), some (.d (.int ((n + w.length : Nat) : Int))), none] ∧ ([] : AK) = [] := by
      rintro rfl; exact ⟨rfl, rfl⟩
    refine ⟨lt6 hsl, bsel_i (fun hlt => ?_) fun hlt => ?_⟩
    · have hlt : decide (((n + j : Nat) : Int) < (s.length : Int)) = true := hlt
      have hlt := of_decide_eq_true hlt
      by_cases hjw : j < w.length
      · obtain ⟨c, h1, h2⟩ := hr.at' hjw
        have hrun : run c := by
          rw [e0] at h2
          cases j with
          | zero => cases h2; exact .inl hc0
          | succ j => exact hr0 c (List.mem_of_getElem? (by simpa using h2))
        refine ⟨c, lt6 hsl, at_nat h1, bel_w ?_⟩
        rw [decide_eq_true hrun]
        exact ⟨_, fun _ _ q => q, w.length - (j + 1), by omega, j + 1, rfl, rfl, hjw, rfl⟩
      · have ej : j = w.length := by omega
        have hn := hr.next
        have hl0 : 0 < l.length := by omega
        obtain ⟨c, r, rfl⟩ : ∃ c r, l = c :: r := by
          cases l with
          | nil => simp at hl0
          | cons c r => exact ⟨c, r, rfl⟩
        refine ⟨c, lt6 hsl, at_nat (by rw [ej]; exact hn), bel_w ?_⟩
        rw [decide_eq_false (hl c r rfl)]
        exact done ej
    · have hlt : decide (((n + j : Nat) : Int) < (s.length : Int)) = false := hlt
      have hlt := of_decide_eq_false hlt
      exact done (by omega)
  · rintro δ κ ⟨rfl, rfl⟩ _
    refine ⟨lt6 hsl, ?_⟩
    rw [hr.cut]
    have hlw : w.length ≤ 12 := by rw [tl_len, e0, List.length_cons]; omega
    refine ⟨c0, sl100 (by omega), at_nat (j := 0) (by show (tl w)[0]? = _; rw [e0]; rfl), c0, rfl, bsel_i (fun hd => ?_) fun hd => ⟨sl100 (by omega), bsel_i (fun hg => ?_) fun hg => ⟨rfl, rfl, bsel_i (fun hw' => ?_) fun hw' => ?_⟩⟩⟩
    · have hd : decide (c0 ∈ tl "0123456789") = true := hd
      have := digits_mem.mp (of_decide_eq_true hd)
      unfold dig at this; unfold low at hc0; omega
    · have hg : decide ((12 : Int) < (w.length : Int)) = true := hg
      have := of_decide_eq_true hg
      omega
    · have hw' : inD (.str w) (wordsL.map .str) = true := hw'
      rw [inD_str] at hw'
      refine ⟨(show 3 ≤ sizeLine by decide), fin _ ?_⟩
      rw [kind_run hw, if_pos (of_decide_eq_true hw')]
    · have hw' : inD (.str w) (wordsL.map .str) = false := hw'
      rw [inD_str] at hw'
      refine ⟨(show 3 ≤ sizeLine by decide), fin _ ?_⟩
      rw [kind_run hw, if_neg (of_decide_eq_false hw')]
theorem run_w {s : Str} {n : Nat} {w : Str} {l : List Nat} {κ : AK} {R : AR} {E : AX → AK → Prop} (h1 : RunAt s n w l) (h2 : isRunTok w) (h3 : ∀ c r, l = c :: r → ¬ run c) (h : R (.d (tokD w (n : Nat))) κ) : callW F__run_at E [.d (.str s), .d (.int (n : Nat))] κ R :=
  callW_i ⟨[], _, _, .nil, rfl, rfl, s, n, w, l, rfl, rfl, h1, h2, h3, Nat.zero_le _, rfl, rfl, h⟩
theorem starts_arrow {s : Str} {pre l : List Nat} (h : tl s = pre ++ ([45, 62] ++ l)) : Txt.startswith3 s "->" (pre.length : Int) = true := by
  have hf : PySem.fromIndex s.length (pre.length : Int) = pre.length := by
    unfold PySem.fromIndex
    rw [if_neg (by omega)]
    omega
  have hl : s.length = pre.length + 2 + l.length := by rw [tl_len, h]; simp; omega
  have h2 : ("->" : Str).length = 2 := by decide +kernel
  unfold Txt.startswith3
  rw [hf, h2, Bool.and_eq_true]
  refine ⟨decide_eq_true (by omega), ?_⟩
  unfold Builtin.Str.subAt
  rw [h2, beq_iff_eq]
  apply Array.toList_inj.mp
  rw [Array.toList_extract]
  show List.extract (tl s) _ _ = tl "->"
  rw [arrow_tl, h]
  show (List.drop _ _).take _ = _
  simp
theorem len__token_at : ∀ as κ R E', F__token_at as κ R E' → as.length = (["text", "at"] : List Str).length := by
  rintro as κ R E' ⟨s, a, w, l, rfl, _⟩; rfl
theorem rd__token_at : ∀ as κ R E', F__token_at as κ R E' → a__token_at K (endsA K κ.length R) (startA N__token_at as) κ := by
  rintro as κ R E' ⟨s, n, w, l, rfl, rfl, hr, hw, hl, h⟩
  have hsl := hr.len
  have fin : ∀ v, v = tokD w (n : Nat) → (endsA K ([] : AK).length R).rt (.d v) [] := fun v e => ⟨_, _, GhR.refl (Nat.le_refl _), by rw [e]; exact h⟩
  have first : ∀ {c r}, tl w = c :: r → (tl s)[n]? = some c := fun {c r} e => by
    obtain ⟨c', h1, h2⟩ := hr.at' (j := 0) (by rw [tl_len, e]; exact Nat.succ_pos _)
    rw [e] at h2; cases h2
    exact h1
  rcases hw with hw | hw | rfl
  · obtain ⟨c, r, e, hc, _⟩ := hw
    refine ⟨c, lt6 hsl, at_nat (first e), bel_w ?_⟩
    rw [decide_eq_true (show run c from .inl hc)]
    exact run_w hr ⟨c, r, e, hc, ‹_›⟩ (hl ⟨c, r, e, hc, ‹_›⟩) (fin _ rfl)
  · obtain ⟨c, rfl, hc, _, _, _, hm, _⟩ := marks_ok hw
    have f := first (c := c) (r := []) rfl
    refine ⟨c, lt6 hsl, at_nat f, bel_w ?_⟩
    rw [decide_eq_false hc]
    refine ⟨c, lt6 hsl, at_nat f, c, rfl, bsel_i (fun _ => ⟨c, lt6 hsl, at_nat f, (show 3 ≤ sizeLine by decide), fin _ ?_⟩) fun hn => ?_⟩
    · unfold tokD; rw [kind_mark (.inl hw)]
    · exact absurd hm (of_decide_eq_false (p := c ∈ tl "(){},;:|") hn)
  · have f := first arrow_tl
    refine ⟨45, lt6 hsl, at_nat f, bel_w ?_⟩
    refine ⟨45, lt6 hsl, at_nat f, 45, rfl, bsel_i (fun hy => ?_) fun hn => ⟨rfl, ?_⟩⟩
    · exact absurd (of_decide_eq_true (p := 45 ∈ tl "(){},;:|") hy) (by decide +kernel)
    · obtain ⟨pre, e, hp⟩ := hr.ex
      rw [arrow_tl] at e
      have hst := starts_arrow e
      rw [hp] at hst
      refine bsel_i (fun _ => ⟨(show 3 ≤ sizeLine by decide), fin _ ?_⟩) fun hf => ?_
      · unfold tokD; rw [kind_mark (.inr rfl)]; rfl
      · have hf : Txt.startswith3 s "->" (n : Int) = false := hf
        rw [hst] at hf; cases hf
theorem tokAt_w {s : Str} {n : Nat} {w : Str} {l : List Nat} {κ : AK} {R : AR} {E : AX → AK → Prop} (h1 : RunAt s n w l) (h2 : tokW w) (h3 : isRunTok w → ∀ c r, l = c :: r → ¬ run c) (h : R (.d (tokD w (n : Nat))) κ) : callW F__token_at E [.d (.str s), .d (.int (n : Nat))] κ R :=
  callW_i ⟨[], _, _, .nil, rfl, rfl, s, n, w, l, rfl, rfl, h1, h2, h3, Nat.zero_le _, rfl, rfl, h⟩
theorem len_tokenize : ∀ as κ R E', F_tokenize as κ R E' → as.length = (["text"] : List Str).length := by
  rintro as κ R E' ⟨s, ts, rfl, _⟩; rfl
theorem tok_first {w : Str} (h : tokW w) : ∃ c r, tl w = c :: r ∧ ¬ blankC c := by
  rcases h with ⟨c, r, e, hc, _⟩ | h | rfl
  · refine ⟨c, r, e, fun hb => ?_⟩
    unfold low at hc
    rcases hb with rfl | rfl <;> omega
  · obtain ⟨c, rfl, _, _, hb, _⟩ := marks_ok h
    exact ⟨c, [], rfl, hb⟩
  · exact ⟨45, [62], arrow_tl, fun hb => by rcases hb with h | h <;> cases h⟩
theorem toks_len : ∀ {l : List Nat} {n : Nat} {ts : List (Str × Nat)}, Toks l n ts → ts.length ≤ l.length
  | _, _, _, .nil _ => Nat.le_refl _
  | _, _, _, .blank _ h => Nat.le_succ_of_le (toks_len h)
  | _, _, _, .tok hw _ h => by
    have := toks_len h
    obtain ⟨c, r, e, _⟩ := tok_first hw
    rw [List.length_cons, List.length_append, e, List.length_cons]; omega
theorem rd_tokenize : ∀ as κ R E', F_tokenize as κ R E' → a_tokenize K (endsA K κ.length R) (startA N_tokenize as) κ := by
  rintro as κ R E' ⟨s, ts, rfl, rfl, hsl, ht, h⟩
  refine ⟨Nat.zero_le _, fun δ κ => (∃ x y, δ = [some (.d (.str s)), some (.c 0), x, y]) ∧ κ = [.ld (ts.map fun p => tokD p.1 (p.2 : Nat))], ?_, ?_⟩
  · refine ⟨fun m δ κ => ∃ n pre l ts1 ts2 y, δ = [some (.d (.str s)), some (.c 0), some (.d (.int (n : Nat))), y] ∧ κ = [.ld (ts1.map fun p => tokD p.1 (p.2 : Nat))] ∧ tl s = pre ++ l ∧ pre.length = n ∧ Toks l n ts2 ∧ ts = ts1 ++ ts2 ∧ m = l.length,
      ⟨_, 0, [], tl s, [], ts, none, rfl, rfl, rfl, rfl, ht, rfl, rfl⟩, ?_⟩
    rintro m δ κ ⟨n, pre, l, ts1, ts2, y, rfl, rfl, hsp, hpl, htk, rfl, rfl⟩ _
    have hlen : s.length = n + l.length := by rw [tl_len, hsp, List.length_append, hpl]
    cases htk with
    | nil n =>
      refine ⟨lt6 hsl, bsel_i (fun hlt => ?_) fun _ => ⟨⟨_, _, rfl⟩, by rw [List.append_nil]⟩⟩
      have hlt : decide (((n : Nat) : Int) < (s.length : Int)) = true := hlt
      have := of_decide_eq_true hlt
      simp at hlen; omega
    | @blank c l n ts hb htk =>
      refine ⟨lt6 hsl, bsel_i (fun _ => ?_) fun hlt => ?_⟩
      · refine ⟨_, fun _ _ q => q, c, lt6 hsl, at_nat (by show (tl s)[n]? = _; rw [hsp, List.getElem?_append_right (by omega), hpl, Nat.sub_self]; rfl), c, rfl, bsel_i (fun _ => ?_) fun hn => ?_⟩
        · exact ⟨l.length, Nat.lt_succ_self _, n + 1, pre ++ [c], l, ts1, _, y, rfl, rfl, by rw [hsp]; simp, by simp [hpl], htk, rfl, rfl⟩
        · have hn := of_decide_eq_false (p := c ∈ tl " \n") hn
          exact absurd (show c ∈ tl " \n" from by
            have e : tl " \n" = [32, 10] := by decide +kernel
            rw [e]; rcases hb with rfl | rfl <;> decide) hn
      · have hlt : decide (((n : Nat) : Int) < (s.length : Int)) = false := hlt
        have := of_decide_eq_false hlt
        simp at hlen; omega
    | @tok w l n ts hw hl htk =>
      obtain ⟨c, r, ew, hnb⟩ := tok_first hw
      have hwl : 0 < w.length := by rw [tl_len, ew]; exact Nat.succ_pos _
      rw [List.length_append, ← tl_len] at hlen
      have hlts := toks_len ht
      rw [← tl_len, List.length_append, List.length_cons] at hlts
      refine ⟨lt6 hsl, bsel_i (fun _ => ?_) fun hlt => ?_⟩
      · refine ⟨_, fun _ _ q => q, c, lt6 hsl, at_nat (by show (tl s)[n]? = _; rw [hsp, List.getElem?_append_right (by omega), hpl, Nat.sub_self, ew]; rfl), c, rfl, bsel_i (fun hb => ?_) fun hn => ?_⟩
        · have hb := of_decide_eq_true (p := c ∈ tl " \n") hb
          have e : tl " \n" = [32, 10] := by decide +kernel
          rw [e] at hb
          exact absurd (show blankC c from by simpa [blankC] using hb) hnb
        · refine tokAt_w ⟨hsl, pre, hsp, hpl⟩ hw hl ?_
          refine ⟨rfl, ?_, _, at_nat (j := 1) rfl, ?_, l.length, ?_, n + w.length, pre ++ tl w, l, ts1 ++ [(w, n)], _, _, rfl, ?_, by rw [hsp]; simp, ?_, htk, by simp, rfl⟩
          · rw [List.length_map]; exact Nat.lt_of_lt_of_le (show ts1.length < 7000000 by omega) (by decide)
          · exact Nat.le_trans (tok_len hw) (by decide)
          · rw [List.length_append, ← tl_len]; omega
          · rw [List.map_append]; rfl
          · rw [List.length_append, ← tl_len, hpl]
      · have hlt : decide (((n : Nat) : Int) < (s.length : Int)) = false := hlt
        have := of_decide_eq_false hlt
        omega
  · rintro δ κ ⟨⟨x, y, rfl⟩, rfl⟩ _
    exact ⟨_, _, GhR.refl (Nat.zero_le _), h⟩
theorem name_tok {z : Str} (h : isName z) : tokW z := by
  obtain ⟨⟨c, r, e, h1, h2, h3⟩, _⟩ := h
  exact .inl ⟨c, r, e, h1, h2, h3⟩
/-! ### spread words are tokens -/
def plcN (n : Nat) : List Piece → List (Str × Nat)
  | [] => []
  | p :: ps => (p.2, n + p.1.length) :: plcN (n + p.1.length + p.2.length) ps
theorem plc_len : ∀ (n : Nat) (ps : List Piece), (plc n ps).length = ps.length
  | _, [] => rfl
  | _, p :: ps => by show (plc _ ps).length + 1 = _; rw [plc_len]; rfl
theorem zip_plc : ∀ (n : Nat) (ps : List Piece), ((ps.map (·.2)).zip (plc n ps)).map (fun p => tokD p.1 p.2) = (plcN n ps).map fun p => tokD p.1 (p.2 : Nat)
  | _, [] => rfl
  | n, p :: ps => by
    show tokD p.2 _ :: _ = tokD p.2 _ :: _
    rw [← zip_plc _ ps]
    rfl
theorem toks_blanks : ∀ {b l : List Nat} {n : Nat} {ts}, (∀ c ∈ b, blankC c) → Toks l (n + b.length) ts → Toks (b ++ l) n ts
  | [], _, _, _, _, h => h
  | c :: b, l, n, ts, hb, h => .blank (hb c (List.mem_cons_self ..)) (toks_blanks (b := b) (fun x hx => hb x (List.mem_cons_of_mem _ hx)) (by rw [List.length_cons] at h; rw [show n + 1 + b.length = n + (b.length + 1) by omega]; exact h))
theorem runTok_last {w : Str} (h : isRunTok w) : runLast w := by
  obtain ⟨c, r, e, hc, hr, _⟩ := h
  obtain ⟨r', c', e'⟩ := ne_last (w := w) (fun z => by rw [z, tl_empty] at e; cases e)
  refine ⟨r', c', e', ?_⟩
  have hm : c' ∈ tl w := by rw [e']; simp
  rw [e] at hm
  rcases List.mem_cons.mp hm with rfl | hm
  · exact .inl hc
  · exact hr _ hm
theorem sep_tail {p : Piece} {ps : List Piece} (h : Sep (p :: ps)) : Sep ps := fun k a b h1 h2 => h (k + 1) a b (by simpa using h1) (by simpa using h2)
theorem blank_not {c : Nat} (h : blankC c) : ¬ run c := by
  rcases h with rfl | rfl <;> decide
theorem spread_toks (bl : Str) (hbl : isBlank bl) : ∀ (ps : List Piece) (n : Nat), (∀ p ∈ ps, isBlank p.1 ∧ tokW p.2) → Sep ps → Toks (txt ps ++ tl bl) n (plcN n ps)
  | [], n, _, _ => by
    have := toks_blanks (b := tl bl) (l := []) (n := n) (ts := []) hbl.1 (.nil _)
    rw [List.append_nil] at this
    exact this
  | p :: ps, n, hp, hs => by
    obtain ⟨h1, h2⟩ := hp p (List.mem_cons_self ..)
    have ih := spread_toks bl hbl ps (n + p.1.length + p.2.length) (fun q hq => hp q (List.mem_cons_of_mem _ hq)) (sep_tail hs)
    have e : txt (p :: ps) ++ tl bl = tl p.1 ++ (tl p.2 ++ (txt ps ++ tl bl)) := by
      unfold txt; rw [List.flatMap_cons]; simp
    rw [e]
    refine toks_blanks h1.1 ?_
    rw [← tl_len]
    refine .tok h2 (fun hr c r hcr => ?_) ih
    -- what stands behind a name
    cases ps with
    | nil =>
      have hcr : tl bl = c :: r := hcr
      exact blank_not (hbl.1 c (by rw [hcr]; exact List.mem_cons_self ..))
    | cons q ps =>
      obtain ⟨h3, h4⟩ := hp q (List.mem_cons_of_mem _ (List.mem_cons_self ..))
      have e2 : txt (q :: ps) ++ tl bl = tl q.1 ++ (tl q.2 ++ (txt ps ++ tl bl)) := by
        unfold txt; rw [List.flatMap_cons]; simp
      rw [e2] at hcr
      cases eb : tl q.1 with
      | cons d b =>
        rw [eb] at hcr
        cases hcr
        exact blank_not (h3.1 c (by rw [eb]; exact List.mem_cons_self ..))
      | nil =>
        obtain ⟨c2, r2, e3, _⟩ := tok_first h4
        rw [eb, e3] at hcr
        cases hcr
        intro hrun
        exact hs 0 p q rfl rfl (runTok_last hr) ⟨c, r2, e3, hrun⟩ (tl_inj (eb.trans tl_empty.symm))
theorem toks_of {ws : List Str} {text : Str} {places : List Int} (h : Spread ws text places) (hw : ∀ w ∈ ws, tokW w) :
    ∃ ts, Toks (tl text) 0 ts ∧ (ws.zip places).map (fun p => tokD p.1 p.2) = ts.map (fun p => tokD p.1 (p.2 : Nat)) ∧ places.length = ws.length := by
  obtain ⟨b0, bl, ps, rfl, hb0, hbl, hb, hsep, ht, rfl⟩ := h.ex
  refine ⟨plcN b0.length ps, ?_, zip_plc _ _, by rw [plc_len, List.length_map]⟩
  rw [ht, List.append_assoc]
  refine toks_blanks hb0.1 ?_
  rw [Nat.zero_add, ← tl_len]
  exact spread_toks bl hbl ps _ (fun p hp => ⟨hb p hp, hw _ (List.mem_map.mpr ⟨p, hp, rfl⟩)⟩) hsep
theorem tokens_dep {ts : List (Str × Nat)} (h : ts.length ≤ 7000000) : sdep 5 (.list (ts.map fun p => tokD p.1 (p.2 : Nat))) := by
  refine ⟨by rw [List.length_map]; omega, fun d hd => ?_⟩
  obtain ⟨p, _, rfl⟩ := List.mem_map.mp hd
  refine ⟨(show 3 < 2 ^ 62 by decide), fun x hx => ?_⟩
  simp only [List.mem_cons, List.mem_nil_iff, or_false] at hx
  rcases hx with rfl | rfl | rfl <;> trivial
theorem tokenize_w {s : Str} {ts : List (Str × Nat)} {κ : AK} {R : AR} {E : AX → AK → Prop} (h1 : s.length ≤ 6000000) (h2 : Toks (tl s) 0 ts) (h : R (.c (κ.length + 0)) (κ ++ [.ld (ts.map fun p => tokD p.1 (p.2 : Nat))])) : callW F_tokenize E [.d (.str s)] κ R :=
  callW_i ⟨[], _, _, .nil, rfl, rfl, s, ts, rfl, rfl, h1, h2, Nat.zero_le _, rfl, rfl, h⟩
end Com
set_option Elab.async false
set_option linter.all false
set_option maxRecDepth 100000
set_option maxHeartbeats 4000000
/-! TokE: tokens of any text, with the first wrong one -/
namespace Err
open PySem L2 Ab Com
/-- where no token begins -/
def wrongL (l : List Nat) : Prop := ∃ c r, l = c :: r ∧ ¬ blankC c ∧ ((run c ∧ (12 < ((c :: r).takeWhile (fun x => decide (run x))).length ∨ dig c)) ∨ (¬ run c ∧ c ∉ tl "(){},;:|" ∧ ¬ (c = 45 ∧ ∃ r', r = 62 :: r')))
inductive Scan : List Nat → Nat → List (Str × Nat) → Option Nat → Prop
  | nil (n : Nat) : Scan [] n [] none
  | blank {c : Nat} {l : List Nat} {n : Nat} {ts e} : blankC c → Scan l (n + 1) ts e → Scan (c :: l) n ts e
  | tok {w : Str} {l : List Nat} {n : Nat} {ts e} : tokW w → (isRunTok w → ∀ c r, l = c :: r → ¬ run c) → Scan l (n + w.length) ts e → Scan (tl w ++ l) n ((w, n) :: ts) e
  | bad {l : List Nat} {n : Nat} : wrongL l → Scan l n [] (some n)
theorem Scan.of_toks {l : List Nat} {n : Nat} {ts} (h : Toks l n ts) : Scan l n ts none := by
  induction h with
  | nil n => exact .nil n
  | blank h _ ih => exact .blank h ih
  | tok h1 h2 _ ih => exact .tok h1 h2 ih
theorem marks_mem {c : Nat} (h : c ∈ tl "(){},;:|") : (⟨#[c]⟩ : Str) ∈ marksS := by
  have e : tl "(){},;:|" = [40, 41, 123, 125, 44, 59, 58, 124] := by decide +kernel
  rw [e] at h
  simp only [List.mem_cons, List.mem_nil_iff, or_false] at h
  rcases h with rfl | rfl | rfl | rfl | rfl | rfl | rfl | rfl <;> decide +kernel
theorem takeWhile_all {α : Type} (p : α → Bool) : ∀ (l : List α), ∀ x ∈ l.takeWhile p, p x = true
  | [], x, h => by simp at h
  | a :: l, x, h => by
    rw [List.takeWhile_cons] at h
    split at h
    · rcases List.mem_cons.mp h with rfl | h
      · assumption
      · exact takeWhile_all p l x h
    · simp at h
theorem drop_head {α : Type} (p : α → Bool) : ∀ (l : List α) {c : α} {r : List α}, l.drop (l.takeWhile p).length = c :: r → p c = false
  | [], c, r, h => by simp at h
  | a :: l, c, r, h => by
    rw [List.takeWhile_cons] at h
    split at h
    · exact drop_head p l (by simpa using h)
    · rename_i hp
      simp at h
      rw [← h.1]; simpa using hp
theorem take_drop {α : Type} (p : α → Bool) (l : List α) : l = l.takeWhile p ++ l.drop (l.takeWhile p).length := by
  have h := List.takeWhile_append_dropWhile (p := p) (l := l)
  have e : l.dropWhile p = l.drop (l.takeWhile p).length := by
    have : (l.takeWhile p ++ l.dropWhile p).drop (l.takeWhile p).length = l.dropWhile p := List.drop_left
    rw [h] at this; exact this.symm
  rw [← e]; exact h.symm
/-- a run of letters and digits, cut off a text -/
structure RunS (l : List Nat) (w : Str) (rest : List Nat) : Prop where
  e : l = tl w ++ rest
  ne : ∃ c r, tl w = c :: r
  all : ∀ x ∈ tl w, run x
  stop : ∀ c r, rest = c :: r → ¬ run c
  w : tl w = l.takeWhile (fun x => decide (run x))
theorem runS_of {c : Nat} {r : List Nat} (h : run c) : ∃ w rest, RunS (c :: r) w rest := by
  refine ⟨⟨((c :: r).takeWhile (fun x => decide (run x))).toArray⟩, _, take_drop (fun x => decide (run x)) (c :: r), ?_, fun x hx => ?_, fun c' r' e => ?_, ?_⟩
  · show ∃ c' r', ((c :: r).takeWhile (fun x => decide (run x))) = c' :: r'
    rw [List.takeWhile_cons, if_pos (decide_eq_true h)]
    exact ⟨_, _, rfl⟩
  · exact of_decide_eq_true (takeWhile_all (fun x => decide (run x)) _ x hx)
  · exact of_decide_eq_false (drop_head (fun x => decide (run x)) _ e)
  · rfl
theorem RunS.tok {l rest : List Nat} {w : Str} (h : RunS l w rest) {c : Nat} {r : List Nat} (e : tl w = c :: r) (h1 : w.length ≤ 12) (h2 : ¬ dig c) : isRunTok w := by
  refine ⟨c, r, e, ?_, fun x hx => h.all x (by rw [e]; exact List.mem_cons_of_mem _ hx), ?_⟩
  · exact (h.all c (by rw [e]; exact List.mem_cons_self ..)).elim id fun z => absurd z h2
  · rw [tl_len, e, List.length_cons] at h1; omega
theorem run_not_blank {c : Nat} (h : run c) : ¬ blankC c := fun hb => blank_not hb h
theorem scan_ex : ∀ (m : Nat) (l : List Nat) (n : Nat), l.length ≤ m → ∃ ts e, Scan l n ts e
  | m, [], n, _ => ⟨_, _, .nil n⟩
  | 0, c :: r, n, h => by simp at h
  | m + 1, c :: r, n, h => by
    have hr : r.length ≤ m := by simpa using h
    by_cases hb : blankC c
    · obtain ⟨ts, e, hs⟩ := scan_ex m r (n + 1) hr
      exact ⟨ts, e, .blank hb hs⟩
    · by_cases hrun : run c
      · obtain ⟨w, rest, hw⟩ := runS_of (r := r) hrun
        obtain ⟨c', r', ew⟩ := hw.ne
        have ec : c' = c := by
          have := hw.e
          rw [ew] at this
          exact (List.cons.inj this).1.symm
        subst ec
        by_cases hbad : 12 < w.length ∨ dig c'
        · refine ⟨_, _, .bad ⟨c', r, rfl, hb, .inl ⟨hrun, ?_⟩⟩⟩
          rw [← hw.w, ← tl_len]
          exact hbad
        · have ht : isRunTok w := hw.tok ew (by omega) fun z => hbad (.inr z)
          have hl : rest.length ≤ m := by
            have := congrArg List.length hw.e
            rw [List.length_append, ew, List.length_cons, List.length_cons] at this
            omega
          obtain ⟨ts, e, hs⟩ := scan_ex m rest (n + w.length) hl
          rw [hw.e]
          exact ⟨_, _, .tok (.inl ht) (fun _ => hw.stop) hs⟩
      · by_cases hm : c ∈ tl "(){},;:|"
        · obtain ⟨ts, e, hs⟩ := scan_ex m r (n + 1) hr
          have hmk := marks_mem hm
          refine ⟨_, _, Scan.tok (w := ⟨#[c]⟩) (.inr (.inl hmk)) (fun hrt => absurd (.inl hmk) (run_notMark hrt)) hs⟩
        · by_cases ha : c = 45 ∧ ∃ r', r = 62 :: r'
          · obtain ⟨rfl, r', rfl⟩ := ha
            obtain ⟨ts, e, hs⟩ := scan_ex m r' (n + 2) (by simp at hr; omega)
            have h2 : ("->" : Str).length = 2 := by decide +kernel
            have : (45 :: 62 :: r' : List Nat) = tl "->" ++ r' := by rw [arrow_tl]; rfl
            rw [this]
            exact ⟨_, _, Scan.tok (.inr (.inr rfl)) (fun hrt => absurd (.inr rfl) (run_notMark hrt)) (by rw [h2]; exact hs)⟩
          · exact ⟨_, _, .bad ⟨c, r, rfl, hb, .inr ⟨hrun, hm, ha⟩⟩⟩
/-! ### the program's own defs -/
abbrev srcErr (n : Nat) : AX := ⟨"SourceError", [("at", .int (n : Nat))]⟩
def F__run_at : FSp := fun as κ R E' => ∃ s n l w rest pre, as = [.d (.str s), .d (.int (n : Nat))] ∧ κ = [] ∧ s.length ≤ 6000000 ∧ tl s = pre ++ l ∧ pre.length = n ∧ RunS l w rest ∧ (isRunTok w → R (.d (tokD w (n : Nat))) []) ∧ (wrongL l → E' (srcErr n) [])
def F__token_at : FSp := fun as κ R E' => ∃ s n l pre, as = [.d (.str s), .d (.int (n : Nat))] ∧ κ = [] ∧ s.length ≤ 6000000 ∧ tl s = pre ++ l ∧ pre.length = n ∧ ((∃ w rest, l = tl w ++ rest ∧ tokW w ∧ (isRunTok w → ∀ c r, rest = c :: r → ¬ run c) ∧ R (.d (tokD w (n : Nat))) []) ∨ (wrongL l ∧ E' (srcErr n) []))
def F_tokenize : FSp := fun as κ R E' => ∃ s ts e, as = [.d (.str s)] ∧ κ = [] ∧ s.length ≤ 6000000 ∧ Scan (tl s) 0 ts e ∧ (e = none → R (.c 0) [.ld (ts.map fun p => tokD p.1 (p.2 : Nat))]) ∧ (∀ n, e = some n → E' (srcErr n) [])
abbrev N__run_at : List Str := ["text", "at", "behind", "run"]
def a__run_at (K : PySem.W.Frag) (Ex : AEx) : AS :=
  (aSeq (aSet 2 (aVar 1)) (aCut (aWhile (aAnd (aB (aOp aLt (aVar 2) (aCB aLen (aCons (aVar 0) aNil)))) (aTru (aCall Com.F__belongs_to_run (fun _ _ => False) (aCons (aOp aIx (aVar 0) (aVar 2)) aNil)))) (aAug 2 (aC (.d (.int 1))) (aI0 fun i j => i + j))) (aSeq (aSet 3 (aSl (aVar 0) (aPart (aVar 1)) (aPart (aVar 2)))) (aSeq (aIfS (aOr (aB (aOp (aIn id) (aOp aIx (aVar 3) (aC (.d (.int 0)))) (aC (.d w_DIGITS)))) (aB (aOp aGt (aCB aLen (aCons (aVar 3) aNil)) (aC (.d w_LONGEST_NAME))))) (aRaise "SourceError" "at" Ex (aCons (aVar 1) aNil)) aNext) (aSeq (aIfS (aB (aOp (aIn id) (aVar 3) (aC (.d w_WORDS)))) (aRet (aTup (aCons (aC (.d (.str "word"))) (aCons (aVar 3) (aCons (aVar 1) aNil))))) aNext) (aRet (aTup (aCons (aC (.d (.str "name"))) (aCons (aVar 3) (aCons (aVar 1) aNil))))))))))
abbrev N__token_at : List Str := ["text", "at"]
def a__token_at (K : PySem.W.Frag) (Ex : AEx) : AS :=
  (aSeq (aIfS (aTru (aCall Com.F__belongs_to_run (fun _ _ => False) (aCons (aOp aIx (aVar 0) (aVar 1)) aNil))) (aRet (aCall F__run_at Ex (aCons (aVar 0) (aCons (aVar 1) aNil)))) aNext) (aSeq (aIfS (aB (aOp (aIn id) (aOp aIx (aVar 0) (aVar 1)) (aC (.d w_SHORT_MARKS)))) (aRet (aTup (aCons (aC (.d (.str "mark"))) (aCons (aOp aIx (aVar 0) (aVar 1)) (aCons (aVar 1) aNil))))) aNext) (aSeq (aIfS (aTru (aBM "str" aStarts3 (aVar 0) (aCons (aC (.d w_ARROW)) (aCons (aVar 1) aNil)))) (aRet (aTup (aCons (aC (.d (.str "mark"))) (aCons (aC (.d w_ARROW)) (aCons (aVar 1) aNil))))) aNext) (aRaise "SourceError" "at" Ex (aCons (aVar 1) aNil)))))
abbrev N_tokenize : List Str := ["text", "tokens", "at", "token"]
def a_tokenize (K : PySem.W.Frag) (Ex : AEx) : AS :=
  (aSeq (aSet 1 (aLst aNil)) (aSeq (aSet 2 (aC (.d (.int 0)))) (aCut (aWhile (aB (aOp aLt (aVar 2) (aCB aLen (aCons (aVar 0) aNil)))) (aIfS (aB (aOp (aIn id) (aOp aIx (aVar 0) (aVar 2)) (aC (.d (.str " \n"))))) (aAug 2 (aC (.d (.int 1))) (aI0 fun i j => i + j)) (aSeq (aSet 3 (aCall F__token_at Ex (aCons (aVar 0) (aCons (aVar 2) aNil)))) (aSeq (aDrop (aBM "list" aAppend (aVar 1) (aCons (aVar 3) aNil))) (aAug 2 (aCB aLen (aCons (aOp aIx (aVar 3) (aC (.d (.int 1)))) aNil)) (aI0 fun i j => i + j)))))) (aRet (aVar 1)))))
variable {K : PySem.W.Frag}
theorem len__run_at : ∀ as κ R E', F__run_at as κ R E' → as.length = (["text", "at"] : List Str).length := by
  rintro as κ R E' ⟨s, n, l, w, rest, pre, rfl, _⟩; rfl
theorem wrong_run {l rest : List Nat} {w : Str} (h : RunS l w rest) {c : Nat} {r : List Nat} (e : tl w = c :: r) (hb : 12 < w.length ∨ dig c) : wrongL l := by
  have hr : run c := h.all c (by rw [e]; exact List.mem_cons_self ..)
  refine ⟨c, r ++ rest, by rw [h.e, e]; rfl, run_not_blank hr, .inl ⟨hr, ?_⟩⟩
  have el : (c :: (r ++ rest)) = l := by rw [h.e, e]; rfl
  rw [el, ← h.w, ← tl_len]
  exact hb
theorem rd__run_at : ∀ as κ R E', F__run_at as κ R E' → a__run_at K (endX K κ.length E') (endsA K κ.length R) (startA N__run_at as) κ := by
  rintro as κ R E' ⟨s, n, l, w, rest, pre, rfl, rfl, hsl, hsp, hpl, hr, hok, hbad⟩
  have hra : RunAt s n w rest := ⟨hsl, pre, by rw [hsp, hr.e], hpl⟩
  have hs := hra.slen
  obtain ⟨c0, r0, e0⟩ := hr.ne
  have fin : ∀ k : Str, isRunTok w → k = kindOf w → (endsA K ([] : AK).length R).rt (.d (.tuple [.str k, .str w, .int (n : Nat)])) [] := fun k hw e => ⟨_, _, GhR.refl (Nat.le_refl _), by rw [e]; exact hok hw⟩
  have rz : wrongL l → endX K ([] : AK).length E' (srcErr n) [] := fun h => ⟨_, _, GhR.refl (Nat.le_refl _), hbad h⟩
  refine ⟨fun δ κ => δ = [some (.d (.str s)), some (.d (.int (n : Nat))), some (.d (.int ((n + w.length : Nat) : Int))), none] ∧ κ = [], ?_, ?_⟩
  · refine ⟨fun m δ κ => ∃ j, δ = [some (.d (.str s)), some (.d (.int (n : Nat))), some (.d (.int ((n + j : Nat) : Int))), none] ∧ κ = [] ∧ j ≤ w.length ∧ m = w.length - j, ⟨_, 0, rfl, rfl, Nat.zero_le _, rfl⟩, ?_⟩
    rintro m δ κ ⟨j, rfl, rfl, hj, rfl⟩ _
    have done : j = w.length → ([some (.d (.str s)), some (.d (.int (n : Nat))), some (.d (.int ((n + j : Nat) : Int))), none] : AD) = [some (.d (.str s)), some (.d (.int (n : Nat))), some (.d (.int ((n + w.length : Nat) : Int))), none] ∧ ([] : AK) = [] := by
      rintro rfl; exact ⟨rfl, rfl⟩
    refine ⟨lt6 hsl, bsel_i (fun hlt => ?_) fun hlt => ?_⟩
    · have hlt : decide (((n + j : Nat) : Int) < (s.length : Int)) = true := hlt
      have hlt := of_decide_eq_true hlt
      by_cases hjw : j < w.length
      · obtain ⟨c, h1, h2⟩ := hra.at' hjw
        have hrun : run c := hr.all c (List.mem_of_getElem? h2)
        refine ⟨c, lt6 hsl, at_nat h1, bel_w ?_⟩
        rw [decide_eq_true hrun]
        exact ⟨_, fun _ _ q => q, w.length - (j + 1), by omega, j + 1, rfl, rfl, hjw, rfl⟩
      · have ej : j = w.length := by omega
        have hn := hra.next
        have hl0 : 0 < rest.length := by omega
        obtain ⟨c, r, rfl⟩ : ∃ c r, rest = c :: r := by
          cases rest with
          | nil => simp at hl0
          | cons c r => exact ⟨c, r, rfl⟩
        refine ⟨c, lt6 hsl, at_nat (by rw [ej]; exact hn), bel_w ?_⟩
        rw [decide_eq_false (hr.stop c r rfl)]
        exact done ej
    · have hlt : decide (((n + j : Nat) : Int) < (s.length : Int)) = false := hlt
      have hlt := of_decide_eq_false hlt
      exact done (by omega)
  · rintro δ κ ⟨rfl, rfl⟩ _
    refine ⟨lt6 hsl, ?_⟩
    rw [hra.cut]
    have lw : w.length ≤ sizeLine := Nat.le_trans (show w.length ≤ 6000000 by omega) (by decide)
    refine ⟨c0, lw, at_nat (j := 0) (by show (tl w)[0]? = _; rw [e0]; rfl), c0, rfl, bsel_i (fun hd => ?_) fun hd => ⟨lw, bsel_i (fun hg => ?_) fun hg => ?_⟩⟩
    · have hd : decide (c0 ∈ tl "0123456789") = true := hd
      exact rz (wrong_run hr e0 (.inr (digits_mem.mp (of_decide_eq_true hd))))
    · have hg : decide ((12 : Int) < (w.length : Int)) = true := hg
      have := of_decide_eq_true hg
      exact rz (wrong_run hr e0 (.inl (by omega)))
    · have hd : decide (c0 ∈ tl "0123456789") = false := hd
      have hg : decide ((12 : Int) < (w.length : Int)) = false := hg
      have hg := of_decide_eq_false hg
      have ht : isRunTok w := hr.tok e0 (by omega) fun z => of_decide_eq_false hd (digits_mem.mpr z)
      refine ⟨rfl, rfl, bsel_i (fun hw' => ?_) fun hw' => ?_⟩
      · have hw' : inD (.str w) (wordsL.map .str) = true := hw'
        rw [inD_str] at hw'
        refine ⟨(show 3 ≤ sizeLine by decide), fin _ ht ?_⟩
        rw [kind_run ht, if_pos (of_decide_eq_true hw')]
      · have hw' : inD (.str w) (wordsL.map .str) = false := hw'
        rw [inD_str] at hw'
        refine ⟨(show 3 ≤ sizeLine by decide), fin _ ht ?_⟩
        rw [kind_run ht, if_neg (of_decide_eq_false hw')]
theorem run_w {s : Str} {n : Nat} {w : Str} {l rest pre : List Nat} {κ : AK} {R : AR} {E : AX → AK → Prop} (h0 : s.length ≤ 6000000) (h1 : tl s = pre ++ l) (h2 : pre.length = n) (h3 : RunS l w rest) (h : isRunTok w → R (.d (tokD w (n : Nat))) κ) (hE : wrongL l → E (srcErr n) κ) : callW F__run_at E [.d (.str s), .d (.int (n : Nat))] κ R :=
  callW_i ⟨[], _, _, .nil, rfl, rfl, s, n, l, w, rest, pre, rfl, rfl, h0, h1, h2, h3, fun hw => ⟨Nat.zero_le _, rfl, rfl, h hw⟩, fun hw => ⟨Nat.zero_le _, rfl, rfl, hE hw⟩⟩
theorem len__token_at : ∀ as κ R E', F__token_at as κ R E' → as.length = (["text", "at"] : List Str).length := by
  rintro as κ R E' ⟨s, n, l, pre, rfl, _⟩; rfl
theorem at_pre {s : Str} {n c : Nat} {pre r : List Nat} (h1 : tl s = pre ++ c :: r) (h2 : pre.length = n) : (tl s)[n]? = some c := by
  rw [h1, List.getElem?_append_right (by omega), h2, Nat.sub_self]; rfl
theorem starts_not {s : Str} {pre : List Nat} {c : Nat} {r : List Nat} (h : tl s = pre ++ c :: r) (hn : ¬ (c = 45 ∧ ∃ r', r = 62 :: r')) : Txt.startswith3 s "->" (pre.length : Int) = false := by
  have hl : s.length = pre.length + 1 + r.length := by rw [tl_len, h]; simp; omega
  have hf : PySem.fromIndex s.length (pre.length : Int) = pre.length := by
    unfold PySem.fromIndex
    rw [if_neg (by omega)]
    omega
  have h2 : ("->" : Str).length = 2 := by decide +kernel
  unfold Txt.startswith3
  rw [hf, h2]
  refine Bool.eq_false_iff.mpr fun hh => hn ?_
  rw [Bool.and_eq_true] at hh
  have h3 := hh.2
  unfold Builtin.Str.subAt at h3
  rw [h2, beq_iff_eq] at h3
  have h4 := congrArg Array.toList h3
  rw [Array.toList_extract] at h4
  have h4 : List.extract (tl s) pre.length (pre.length + 2) = tl "->" := h4
  rw [arrow_tl, h] at h4
  have h4 : (List.drop pre.length (pre ++ c :: r)).take _ = [45, 62] := h4
  rw [List.drop_left, Nat.add_sub_cancel_left] at h4
  cases r with
  | nil => simp at h4
  | cons d r =>
    simp at h4
    exact ⟨h4.1, r, by rw [h4.2]⟩
theorem rd__token_at : ∀ as κ R E', F__token_at as κ R E' → a__token_at K (endX K κ.length E') (endsA K κ.length R) (startA N__token_at as) κ := by
  rintro as κ R E' ⟨s, n, l, pre, rfl, rfl, hsl, hsp, hpl, h⟩
  rcases h with ⟨w, rest, el, hw, hst, h⟩ | ⟨hbad, hE⟩
  · have hr : RunAt s n w rest := ⟨hsl, pre, by rw [hsp, el], hpl⟩
    have fin : ∀ v, v = tokD w (n : Nat) → (endsA K ([] : AK).length R).rt (.d v) [] := fun v e => ⟨_, _, GhR.refl (Nat.le_refl _), by rw [e]; exact h⟩
    have first : ∀ {c r}, tl w = c :: r → (tl s)[n]? = some c := fun {c r} e => by
      obtain ⟨c', h1, h2⟩ := hr.at' (j := 0) (by rw [tl_len, e]; exact Nat.succ_pos _)
      rw [e] at h2; cases h2
      exact h1
    rcases hw with hw | hw | rfl
    · obtain ⟨c, r, e, hc, hall, hlen⟩ := id hw
      have hrc : run c := .inl hc
      refine ⟨c, lt6 hsl, at_nat (first e), bel_w ?_⟩
      rw [decide_eq_true hrc]
      have hS : RunS l w rest := by
        refine ⟨el, ⟨c, r, e⟩, fun x hx => ?_, hst hw, ?_⟩
        · rw [e] at hx
          rcases List.mem_cons.mp hx with rfl | hx
          · exact hrc
          · exact hall x hx
        · rw [el, List.takeWhile_append_of_pos]
          · cases rest with
            | nil => simp
            | cons d r' =>
              rw [List.takeWhile_cons, if_neg (by simpa using hst hw d r' rfl), List.append_nil]
          · intro x hx
            rw [e] at hx
            exact decide_eq_true ((List.mem_cons.mp hx).elim (fun z => z ▸ hrc) (hall x))
      refine run_w hsl hsp hpl hS (fun _ => fin _ rfl) fun hbad => ?_
      obtain ⟨c', r', e', _, hb⟩ := hbad
      exfalso
      rcases hb with ⟨_, hb⟩ | ⟨hb, _⟩
      · have ec : c' = c := by
          rw [el, e] at e'
          exact (List.cons.inj e').1.symm
        rw [← e', ← hS.w, ← tl_len] at hb
        rcases hb with hb | hb
        · rw [tl_len, e, List.length_cons] at hb; omega
        · subst ec
          unfold dig at hb; unfold low at hc; omega
      · rw [el, e] at e'
        exact hb ((List.cons.inj e').1 ▸ hrc)
    · obtain ⟨c, rfl, hc, _, _, _, hm, _⟩ := marks_ok hw
      have f := first (c := c) (r := []) rfl
      refine ⟨c, lt6 hsl, at_nat f, bel_w ?_⟩
      rw [decide_eq_false hc]
      refine ⟨c, lt6 hsl, at_nat f, c, rfl, bsel_i (fun _ => ⟨c, lt6 hsl, at_nat f, (show 3 ≤ sizeLine by decide), fin _ ?_⟩) fun hn => ?_⟩
      · unfold tokD; rw [kind_mark (.inl hw)]
      · exact absurd hm (of_decide_eq_false (p := c ∈ tl "(){},;:|") hn)
    · have f := first arrow_tl
      refine ⟨45, lt6 hsl, at_nat f, bel_w ?_⟩
      refine ⟨45, lt6 hsl, at_nat f, 45, rfl, bsel_i (fun hy => ?_) fun hn => ⟨rfl, ?_⟩⟩
      · exact absurd (of_decide_eq_true (p := 45 ∈ tl "(){},;:|") hy) (by decide +kernel)
      · obtain ⟨pre, e, hp⟩ := hr.ex
        rw [arrow_tl] at e
        have hst := starts_arrow e
        rw [hp] at hst
        refine bsel_i (fun _ => ⟨(show 3 ≤ sizeLine by decide), fin _ ?_⟩) fun hf => ?_
        · unfold tokD; rw [kind_mark (.inr rfl)]; rfl
        · have hf : Txt.startswith3 s "->" (n : Int) = false := hf
          rw [hst] at hf; cases hf
  · have rz : endX K ([] : AK).length E' (srcErr n) [] := ⟨_, _, GhR.refl (Nat.le_refl _), hE⟩
    obtain ⟨c, r, rfl, hnb, hb⟩ := id hbad
    have f := at_pre hsp hpl
    refine ⟨c, lt6 hsl, at_nat f, bel_w ?_⟩
    rcases hb with ⟨hrun, hb⟩ | ⟨hrun, hm, ha⟩
    · rw [decide_eq_true hrun]
      obtain ⟨w, rest, hw⟩ := runS_of (r := r) hrun
      refine run_w hsl hsp hpl hw (fun hrt => ?_) fun _ => rz
      exfalso
      obtain ⟨c', r', e', hlow, _, hlen⟩ := hrt
      rw [← hw.w, ← tl_len] at hb
      have ec : c' = c := by
        have := hw.e
        rw [e'] at this
        exact (List.cons.inj this).1.symm
      rcases hb with hb | hb
      · rw [tl_len, e', List.length_cons] at hb; omega
      · rw [ec] at hlow
        unfold dig at hb; unfold low at hlow; omega
    · rw [decide_eq_false hrun]
      refine ⟨c, lt6 hsl, at_nat f, c, rfl, bsel_i (fun hy => ?_) fun hn => ⟨rfl, ?_⟩⟩
      · exact absurd (of_decide_eq_true (p := c ∈ tl "(){},;:|") hy) hm
      · have hst := starts_not hsp ha
        rw [hpl] at hst
        refine bsel_i (fun hf => ?_) fun _ => rz
        have hf : Txt.startswith3 s "->" (n : Int) = true := hf
        rw [hst] at hf; cases hf
theorem tokAt_w {s : Str} {n : Nat} {w : Str} {l rest pre : List Nat} {κ : AK} {R : AR} {E : AX → AK → Prop} (h0 : s.length ≤ 6000000) (h1 : tl s = pre ++ l) (h2 : pre.length = n) (el : l = tl w ++ rest) (hw : tokW w) (h3 : isRunTok w → ∀ c r, rest = c :: r → ¬ run c) (h : R (.d (tokD w (n : Nat))) κ) : callW F__token_at E [.d (.str s), .d (.int (n : Nat))] κ R :=
  callW_i ⟨[], _, _, .nil, rfl, rfl, s, n, l, pre, rfl, rfl, h0, h1, h2, .inl ⟨w, rest, el, hw, h3, Nat.zero_le _, rfl, rfl, h⟩⟩
theorem tokBad_w {s : Str} {n : Nat} {l pre : List Nat} {κ : AK} {R : AR} {E : AX → AK → Prop} (h0 : s.length ≤ 6000000) (h1 : tl s = pre ++ l) (h2 : pre.length = n) (hw : wrongL l) (h : E (srcErr n) κ) : callW F__token_at E [.d (.str s), .d (.int (n : Nat))] κ R :=
  callW_i ⟨[], _, _, .nil, rfl, rfl, s, n, l, pre, rfl, rfl, h0, h1, h2, .inr ⟨hw, Nat.zero_le _, rfl, rfl, h⟩⟩
theorem len_tokenize : ∀ as κ R E', F_tokenize as κ R E' → as.length = (["text"] : List Str).length := by
  rintro as κ R E' ⟨s, ts, e, rfl, _⟩; rfl
theorem scan_len : ∀ {l : List Nat} {n : Nat} {ts : List (Str × Nat)} {e : Option Nat}, Scan l n ts e → ts.length ≤ l.length
  | _, _, _, _, .nil _ => Nat.le_refl _
  | _, _, _, _, .bad _ => Nat.zero_le _
  | _, _, _, _, .blank _ h => Nat.le_succ_of_le (scan_len h)
  | _, _, _, _, .tok hw _ h => by
    have := scan_len h
    obtain ⟨c, r, e, _⟩ := tok_first hw
    rw [List.length_cons, List.length_append, e, List.length_cons]; omega
theorem scan_nil {l : List Nat} {n : Nat} {ts : List (Str × Nat)} {e : Option Nat} (h : Scan l n ts e) (hl : l = []) : ts = [] ∧ e = none := by
  cases h with
  | nil => exact ⟨rfl, rfl⟩
  | blank => cases hl
  | bad hw => obtain ⟨c, r, z, _⟩ := hw; rw [hl] at z; cases z
  | tok hw _ _ =>
    obtain ⟨c, r, e, _⟩ := tok_first hw
    rw [e] at hl; cases hl
theorem blank_in {c : Nat} : c ∈ tl " \n" ↔ blankC c := by
  have e : tl " \n" = [32, 10] := by decide +kernel
  rw [e]
  unfold blankC
  simp
theorem rd_tokenize : ∀ as κ R E', F_tokenize as κ R E' → a_tokenize K (endX K κ.length E') (endsA K κ.length R) (startA N_tokenize as) κ := by
  rintro as κ R E' ⟨s, ts, e, rfl, rfl, hsl, ht, h, hE⟩
  refine ⟨Nat.zero_le _, fun δ κ => (∃ x y, δ = [some (.d (.str s)), some (.c 0), x, y]) ∧ κ = [.ld (ts.map fun p => tokD p.1 (p.2 : Nat))] ∧ e = none, ?_, ?_⟩
  · refine ⟨fun m δ κ => ∃ n pre l ts1 ts2 y, δ = [some (.d (.str s)), some (.c 0), some (.d (.int (n : Nat))), y] ∧ κ = [.ld (ts1.map fun p => tokD p.1 (p.2 : Nat))] ∧ tl s = pre ++ l ∧ pre.length = n ∧ Scan l n ts2 e ∧ ts = ts1 ++ ts2 ∧ m = l.length,
      ⟨_, 0, [], tl s, [], ts, none, rfl, rfl, rfl, rfl, ht, rfl, rfl⟩, ?_⟩
    rintro m δ κ ⟨n, pre, l, ts1, ts2, y, rfl, rfl, hsp, hpl, htk, rfl, rfl⟩ _
    have hlen : s.length = n + l.length := by rw [tl_len, hsp, List.length_append, hpl]
    have hlts := scan_len ht
    cases htk with
    | nil n =>
      refine ⟨lt6 hsl, bsel_i (fun hlt => ?_) fun _ => ⟨⟨_, _, rfl⟩, by rw [List.append_nil], rfl⟩⟩
      have hlt : decide (((n : Nat) : Int) < (s.length : Int)) = true := hlt
      have := of_decide_eq_true hlt
      simp at hlen; omega
    | @blank c l n ts e hb htk =>
      refine ⟨lt6 hsl, bsel_i (fun _ => ?_) fun hlt => ?_⟩
      · refine ⟨_, fun _ _ q => q, c, lt6 hsl, at_nat (at_pre hsp hpl), c, rfl, bsel_i (fun _ => ?_) fun hn => ?_⟩
        · exact ⟨l.length, Nat.lt_succ_self _, n + 1, pre ++ [c], l, ts1, _, y, rfl, rfl, by rw [hsp]; simp, by simp [hpl], htk, rfl, rfl⟩
        · exact absurd (blank_in.mpr hb) (of_decide_eq_false (p := c ∈ tl " \n") hn)
      · have hlt : decide (((n : Nat) : Int) < (s.length : Int)) = false := hlt
        have := of_decide_eq_false hlt
        simp at hlen; omega
    | @bad l n hw =>
      obtain ⟨c, r, rfl, hnb, _⟩ := id hw
      refine ⟨lt6 hsl, bsel_i (fun _ => ?_) fun hlt => ?_⟩
      · refine ⟨_, fun _ _ q => q, c, lt6 hsl, at_nat (at_pre hsp hpl), c, rfl, bsel_i (fun hb => ?_) fun hn => ?_⟩
        · exact absurd (blank_in.mp (of_decide_eq_true (p := c ∈ tl " \n") hb)) hnb
        · exact tokBad_w hsl hsp hpl hw ⟨_, _, GhR.take 0 (Nat.le_refl _) (Nat.zero_le _) rfl rfl, hE _ rfl⟩
      · have hlt : decide (((n : Nat) : Int) < (s.length : Int)) = false := hlt
        have := of_decide_eq_false hlt
        simp at hlen; omega
    | @tok w l n ts e hw hl htk =>
      obtain ⟨c, r, ew, hnb⟩ := tok_first hw
      have hwl : 0 < w.length := by rw [tl_len, ew]; exact Nat.succ_pos _
      rw [List.length_append, ← tl_len] at hlen
      rw [← tl_len, List.length_append, List.length_cons] at hlts
      refine ⟨lt6 hsl, bsel_i (fun _ => ?_) fun hlt => ?_⟩
      · refine ⟨_, fun _ _ q => q, c, lt6 hsl, at_nat (at_pre (r := r ++ l) (by rw [hsp, ew]; rfl) hpl), c, rfl, bsel_i (fun hb => ?_) fun hn => ?_⟩
        · exact absurd (blank_in.mp (of_decide_eq_true (p := c ∈ tl " \n") hb)) hnb
        · refine tokAt_w hsl hsp hpl rfl hw hl ?_
          refine ⟨rfl, ?_, _, at_nat (j := 1) rfl, ?_, l.length, ?_, n + w.length, pre ++ tl w, l, ts1 ++ [(w, n)], _, _, rfl, ?_, by rw [hsp]; simp, ?_, htk, by simp, rfl⟩
          · rw [List.length_map]; exact Nat.lt_of_lt_of_le (show ts1.length < 7000000 by omega) (by decide)
          · exact Nat.le_trans (tok_len hw) (by decide)
          · rw [List.length_append, ← tl_len]; omega
          · rw [List.map_append]; rfl
          · rw [List.length_append, ← tl_len, hpl]
      · have hlt : decide (((n : Nat) : Int) < (s.length : Int)) = false := hlt
        have := of_decide_eq_false hlt
        omega
  · rintro δ κ ⟨⟨x, y, rfl⟩, rfl, e0⟩ _
    exact ⟨_, _, GhR.refl (Nat.zero_le _), h e0⟩
theorem tokenize_w {s : Str} {ts : List (Str × Nat)} {e : Option Nat} {κ : AK} {R : AR} {E : AX → AK → Prop} (h1 : s.length ≤ 6000000) (h2 : Scan (tl s) 0 ts e) (h : e = none → R (.c (κ.length + 0)) (κ ++ [.ld (ts.map fun p => tokD p.1 (p.2 : Nat))])) (hE : ∀ n, e = some n → E (srcErr n) κ) : callW F_tokenize E [.d (.str s)] κ R :=
  callW_i ⟨[], _, _, .nil, rfl, rfl, s, ts, e, rfl, rfl, h1, h2, fun z => ⟨Nat.zero_le _, rfl, rfl, h z⟩, fun n z => ⟨Nat.zero_le _, rfl, rfl, hE n z⟩⟩
/-! ### _law_class -/
theorem bt_ {b : Bool} {A C : Prop} (h : b = true) (a : A) : bsel b A C := by rw [h]; exact a
theorem bf_ {b : Bool} {A C : Prop} (h : b = false) (a : C) : bsel b A C := by rw [h]; exact a
theorem z0 {b : Bool} (h : b = false) : (if b then (1 : Int) else 0) = 0 := by rw [h]; rfl
theorem z1 {b : Bool} (h : b = true) : (if b then (1 : Int) else 0) = 1 := by rw [h]; rfl
end Err
set_option Elab.async false
set_option linter.all false
set_option maxRecDepth 100000
set_option maxHeartbeats 4000000
namespace K02
open PySem L2 Ab Com Err
def topS (i : Nat) : Stmt := PySem.Challenge.pw_pactloom_k02_any_text.main.body.getD i (.Pass ⟨0, 0, 0, 0⟩)
abbrev s__law_source : Stmt := topS 23
theorem sc__law_source : FnScope Com.N__law_source ["script"] (defScope s__law_source) := ⟨rfl, rfl, rfl, by decide +kernel, rfl, by decide +kernel, by decide +kernel⟩
abbrev s__law_pick : Stmt := topS 24
theorem sc__law_pick : FnScope Com.N__law_pick ["source", "many"] (defScope s__law_pick) := ⟨rfl, rfl, rfl, by decide +kernel, rfl, by decide +kernel, by decide +kernel⟩
abbrev s__law_piece : Stmt := topS 27
abbrev N__law_piece : List Str := ["source", "every", "small", "kind", "k"]
theorem sc__law_piece : FnScope N__law_piece ["source"] (defScope s__law_piece) := ⟨rfl, rfl, rfl, by decide +kernel, rfl, by decide +kernel, by decide +kernel⟩
abbrev s__law_same : Stmt := topS 25
theorem sc__law_same : FnScope Com.N__law_same ["actual", "due"] (defScope s__law_same) := ⟨rfl, rfl, rfl, by decide +kernel, rfl, by decide +kernel, by decide +kernel⟩
abbrev s__belongs_to_run : Stmt := topS 21
theorem sc__belongs_to_run : FnScope Com.N__belongs_to_run ["sign"] (defScope s__belongs_to_run) := ⟨rfl, rfl, rfl, by decide +kernel, rfl, by decide +kernel, by decide +kernel⟩
abbrev s__run_at : Stmt := topS 20
theorem sc__run_at : FnScope Err.N__run_at ["text", "at"] (defScope s__run_at) := ⟨rfl, rfl, rfl, by decide +kernel, rfl, by decide +kernel, by decide +kernel⟩
abbrev s__token_at : Stmt := topS 19
theorem sc__token_at : FnScope Err.N__token_at ["text", "at"] (defScope s__token_at) := ⟨rfl, rfl, rfl, by decide +kernel, rfl, by decide +kernel, by decide +kernel⟩
abbrev s_tokenize : Stmt := topS 18
theorem sc_tokenize : FnScope Err.N_tokenize ["text"] (defScope s_tokenize) := ⟨rfl, rfl, rfl, by decide +kernel, rfl, by decide +kernel, by decide +kernel⟩
abbrev s__law_class : Stmt := topS 26
abbrev N__law_class : List Str := ["e", "kinds"]
theorem sc__law_class : FnScope N__law_class ["e"] (defScope s__law_class) := ⟨rfl, rfl, rfl, by decide +kernel, rfl, by decide +kernel, by decide +kernel⟩
abbrev s__law_told : Stmt := topS 30
abbrev N__law_told : List Str := ["text", "e"]
theorem sc__law_told : FnScope N__law_told ["text"] (defScope s__law_told) := ⟨rfl, rfl, rfl, by decide +kernel, rfl, by decide +kernel, by decide +kernel⟩
abbrev s__law_run : Stmt := topS 28
abbrev N__law_run : List Str := ["text", "at", "run", "k"]
theorem sc__law_run : FnScope N__law_run ["text", "at"] (defScope s__law_run) := ⟨rfl, rfl, rfl, by decide +kernel, rfl, by decide +kernel, by decide +kernel⟩
abbrev s__law_due : Stmt := topS 29
abbrev N__law_due : List Str := ["text", "tokens", "skip", "k", "run", "kind"]
theorem sc__law_due : FnScope N__law_due ["text"] (defScope s__law_due) := ⟨rfl, rfl, rfl, by decide +kernel, rfl, by decide +kernel, by decide +kernel⟩
abbrev s_law : Stmt := topS 31
abbrev N_law : List Str := ["script", "source", "k", "text", "j"]
theorem sc_law : FnScope N_law ["script"] (defScope s_law) := ⟨rfl, rfl, rfl, by decide +kernel, rfl, by decide +kernel, by decide +kernel⟩
abbrev s_SourceError___init__ : Stmt := inClass (topS 2) 0
theorem sc_SourceError___init__ : FnScope ["self", "at"] ["self", "at"] (defScope s_SourceError___init__) := ⟨rfl, rfl, rfl, by decide +kernel, rfl, by decide +kernel, by decide +kernel⟩

def F__law_run : FSp := fun as κ R _ => ∃ s n pre l w, as = [.d (.str s), .d (.int (n : Nat))] ∧ κ = [] ∧ s.length ≤ 6000000 ∧ tl s = pre ++ l ∧ pre.length = n ∧ tl w = l.takeWhile (fun x => decide (run x)) ∧ R (.d (.str w)) []
def F__law_piece : FSp := fun as κ R _ => ∃ s, as = [.c 0] ∧ κ = [s] ∧ isSrc s ∧ ∀ z s', isSrc s' → z.length ≤ 14 → R (.d (.str z)) [s']
def F__law_due : FSp := fun as κ R _ => ∃ s ts e, as = [.d (.str s)] ∧ κ = [] ∧ s.length ≤ 6000 ∧ Scan (tl s) 0 ts e ∧ (e = none → R (.d (.list (ts.map fun p => tokD p.1 (p.2 : Nat)))) []) ∧ (∀ n, e = some n → R (.d (.int (n : Nat))) [])
def F__law_told : FSp := F__law_due
def a__law_piece (K : PySem.W.Frag) : AS :=
  (aSeq (aSet 1 (aC (.d (.str " !\"#$&'()*+,-./0123456789:;<=>?@ABCDEFGHIJKLMNOPQRSTUVWXYZ[\\]^_`abcdefghijklmnopqrstuvwxyz{|}~\n")))) (aSeq (aSet 2 (aC (.d (.str "abcdefghijklmnopqrstuvwxyz0123456789")))) (aSeq (aSet 3 (aCall Com.F__law_pick (fun _ _ => False) (aCons (aVar 0) (aCons (aC (.d (.int 12))) aNil)))) (aSeq (aIfS (aB (aOp aEq (aVar 3) (aC (.d (.int 0))))) (aRet (aOp aIx (aVar 1) (aCall Com.F__law_pick (fun _ _ => False) (aCons (aVar 0) (aCons (aCB aLen (aCons (aVar 1) aNil)) aNil))))) aNext) (aSeq (aIfS (aB (aOp aLt (aVar 3) (aC (.d (.int 4))))) (aRet (aOp aIx (aVar 2) (aCall Com.F__law_pick (fun _ _ => False) (aCons (aVar 0) (aCons (aC (.d (.int 26))) aNil))))) aNext) (aSeq (aIfS (aB (aOp aEq (aVar 3) (aC (.d (.int 4))))) (aRet (aOp aIx (aVar 2) (aCall Com.F__law_pick (fun _ _ => False) (aCons (aVar 0) (aCons (aC (.d (.int 36))) aNil))))) aNext) (aSeq (aIfS (aB (aOp aEq (aVar 3) (aC (.d (.int 5))))) (aRet (aBM "str" aJoin (aC (.d (.str ""))) (aCons (aLc (aRng1 (aCons (aOp aAdd (aC (.d (.int 10))) (aCall Com.F__law_pick (fun _ _ => False) (aCons (aVar 0) (aCons (aC (.d (.int 5))) aNil)))) aNil)) (aName 4) aYes (aOp aIx (aVar 2) (aCall Com.F__law_pick (fun _ _ => False) (aCons (aVar 0) (aCons (aC (.d (.int 36))) aNil)))) [4]) aNil))) aNext) (aSeq (aIfS (aB (aOp aLt (aVar 3) (aC (.d (.int 8))))) (aRet (aOp aIx (aLstD (aCons (aC (.d (.str "->"))) (aCons (aC (.d (.str "("))) (aCons (aC (.d (.str ")"))) (aCons (aC (.d (.str "{"))) (aCons (aC (.d (.str "}"))) (aCons (aC (.d (.str ","))) (aCons (aC (.d (.str ";"))) (aCons (aC (.d (.str ":"))) (aCons (aC (.d (.str "|"))) (aCons (aC (.d (.str "-"))) (aCons (aC (.d (.str ">"))) (aCons (aC (.d (.str "->"))) aNil))))))))))))) (aCall Com.F__law_pick (fun _ _ => False) (aCons (aVar 0) (aCons (aC (.d (.int 12))) aNil))))) aNext) (aSeq (aIfS (aB (aOp aEq (aVar 3) (aC (.d (.int 8))))) (aRet (aOp aIx (aLstD (aCons (aC (.d (.str "pact"))) (aCons (aC (.d (.str "end"))) (aCons (aC (.d (.str "choice"))) (aCons (aC (.d (.str "both"))) (aCons (aC (.d (.str "loop"))) (aCons (aC (.d (.str "use"))) aNil))))))) (aCall Com.F__law_pick (fun _ _ => False) (aCons (aVar 0) (aCons (aC (.d (.int 6))) aNil))))) aNext) (aRet (aOp aIx (aLstD (aCons (aC (.d (.str " "))) (aCons (aC (.d (.str "\n"))) (aCons (aC (.d (.str "  "))) aNil)))) (aCall Com.F__law_pick (fun _ _ => False) (aCons (aVar 0) (aCons (aC (.d (.int 3))) aNil))))))))))))))
def a__law_class (K : PySem.W.Frag) (ad : Addr) (xa : AX) : AS :=
  (aSeq (aSet 1 (aOp (aCat false) (aOp aMulL (aLstD (aCons (aC (.d (.str "NameTwice"))) aNil)) (aCB aIntOf (aCons (aIsX ad xa ["SourceError"] "NameTwice" (aVar 0)) aNil))) (aOp aMulL (aLstD (aCons (aC (.d (.str "NotPossible"))) aNil)) (aCB aIntOf (aCons (aIsX ad xa ["SourceError"] "NotPossible" (aVar 0)) aNil))))) (aSeq (aSet 1 (aOp (aCat false) (aOp (aCat false) (aVar 1) (aOp aMulL (aLstD (aCons (aC (.d (.str "PaperError"))) aNil)) (aCB aIntOf (aCons (aIsX ad xa ["SourceError"] "PaperError" (aVar 0)) aNil)))) (aOp aMulL (aLstD (aCons (aC (.d (.str "SelfLetter"))) aNil)) (aCB aIntOf (aCons (aIsX ad xa ["SourceError"] "SelfLetter" (aVar 0)) aNil))))) (aSeq (aSet 1 (aOp (aCat false) (aOp (aCat false) (aVar 1) (aOp aMulL (aLstD (aCons (aC (.d (.str "SourceError"))) aNil)) (aCB aIntOf (aCons (aIsX ad xa ["SourceError"] "SourceError" (aVar 0)) aNil)))) (aOp aMulL (aLstD (aCons (aC (.d (.str "TableError"))) aNil)) (aCB aIntOf (aCons (aIsX ad xa ["SourceError"] "TableError" (aVar 0)) aNil))))) (aSeq (aSet 1 (aOp (aCat false) (aOp (aCat false) (aVar 1) (aOp aMulL (aLstD (aCons (aC (.d (.str "TooLarge"))) aNil)) (aCB aIntOf (aCons (aIsX ad xa ["SourceError"] "TooLarge" (aVar 0)) aNil)))) (aOp aMulL (aLstD (aCons (aC (.d (.str "UnknownName"))) aNil)) (aCB aIntOf (aCons (aIsX ad xa ["SourceError"] "UnknownName" (aVar 0)) aNil))))) (aSeq (aSet 1 (aOp (aCat false) (aVar 1) (aOp aMulL (aLstD (aCons (aC (.d (.str "WrongCount"))) aNil)) (aCB aIntOf (aCons (aIsX ad xa ["SourceError"] "WrongCount" (aVar 0)) aNil))))) (aSeq (aIfS (aAnd (aB (aOp (aEqFB id) (aCB aLen (aCons (aVar 1) aNil)) (aC (.d (.int 1))))) (aTru (aIsX ad xa ["SourceError"] "ValueError" (aVar 0)))) (aRet (aOp aIx (aVar 1) (aC (.d (.int 0))))) aNext) (aRet (aC (.d (.str "odd"))))))))))
def a__law_told (K : PySem.W.Frag) : AS :=
  (aTryAs 2 1 (exmOf ["SourceError"] "PactError") (fun Ex => (aRet (aCall Err.F_tokenize Ex (aCons (aVar 0) aNil)))) (fun ad xa => (aSeq (aIfS (aB (aOp (aEqFB id) (aCallP ad xa ["SourceError"] (aVar 1)) (aC (.d (.str "SourceError"))))) (aRet (aXf "at" ad xa ["SourceError"] (aVar 1))) aNext) (aRet (aTup (aCons (aC (.d (.str "refused"))) (aCons (aCallP ad xa ["SourceError"] (aVar 1)) aNil)))))) (fun _ _ => False))
def a__law_run (K : PySem.W.Frag) : AS :=
  (aSeq (aSet 2 (aC (.d (.str "")))) (aSeq (aFor (aRng2 (aCons (aVar 1) (aCons (aCB aLen (aCons (aVar 0) aNil)) aNil))) (aName 3) (aSeq (aIfS (aB (aOp (aIn not) (aOp aIx (aVar 0) (aVar 3)) (aC (.d (.str "abcdefghijklmnopqrstuvwxyz0123456789"))))) (aRet (aVar 2)) aNext) (aSet 2 (aOp aAdd (aVar 2) (aOp aIx (aVar 0) (aVar 3)))))) (aRet (aVar 2))))
def a__law_due (K : PySem.W.Frag) : AS :=
  (aSeq (aSet 1 (aLst aNil)) (aSeq (aSet 2 (aC (.d (.int 0)))) (aSeq (aFor (aRng1 (aCons (aCB aLen (aCons (aVar 0) aNil)) aNil)) (aName 3) (aSeq (aSet 4 (aCall F__law_run (fun _ _ => False) (aCons (aVar 0) (aCons (aVar 3) aNil)))) (aIfS (aB (aOp aGt (aVar 2) (aC (.d (.int 0))))) (aSet 2 (aOp aSub (aVar 2) (aC (.d (.int 1))))) (aIfS (aB (aOp aNe (aVar 4) (aC (.d (.str ""))))) (aSeq (aIfS (aOr (aB (aOp aGt (aCB aLen (aCons (aVar 4) aNil)) (aC (.d (.int 12))))) (aB (aOp (aIn id) (aOp aIx (aVar 4) (aC (.d (.int 0)))) (aC (.d (.str "0123456789")))))) (aRet (aVar 3)) aNext) (aSeq (aSet 5 (aOp aIx (aLstD (aCons (aC (.d (.str "name"))) (aCons (aC (.d (.str "word"))) aNil))) (aCB aIntOf (aCons (aOp (aIn id) (aVar 4) (aTup (aCons (aC (.d (.str "pact"))) (aCons (aC (.d (.str "end"))) (aCons (aC (.d (.str "choice"))) (aCons (aC (.d (.str "both"))) (aCons (aC (.d (.str "loop"))) (aCons (aC (.d (.str "use"))) aNil)))))))) aNil)))) (aSeq (aDrop (aBM "list" aAppend (aVar 1) (aCons (aTup (aCons (aVar 5) (aCons (aVar 4) (aCons (aVar 3) aNil)))) aNil))) (aSet 2 (aOp aSub (aCB aLen (aCons (aVar 4) aNil)) (aC (.d (.int 1)))))))) (aIfS (aAnd (aB (aOp aEq (aOp aIx (aVar 0) (aVar 3)) (aC (.d (.str "-"))))) (aB (aOp aEq (aSl (aVar 0) (aPart (aOp aAdd (aVar 3) (aC (.d (.int 1))))) (aPart (aOp aAdd (aVar 3) (aC (.d (.int 2)))))) (aC (.d (.str ">")))))) (aSeq (aDrop (aBM "list" aAppend (aVar 1) (aCons (aTup (aCons (aC (.d (.str "mark"))) (aCons (aC (.d (.str "->"))) (aCons (aVar 3) aNil)))) aNil))) (aSet 2 (aC (.d (.int 1))))) (aIfS (aB (aOp (aIn id) (aOp aIx (aVar 0) (aVar 3)) (aC (.d (.str "(){},;:|"))))) (aDrop (aBM "list" aAppend (aVar 1) (aCons (aTup (aCons (aC (.d (.str "mark"))) (aCons (aOp aIx (aVar 0) (aVar 3)) (aCons (aVar 3) aNil)))) aNil))) (aIfS (aB (aOp (aIn not) (aOp aIx (aVar 0) (aVar 3)) (aC (.d (.str " \n"))))) (aRet (aVar 3)) aNext))))))) (aRet (aVar 1)))))
def a_law (K : PySem.W.Frag) : AS :=
  (aSeq (aSet 1 (aCall Com.F__law_source (fun _ _ => False) (aCons (aVar 0) aNil))) (aSeq (aFor (aRng1 (aCons (aOp aAdd (aC (.d (.int 5))) (aCB aMin2 (aCons (aC (.d (.int 60))) (aCons (aCB aLen (aCons (aVar 0) aNil)) aNil)))) aNil)) (aName 2) (aSeq (aSet 3 (aBM "str" aJoin (aC (.d (.str ""))) (aCons (aLc (aRng1 (aCons (aCall Com.F__law_pick (fun _ _ => False) (aCons (aVar 1) (aCons (aC (.d (.int 25))) aNil))) aNil)) (aName 4) aYes (aCall F__law_piece (fun _ _ => False) (aCons (aVar 1) aNil)) [4]) aNil))) (aIfS (aNot (aTru (aCall Com.F__law_same (fun _ _ => False) (aCons (aCall F__law_told (fun _ _ => False) (aCons (aVar 3) aNil)) (aCons (aCall F__law_due (fun _ _ => False) (aCons (aVar 3) aNil)) aNil))))) (aRet (aC (.d (.bool false)))) aNext))) (aRet (aC (.d (.bool true))))))

variable {K : PySem.W.Frag}
theorem rd__law_class : ∀ a xa κ R, xa.cls ∈ (["SourceError"] : List Str) → R (.d (.str xa.cls)) κ → a__law_class K a xa (endsA K κ.length R) (startA N__law_class [.r (.ref a)]) κ := by
  rintro a ⟨x, fs⟩ κ R hm h
  have l1 : (1 : Nat) ≤ sizeLine := by decide
  have hx : x ∈ (["SourceError"] : List Str) := hm
  simp only [List.mem_cons, List.mem_nil_iff, or_false] at hx
  rcases hx with rfl
  · refine ⟨l1, hm, rfl, .inl ⟨z0 (by decide +kernel : exKind "SourceError" "NameTwice" = false), ⟨l1, hm, rfl, .inl ⟨z0 (by decide +kernel : exKind "SourceError" "NotPossible" = false), ⟨_, _, rfl, rfl, (by decide), l1, hm, rfl, .inl ⟨z0 (by decide +kernel : exKind "SourceError" "PaperError" = false), ⟨_, _, rfl, rfl, (by decide), l1, hm, rfl, .inl ⟨z0 (by decide +kernel : exKind "SourceError" "SelfLetter" = false), ⟨_, _, rfl, rfl, (by decide), l1, hm, rfl, .inr ⟨z1 (by decide +kernel : exKind "SourceError" "SourceError" = true), ⟨_, _, rfl, rfl, (by decide), l1, hm, rfl, .inl ⟨z0 (by decide +kernel : exKind "SourceError" "TableError" = false), ⟨_, _, rfl, rfl, (by decide), l1, hm, rfl, .inl ⟨z0 (by decide +kernel : exKind "SourceError" "TooLarge" = false), ⟨_, _, rfl, rfl, (by decide), l1, hm, rfl, .inl ⟨z0 (by decide +kernel : exKind "SourceError" "UnknownName" = false), ⟨_, _, rfl, rfl, (by decide), l1, hm, rfl, .inl ⟨z0 (by decide +kernel : exKind "SourceError" "WrongCount" = false), ⟨_, _, rfl, rfl, (by decide), ?_⟩⟩⟩⟩⟩⟩⟩⟩⟩⟩⟩⟩⟩⟩⟩⟩⟩⟩⟩
    exact ⟨hm, rfl, bt_ (show exKind "SourceError" "ValueError" = true by decide +kernel) ⟨_, at_nat (j := 0) rfl, ⟨_, _, GhR.refl (Nat.le_refl _), h⟩⟩⟩

theorem len__law_run : ∀ as κ R E', F__law_run as κ R E' → as.length = (["text", "at"] : List Str).length := by
  rintro as κ R E' ⟨s, n, pre, l, w, rfl, _⟩; rfl
theorem small_mem {c : Nat} : c ∈ tl "abcdefghijklmnopqrstuvwxyz0123456789" ↔ run c := by
  have e : tl "abcdefghijklmnopqrstuvwxyz0123456789" = tl "abcdefghijklmnopqrstuvwxyz" ++ tl "0123456789" := by decide +kernel
  rw [e, List.mem_append, letters_mem, digits_mem]
  exact Iff.rfl
theorem rd__law_run : ∀ as κ R E', F__law_run as κ R E' → a__law_run K (endsA K κ.length R) (startA N__law_run as) κ := by
  rintro as κ R E' ⟨s, n, pre, l, w, rfl, rfl, hsl, hsp, hpl, hw, h⟩
  have hlen : s.length = n + l.length := by rw [tl_len, hsp, List.length_append, hpl]
  have fin : ∀ v : Str, tl v = l.takeWhile (fun x => decide (run x)) → (endsA K ([] : AK).length R).rt (.d (.str v)) [] := fun v e => ⟨_, _, GhR.refl (Nat.le_refl _), by rw [tl_inj (e.trans hw.symm)]; exact h⟩
  refine ⟨lt6 hsl, ⟨by omega, by omega, by omega, by omega⟩, ?_⟩
  have hN : ((s.length : Int) - (n : Int)).toNat = l.length := by omega
  rw [hN]
  refine for_r (fun i δ κ => ∃ v y, δ = [some (.d (.str s)), some (.d (.int (n : Nat))), some (.d (.str v)), y] ∧ κ = [] ∧ tl v = l.take i ∧ (∀ x ∈ l.take i, run x)) ⟨"", none, rfl, rfl, by rw [tl_empty]; rfl, by simp⟩ ?_ ?_
  · rintro δ κ ⟨v, y, rfl, rfl, e, hr⟩ _
    rw [List.take_length] at e hr
    refine fin v (e.trans ?_)
    have z := List.takeWhile_append_of_pos (l₂ := []) (fun x hx => decide_eq_true (hr x hx))
    rw [List.append_nil] at z
    rw [z, List.takeWhile_nil, List.append_nil]
  · rintro i δ κ hi ⟨v, y, rfl, rfl, e, hr⟩ _
    have hc : (tl s)[n + i]? = some l[i] := by
      rw [hsp, List.getElem?_append_right (by omega), show n + i - pre.length = i by omega, List.getElem?_eq_getElem hi]
    have ei : ((n : Nat) : Int) + ((i : Nat) : Int) = ((n + i : Nat) : Int) := by omega
    have hsplit : l = l.take i ++ l[i] :: l.drop (i + 1) := by
      rw [List.getElem_cons_drop, List.take_append_drop]
    rw [ei]
    refine ⟨l[i], lt6 hsl, at_nat hc, l[i], rfl, bsel_i (fun hn => ?_) fun hy => ⟨l[i], lt6 hsl, at_nat hc, ?_, ?_⟩⟩
    · have hn : (!decide (l[i] ∈ tl "abcdefghijklmnopqrstuvwxyz0123456789")) = true := hn
      have hn' : ¬ run l[i] := fun z => by
        rw [decide_eq_true (small_mem.mpr z)] at hn; cases hn
      refine fin v (e.trans ?_)
      conv => rhs; rw [hsplit]
      rw [List.takeWhile_append_of_pos (fun x hx => decide_eq_true (hr x hx)), List.takeWhile_cons, if_neg (by simpa using hn'), List.append_nil]
    · have : v.length = (l.take i).length := by rw [tl_len, e]
      rw [List.length_take] at this
      show v.length + 1 ≤ sizeLine
      exact lt6 (by omega)
    · have hy : (!decide (l[i] ∈ tl "abcdefghijklmnopqrstuvwxyz0123456789")) = false := hy
      have hy' : run l[i] := by
        by_cases z : run l[i]
        · exact z
        · rw [decide_eq_false (fun w => z (small_mem.mp w))] at hy; cases hy
      refine ⟨v ++ ⟨#[l[i]]⟩, _, rfl, rfl, ?_, ?_⟩
      · rw [tl_app, e, tl_one, List.take_succ_eq_append_getElem hi]
      · rw [List.take_succ_eq_append_getElem hi]
        intro x hx
        rcases List.mem_append.mp hx with hx | hx
        · exact hr x hx
        · rw [List.mem_singleton.mp hx]; exact hy'
theorem lrun_w {s : Str} {n : Nat} {pre l : List Nat} {w : Str} {κ : AK} {R : AR} {E : AX → AK → Prop} (h0 : s.length ≤ 6000000) (h1 : tl s = pre ++ l) (h2 : pre.length = n) (h3 : tl w = l.takeWhile (fun x => decide (run x))) (h : R (.d (.str w)) κ) : callW F__law_run E [.d (.str s), .d (.int (n : Nat))] κ R :=
  callW_i ⟨[], _, _, .nil, rfl, rfl, s, n, pre, l, w, rfl, rfl, h0, h1, h2, h3, Nat.zero_le _, rfl, rfl, h⟩
theorem cut1 {s : Str} {i c : Nat} {pre r : List Nat} (h1 : tl s = pre ++ c :: r) (h2 : pre.length = i) : tl (cutS s (some ((i : Int) + 1)) (some ((i : Int) + 2))) = r.take 1 := by
  have hs : s.length = i + 1 + r.length := by rw [tl_len, h1, List.length_append, List.length_cons, h2]; omega
  show ((tl s).drop (HT.sIx s.length 0 (some ((i : Int) + 1)))).take (HT.sIx s.length s.length (some ((i : Int) + 2)) - HT.sIx s.length 0 (some ((i : Int) + 1))) = _
  rw [show ((i : Int) + 1) = ((i + 1 : Nat) : Int) by omega, show ((i : Int) + 2) = ((i + 2 : Nat) : Int) by omega, HT.sIx_nat, HT.sIx_nat, show min (i + 1) s.length = i + 1 by omega, h1]
  have : (pre ++ c :: r).drop (i + 1) = r := by
    rw [← h2, List.drop_append, List.drop_eq_nil_of_le (by omega)]
    simp
  rw [this]
  cases r with
  | nil => simp
  | cons x r =>
    rw [List.length_cons] at hs
    rw [show min (i + 2) s.length - (i + 1) = 1 by omega]
theorem gt_tl : tl ">" = [62] := by decide +kernel
theorem len__law_due : ∀ as κ R E', F__law_due as κ R E' → as.length = (["text"] : List Str).length := by
  rintro as κ R E' ⟨s, ts, e, rfl, _⟩; rfl
theorem rd__law_due : ∀ as κ R E', F__law_due as κ R E' → a__law_due K (endsA K κ.length R) (startA N__law_due as) κ := by
  rintro as κ R E' ⟨s, ts, e, rfl, rfl, hsl, ht, h, hE⟩
  have hsl6 : s.length ≤ 6000000 := by omega
  have hlts := scan_len ht
  have lsz : ∀ {m : Nat}, m ≤ 7000 → m ≤ sizeLine := fun h => Nat.le_trans h (by decide)
  have err : ∀ n, e = some n → ∀ c : AK, (endsA K ([] : AK).length R).rt (.d (.int (n : Nat))) c := fun n z c => ⟨_, _, GhR.take 0 (Nat.le_refl _) (Nat.zero_le _) rfl rfl, by rw [List.take_zero]; exact hE n z⟩
  refine ⟨Nat.zero_le _, lsz (by omega), by omega, by omega, ?_⟩
  have hN : ((s.length : Int)).toNat = s.length := by omega
  rw [hN]
  refine for_r (fun i δ κ => ∃ sk pre l ts1 ts2 x3 x4 x5, δ = [some (.d (.str s)), some (.c 0), some (.d (.int (sk : Nat))), x3, x4, x5] ∧ κ = [.ld (ts1.map fun p => tokD p.1 (p.2 : Nat))] ∧ tl s = pre ++ l ∧ pre.length = i + sk ∧ Scan l (i + sk) ts2 e ∧ ts = ts1 ++ ts2)
    ⟨0, [], tl s, [], ts, none, none, none, rfl, rfl, rfl, rfl, ht, rfl⟩ ?_ ?_
  · rintro δ κ ⟨sk, pre, l, ts1, ts2, x3, x4, x5, rfl, rfl, hsp, hpl, htk, rfl⟩ _
    have hlen : s.length = (s.length + sk) + l.length := by
      conv => lhs; rw [tl_len, hsp, List.length_append, hpl]
    have hl0 : l = [] := List.length_eq_zero_iff.mp (by omega)
    subst hl0
    obtain ⟨rfl, rfl⟩ := scan_nil htk rfl
    rw [List.append_nil] at h
    exact ⟨_, _, (GhR.freeze (show 0 ≤ 1 by decide) 0 _ rfl).trans (GhR.take 0 (Nat.le_refl _) (show 0 ≤ 1 by decide) rfl rfl), h rfl⟩
  · rintro i δ κ hi ⟨sk, pre, l, ts1, ts2, x3, x4, x5, rfl, rfl, hsp, hpl, htk, rfl⟩ _
    have hz : (0 : Int) + (i : Int) = ((i : Nat) : Int) := by omega
    have hlen : s.length = (i + sk) + l.length := by rw [tl_len, hsp, List.length_append, hpl]
    have hcut : tl s = (tl s).take i ++ (tl s).drop i := (List.take_append_drop ..).symm
    have hci : ((tl s).take i).length = i := by rw [List.length_take, ← tl_len]; omega
    rw [hz]
    refine lrun_w (w := ⟨(((tl s).drop i).takeWhile (fun x => decide (run x))).toArray⟩) hsl6 hcut hci rfl ?_
    refine bsel_i (fun h0 => ?_) fun h0 => ?_
    · have h0 : decide ((0 : Int) < (sk : Int)) = true := h0
      have h0 := of_decide_eq_true h0
      obtain ⟨k', rfl⟩ : ∃ k', sk = k' + 1 := ⟨sk - 1, by omega⟩
      have eδ : (((k' + 1 : Nat) : Int) - 1) = ((k' : Nat) : Int) := by omega
      refine ⟨k', pre, l, ts1, ts2, some (.d (.int (i : Nat))), some (.d (.str ⟨(((tl s).drop i).takeWhile (fun x => decide (run x))).toArray⟩)), x5, ?_, rfl, hsp, by omega, by rw [show i + 1 + k' = i + (k' + 1) by omega]; exact htk, rfl⟩
      show [_, _, some (AV.d (.int (((k' + 1 : Nat) : Int) - 1))), _, _, _] = _
      rw [eδ]
    · have h0 : decide ((0 : Int) < (sk : Int)) = false := h0
      have h0 := of_decide_eq_false h0
      have hsk : sk = 0 := by omega
      subst hsk
      rw [Nat.add_zero] at hpl htk
      have hd : (tl s).drop i = l := by
        rw [hsp, ← hpl, List.drop_left]
      rw [hd]
      have hil : i < s.length := hi
      generalize hgu : (⟨(l.takeWhile (fun x => decide (run x))).toArray⟩ : Str) = u
      have hu : tl u = l.takeWhile (fun x => decide (run x)) := by rw [← hgu]
      clear hgu
      have nil_of : ∀ {c : Nat} {r : List Nat}, l = c :: r → ¬ run c → u = "" := fun {c r} el hc => by
        apply tl_inj
        rw [tl_empty, hu, el, List.takeWhile_cons, if_neg (by simpa using hc)]
      have ne0 : u = "" → (!decide (u = "")) = true → False := fun z y => by rw [decide_eq_true z] at y; cases y
      have ne1 : u ≠ "" → (!decide (u = "")) = false → False := fun z y => by rw [decide_eq_false z] at y; cases y
      have ats : ∀ {c : Nat} {r : List Nat}, l = c :: r → (tl s)[i]? = some c := fun {c r} z => at_pre (by rw [hsp, z]) hpl
      have minus : ∀ {c : Nat}, decide ((⟨#[c]⟩ : Str) = "-") = true → c = 45 := fun {c} ha => by
        have := congrArg tl (of_decide_eq_true ha)
        rw [tl_one, show tl "-" = [45] by decide +kernel] at this
        exact (List.cons.inj this).1
      have lc : ts1.length < 7000 := by
        rw [List.length_append, ← tl_len] at hlts; omega
      have app : ∀ {w : Str}, [Cell.ld ((ts1.map fun p => tokD p.1 (p.2 : Nat)) ++ [tokD w (i : Nat)])] = [Cell.ld ((ts1 ++ [(w, i)]).map fun p => tokD p.1 (p.2 : Nat))] := fun {w} => by rw [List.map_append]; rfl
      cases htk with
      | nil n => simp at hlen; omega
      | @blank c l n ts e hb htk =>
        have hc : ¬ run c := blank_not hb
        have hu0 := nil_of rfl hc
        have f := ats rfl
        have nm : c ∉ tl "(){},;:|" := fun z => by
          rcases hb with rfl | rfl <;> exact absurd z (by decide +kernel)
        refine bsel_i (fun z => (ne0 hu0 z).elim) fun _ => ⟨c, lt6 hsl6, at_nat f, bsel_i (fun ha => ?_) fun _ => ⟨c, lt6 hsl6, at_nat f, c, rfl, bsel_i (fun z => absurd (of_decide_eq_true (p := c ∈ tl "(){},;:|") z) nm) fun _ => ⟨c, lt6 hsl6, at_nat f, c, rfl, bsel_i (fun z => ?_) fun _ => ?_⟩⟩⟩
        · exfalso
          have := minus ha
          rcases hb with rfl | rfl <;> cases this
        · have z : (!decide (c ∈ tl " \n")) = true := z
          rw [decide_eq_true (blank_in.mpr hb)] at z; cases z
        · exact ⟨0, pre ++ [c], l, ts1, ts2, _, _, _, rfl, rfl, by rw [hsp]; simp, by simp [hpl], htk, rfl⟩
      | @bad l n hw =>
        obtain ⟨c, r, el, hnb, hb⟩ := id hw
        have f := ats el
        rcases hb with ⟨hrun, hb⟩ | ⟨hrun, hm, ha⟩
        · obtain ⟨w, rest, hS⟩ := runS_of (r := r) hrun
          have ew : u = w := tl_inj (hu.trans (by rw [el]; exact hS.w.symm))
          obtain ⟨c', r', e0⟩ := hS.ne
          have ec : c' = c := by
            have := hS.e
            rw [e0] at this
            exact (List.cons.inj this).1.symm
          subst ec
          rw [← hS.w, ← tl_len] at hb
          rw [← ew] at hb e0
          have lw : u.length ≤ 6000000 := by
            have := congrArg List.length hS.e
            rw [List.length_append, ← tl_len, ← ew, ← el] at this
            omega
          have ne : u ≠ "" := fun z => by rw [z, tl_empty] at e0; cases e0
          refine bsel_i (fun _ => ?_) fun z => (ne1 ne z).elim
          refine ⟨lt6 lw, bsel_i (fun _ => err _ rfl _) fun hg => ⟨c', lt6 lw, at_nat (j := 0) (by show (tl u)[0]? = _; rw [e0]; rfl), c', rfl, bsel_i (fun _ => err _ rfl _) fun hd => ?_⟩⟩
          exfalso
          have hg : decide ((12 : Int) < (u.length : Int)) = false := hg
          have hg := of_decide_eq_false hg
          have hd : decide (c' ∈ tl "0123456789") = false := hd
          rcases hb with hb | hb
          · omega
          · exact of_decide_eq_false hd (digits_mem.mpr hb)
        · have hu0 := nil_of el hrun
          have hc1 := cut1 (s := s) (i := i) (by rw [hsp, el]) hpl
          have hnb' : c ∉ tl " \n" := fun z => hnb (blank_in.mp z)
          refine bsel_i (fun z => (ne0 hu0 z).elim) fun _ => ⟨c, lt6 hsl6, at_nat f, bsel_i (fun h45 => ?_) fun _ => ?_⟩
          · have h45 := minus h45
            refine ⟨lt6 hsl6, bsel_i (fun hs => ?_) fun _ => ?_⟩
            · exfalso
              have hs := of_decide_eq_true (p := cutS s (some ((i : Int) + 1)) (some ((i : Int) + 2)) = ">") hs
              rw [hs, gt_tl] at hc1
              refine ha ⟨h45, ?_⟩
              cases r with
              | nil => cases hc1
              | cons x r' =>
                have : 62 = x := (List.cons.inj hc1).1
                exact ⟨r', by rw [this]⟩
            · exact ⟨c, lt6 hsl6, at_nat f, c, rfl, bsel_i (fun z => absurd (of_decide_eq_true (p := c ∈ tl "(){},;:|") z) hm) fun _ => ⟨c, lt6 hsl6, at_nat f, c, rfl, bsel_i (fun _ => err _ rfl _) fun z => (by
                have z : (!decide (c ∈ tl " \n")) = false := z
                rw [decide_eq_false hnb'] at z; cases z)⟩⟩
          · exact ⟨c, lt6 hsl6, at_nat f, c, rfl, bsel_i (fun z => absurd (of_decide_eq_true (p := c ∈ tl "(){},;:|") z) hm) fun _ => ⟨c, lt6 hsl6, at_nat f, c, rfl, bsel_i (fun _ => err _ rfl _) fun z => (by
                have z : (!decide (c ∈ tl " \n")) = false := z
                rw [decide_eq_false hnb'] at z; cases z)⟩⟩
      | @tok w l n ts e hw hl htk =>
        rcases hw with hw | hw | rfl
        · obtain ⟨c, r, e0, hc, hall, hr11⟩ := id hw
          have hallw : ∀ x ∈ tl w, run x := fun x hx => by
            rw [e0] at hx
            exact (List.mem_cons.mp hx).elim (fun z => z ▸ .inl hc) (hall x)
          have ew : u = w := by
            apply tl_inj
            rw [hu, List.takeWhile_append_of_pos (fun x hx => decide_eq_true (hallw x hx))]
            cases l with
            | nil => simp
            | cons d r' => rw [List.takeWhile_cons, if_neg (by simpa using hl hw d r' rfl), List.append_nil]
          have hwl : w.length ≤ 12 := by rw [tl_len, e0, List.length_cons]; omega
          have hw1 : 1 ≤ w.length := by rw [tl_len, e0, List.length_cons]; omega
          have ne : u ≠ "" := fun z => by rw [← ew, z, tl_empty] at e0; cases e0
          have ei : tokD w (i : Nat) = .tuple [.str (if w ∈ wordsL then ("word" : Str) else "name"), .str w, .int (i : Nat)] := by
            unfold tokD; rw [kind_run hw]
          have nd : ¬ dig c := fun z => by unfold dig at z; unfold low at hc; omega
          rw [ew]
          rw [ew] at ne
          refine bsel_i (fun _ => ?_) fun z => absurd (show (!decide (w = "")) = false from z) (by rw [decide_eq_false ne]; decide)
          refine ⟨lt6 (by omega), bsel_i (fun hg => ?_) fun _ => ⟨c, lt6 (by omega), at_nat (j := 0) (by show (tl w)[0]? = _; rw [e0]; rfl), c, rfl, bsel_i (fun hd => ?_) fun _ => ?_⟩⟩
          · have hg := of_decide_eq_true (p := (12 : Int) < (w.length : Int)) hg
            omega
          · exact absurd (digits_mem.mp (of_decide_eq_true (p := c ∈ tl "0123456789") hd)) nd
          · refine ⟨(by decide), (by decide), rfl, rfl, ?_⟩
            have key : atI ([.str "name", .str "word"] : List PyData) (if inD (.str w) (wordsL.map .str) = true then 1 else 0) = some (.str (if w ∈ wordsL then ("word" : Str) else "name")) := by
              rw [inD_str]
              by_cases hwd : w ∈ wordsL
              · rw [if_pos hwd, decide_eq_true hwd]; exact at_nat (j := 1) rfl
              · rw [if_neg hwd, decide_eq_false hwd]; exact at_nat (j := 0) rfl
            refine ⟨_, key, rfl, (show 3 ≤ sizeLine by decide), ?_, lt6 (by omega), w.length - 1, pre ++ tl w, l, ts1 ++ [(w, i)], ts, some (.d (.int (i : Nat))), some (.d (.str w)), some (.d (.str (if w ∈ wordsL then ("word" : Str) else "name"))), ?_, ?_, by rw [hsp]; simp, ?_, ?_, by simp⟩
            · rw [List.length_map]; exact Nat.lt_of_lt_of_le lc (by decide)
            · show [_, _, some (AV.d (.int ((w.length : Int) - 1))), _, _, _] = _
              rw [show (w.length : Int) - 1 = ((w.length - 1 : Nat) : Int) by omega]
            · rw [← app, ei]; rfl
            · rw [List.length_append, ← tl_len, hpl]; omega
            · rw [show i + 1 + (w.length - 1) = i + w.length by omega]; exact htk
        · obtain ⟨c, rfl, hc, _, hnb, _, hm, _⟩ := marks_ok hw
          have f := ats (c := c) (r := l) rfl
          have hu0 := nil_of (c := c) (r := l) rfl hc
          have ei : tokD ⟨#[c]⟩ (i : Nat) = .tuple [.str "mark", .str ⟨#[c]⟩, .int (i : Nat)] := by
            unfold tokD; rw [kind_mark (.inl hw)]
          refine bsel_i (fun z => (ne0 hu0 z).elim) fun _ => ⟨c, lt6 hsl6, at_nat f, bsel_i (fun h45 => ?_) fun _ => ⟨c, lt6 hsl6, at_nat f, c, rfl, bsel_i (fun _ => ?_) fun z => absurd hm (of_decide_eq_false (p := c ∈ tl "(){},;:|") z)⟩⟩
          · have h45 := minus h45
            rw [h45] at hm
            exact absurd hm (by decide +kernel)
          · refine ⟨rfl, c, lt6 hsl6, at_nat f, (show 3 ≤ sizeLine by decide), ?_, 0, pre ++ [c], l, ts1 ++ [(⟨#[c]⟩, i)], ts, _, _, _, rfl, ?_, by rw [hsp]; simp [tl_one], by simp [hpl], htk, by simp⟩
            · rw [List.length_map]; exact Nat.lt_of_lt_of_le lc (by decide)
            · rw [← app, ei]; rfl
        · have f := ats (c := 45) (r := 62 :: l) (by rw [arrow_tl]; rfl)
          have hu0 := nil_of (c := 45) (r := 62 :: l) (by rw [arrow_tl]; rfl) (by decide)
          have hc1 := cut1 (s := s) (i := i) (c := 45) (r := 62 :: l) (by rw [hsp, arrow_tl]; rfl) hpl
          have ec : cutS s (some ((i : Int) + 1)) (some ((i : Int) + 2)) = ">" := tl_inj (hc1.trans gt_tl.symm)
          have ei : tokD "->" (i : Nat) = .tuple [.str "mark", .str "->", .int (i : Nat)] := by
            unfold tokD; rw [kind_mark (.inr rfl)]
          have h2 : ("->" : Str).length = 2 := by decide +kernel
          refine bsel_i (fun z => (ne0 hu0 z).elim) fun _ => ⟨45, lt6 hsl6, at_nat f, ?_⟩
          refine ⟨lt6 hsl6, bsel_i (fun _ => ?_) fun z => absurd ec (of_decide_eq_false (p := cutS s (some ((i : Int) + 1)) (some ((i : Int) + 2)) = ">") z)⟩
          refine ⟨rfl, (show 3 ≤ sizeLine by decide), ?_, 1, pre ++ [45, 62], l, ts1 ++ [(("->" : Str), i)], ts, _, _, _, rfl, ?_, by rw [hsp, arrow_tl]; simp, by simp [hpl], by rw [h2] at htk; exact htk, by simp⟩
          · rw [List.length_map]; exact Nat.lt_of_lt_of_le lc (by decide)
          · rw [← app, ei]; rfl
theorem due_w {s : Str} {ts : List (Str × Nat)} {e : Option Nat} {κ : AK} {R : AR} {E : AX → AK → Prop} (h1 : s.length ≤ 6000) (h2 : Scan (tl s) 0 ts e) (h : e = none → R (.d (.list (ts.map fun p => tokD p.1 (p.2 : Nat)))) κ) (hE : ∀ n, e = some n → R (.d (.int (n : Nat))) κ) : callW F__law_due E [.d (.str s)] κ R :=
  callW_i ⟨[], _, _, .nil, rfl, rfl, s, ts, e, rfl, rfl, h1, h2, fun z => ⟨Nat.zero_le _, rfl, rfl, h z⟩, fun n z => ⟨Nat.zero_le _, rfl, rfl, hE n z⟩⟩
theorem told_w {s : Str} {ts : List (Str × Nat)} {e : Option Nat} {κ : AK} {R : AR} {E : AX → AK → Prop} (h1 : s.length ≤ 6000) (h2 : Scan (tl s) 0 ts e) (h : e = none → R (.d (.list (ts.map fun p => tokD p.1 (p.2 : Nat)))) κ) (hE : ∀ n, e = some n → R (.d (.int (n : Nat))) κ) : callW F__law_told E [.d (.str s)] κ R :=
  callW_i ⟨[], _, _, .nil, rfl, rfl, s, ts, e, rfl, rfl, h1, h2, fun z => ⟨Nat.zero_le _, rfl, rfl, h z⟩, fun n z => ⟨Nat.zero_le _, rfl, rfl, hE n z⟩⟩
theorem len__law_told : ∀ as κ R E', F__law_told as κ R E' → as.length = (["text"] : List Str).length := by
  rintro as κ R E' ⟨s, ts, e, rfl, _⟩; rfl
theorem rd__law_told : ∀ as κ R E', F__law_told as κ R E' → a__law_told K (endsA K κ.length R) (startA N__law_told as) κ := by
  rintro as κ R E' ⟨s, ts, e, rfl, rfl, hsl, ht, h, hE⟩
  have fin : ∀ v (c : AK), R (.d v) [] → (endsA K ([] : AK).length R).rt (.d v) c := fun v c z => ⟨_, _, GhR.take 0 (Nat.le_refl _) (Nat.zero_le _) rfl rfl, by rw [List.take_zero]; exact z⟩
  refine tokenize_w (by omega) ht (fun z => ?_) fun n z => ?_
  · exact ⟨_, _, (GhR.freeze (show 0 ≤ 1 by decide) 0 _ rfl).trans (GhR.take 0 (Nat.le_refl _) (show 0 ≤ 1 by decide) rfl rfl), h z⟩
  · have hm : (srcErr n).cls ∈ (["SourceError"] : List Str) := List.mem_singleton.mpr rfl
    refine ⟨true, (show exmOf ["SourceError"] "PactError" "SourceError" = some true by decide +kernel), fun _ a => ?_, fun z => by cases z⟩
    exact ⟨hm, rfl, hm, _, rfl, rfl, fin _ _ (hE n z)⟩
theorem len__law_piece : ∀ as κ R E', F__law_piece as κ R E' → as.length = (["source"] : List Str).length := by
  rintro as κ R E' ⟨s, rfl, _⟩; rfl
theorem piece_w {s : Cell} {κr : AK} {E : AX → AK → Prop} {R : AR} (hs : isSrc s) (k : ∀ z s', isSrc s' → z.length ≤ 14 → R (.d (.str z)) (s' :: κr)) : callW F__law_piece E [.c 0] (s :: κr) R := by
  obtain ⟨ns, i, x, y, rfl, h0⟩ := id hs
  refine callW_i ⟨[0], _, _, by simp, rfl, rfl, _, rfl, rfl, hs, fun z s' hs' hz => ⟨Nat.le_refl _, ?_, rfl, k z s' hs' hz⟩⟩
  obtain ⟨ns', i', x', y', rfl, _⟩ := hs'
  rfl
theorem every_len : (" !\"#$&'()*+,-./0123456789:;<=>?@ABCDEFGHIJKLMNOPQRSTUVWXYZ[\\]^_`abcdefghijklmnopqrstuvwxyz{|}~\n" : Str).length = 95 := by decide +kernel
theorem small_len : ("abcdefghijklmnopqrstuvwxyz0123456789" : Str).length = 36 := by decide +kernel
theorem str_at {s : Str} {v : Int} (h0 : 0 ≤ v) (h1 : v < s.length) : ∃ c, atI s.cps.toList v = some c := by
  obtain ⟨w, h, _⟩ := at_mem (xs := tl s) h0 (by rw [← tl_len]; exact h1)
  exact ⟨w, h⟩
theorem rd__law_piece : ∀ as κ R E', F__law_piece as κ R E' → a__law_piece K (endsA K κ.length R) (startA N__law_piece as) κ := by
  rintro as κ R E' ⟨s, rfl, rfl, hs, h⟩
  have fin : ∀ s z, isSrc s → z.length ≤ 14 → (endsA K ([s] : AK).length R).rt (.d (.str z)) [s] := fun s z h1 h2 => ⟨_, _, GhR.refl (Nat.le_refl _), h _ _ h1 h2⟩
  have one : ∀ c : Nat, (⟨#[c]⟩ : Str).length ≤ 14 := fun c => (by decide : (1 : Nat) ≤ 14)
  refine pick_w hs (by decide) (by decide) fun v s1 hs1 h0 h1 => ?_
  refine bsel_i (fun _ => ?_) fun _ => ?_
  · refine ⟨(by rw [every_len]; decide), ?_⟩
    rw [every_len]
    refine pick_w hs1 (by decide) (by decide) fun v s2 hs2 h0 h1 => ?_
    obtain ⟨c, hc⟩ := str_at (s := " !\"#$&'()*+,-./0123456789:;<=>?@ABCDEFGHIJKLMNOPQRSTUVWXYZ[\\]^_`abcdefghijklmnopqrstuvwxyz{|}~\n") h0 (by rw [every_len]; exact h1)
    exact ⟨c, (by rw [every_len]; decide), hc, fin _ _ hs2 (one c)⟩
  refine bsel_i (fun _ => ?_) fun _ => ?_
  · refine pick_w hs1 (by decide) (by decide) fun v s2 hs2 h0 h1 => ?_
    obtain ⟨c, hc⟩ := str_at (s := "abcdefghijklmnopqrstuvwxyz0123456789") h0 (by rw [small_len]; omega)
    exact ⟨c, (by rw [small_len]; decide), hc, fin _ _ hs2 (one c)⟩
  refine bsel_i (fun _ => ?_) fun _ => ?_
  · refine pick_w hs1 (by decide) (by decide) fun v s2 hs2 h0 h1 => ?_
    obtain ⟨c, hc⟩ := str_at (s := "abcdefghijklmnopqrstuvwxyz0123456789") h0 (by rw [small_len]; omega)
    exact ⟨c, (by rw [small_len]; decide), hc, fin _ _ hs2 (one c)⟩
  refine bsel_i (fun _ => ?_) fun _ => ?_
  · refine ⟨rfl, pick_w hs1 (by decide) (by decide) fun v s2 hs2 h0 h1 => ⟨by omega, by omega, ?_⟩⟩
    have hN : ((10 : Int) + v).toNat ≤ 14 := by omega
    refine lc_r (fun i acc κ => ∃ s ys, κ = [s] ∧ isSrc s ∧ acc = ys.map PyData.str ∧ ys.length = i ∧ ∀ y ∈ ys, y.length = 1) ⟨s2, [], rfl, hs2, rfl, rfl, by simp⟩ ?_ ?_
    · rintro acc κ ⟨s3, ys, rfl, hs3, rfl, hl, h1⟩
      have sum1 : (ys.map (·.length)).sum = ys.length := by
        clear hl
        induction ys with
        | nil => rfl
        | cons y ys ih =>
          rw [List.map_cons, List.sum_cons, ih (fun z hz => h1 z (List.mem_cons_of_mem _ hz)), h1 y (List.mem_cons_self ..), List.length_cons]
          omega
      have sum2 : (ys.map fun y => y.length + ("" : Str).length).sum = ys.length := by
        have : (fun y : Str => y.length + ("" : Str).length) = fun y => y.length := by
          funext y; rw [show ("" : Str).length = 0 by decide +kernel, Nat.add_zero]
        rw [this]; exact sum1
      refine ⟨ys, rfl, ?_, fin _ _ hs3 ?_⟩
      · rw [sum1, show ("" : Str).length = 0 by decide +kernel]; omega
      · exact Nat.le_trans (tjoin_len _ _) (by omega)
    · rintro i acc κ hi ⟨s3, ys, rfl, hs3, rfl, hl, h1⟩
      refine pick_w hs3 (by decide) (by decide) fun v s4 hs4 h0 h1' => ?_
      obtain ⟨c, hc⟩ := str_at (s := "abcdefghijklmnopqrstuvwxyz0123456789") h0 (by rw [small_len]; omega)
      refine ⟨c, (by rw [small_len]; decide), hc, _, rfl, ?_, s4, ys ++ [⟨#[c]⟩], rfl, hs4, by simp, by simp [hl], fun y hy => ?_⟩
      · rw [List.length_map]; exact Nat.lt_of_lt_of_le (show ys.length < 100 by omega) (by decide)
      · rcases List.mem_append.mp hy with hy | hy
        · exact h1 y hy
        · rw [List.mem_singleton.mp hy]; rfl
  have pk : ∀ (xs : List Str) (v : Int), 0 ≤ v → v < (xs.length : Nat) → (∀ x ∈ xs, x.length ≤ 14) → ∃ x, atI (xs.map PyData.str) v = some (.str x) ∧ x.length ≤ 14 := fun xs v h0 h1 hx => by
    obtain ⟨w, hw, hm, _⟩ := at_mem (xs := xs.map PyData.str) h0 (by rw [List.length_map]; exact h1)
    obtain ⟨x, hx', rfl⟩ := List.mem_map.mp hm
    exact ⟨x, hw, hx x hx'⟩
  refine bsel_i (fun _ => ⟨(by decide), pick_w hs1 (by decide) (by decide) fun v s2 hs2 h0 h1 => ?_⟩) fun _ => ?_
  · obtain ⟨x, hx, hl⟩ := pk ["->", "(", ")", "{", "}", ",", ";", ":", "|", "-", ">", "->"] v h0 h1 (by decide +kernel)
    exact ⟨_, hx, fin _ _ hs2 hl⟩
  refine bsel_i (fun _ => ⟨(by decide), pick_w hs1 (by decide) (by decide) fun v s2 hs2 h0 h1 => ?_⟩) fun _ => ⟨(by decide), pick_w hs1 (by decide) (by decide) fun v s2 hs2 h0 h1 => ?_⟩
  · obtain ⟨x, hx, hl⟩ := pk ["pact", "end", "choice", "both", "loop", "use"] v h0 h1 (by decide +kernel)
    exact ⟨_, hx, fin _ _ hs2 hl⟩
  · obtain ⟨x, hx, hl⟩ := pk [" ", "\n", "  "] v h0 h1 (by decide +kernel)
    exact ⟨_, hx, fin _ _ hs2 hl⟩
theorem rd_law : ∀ as κ R E', F_law as κ R E' → a_law K (endsA K κ.length R) (startA N_law as) κ := by
  rintro as κ R E' ⟨ns, rfl, rfl, hn, h⟩
  refine source_w fun s0 hs0 => ?_
  have ln : (ns.map PyData.int).length = ns.length := List.length_map ..
  refine ⟨by split <;> omega, by split <;> omega, ?_⟩
  refine for_r (fun i δ κ => ∃ s x2 x3 x4, δ = [some (.d (.list (ns.map .int))), some (.c 0), x2, x3, x4] ∧ κ = [s] ∧ isSrc s) ⟨s0, none, none, none, rfl, rfl, hs0⟩ ?_ ?_
  · rintro δ κ ⟨s, x2, x3, x4, rfl, rfl, hs⟩ _
    exact ⟨_, _, GhR.take 0 (Nat.le_refl _) (show 0 ≤ 1 by decide) rfl rfl, h⟩
  · rintro i δ κ hi ⟨s, x2, x3, x4, rfl, rfl, hs⟩ _
    refine ⟨rfl, pick_w hs (by decide) (by decide) fun v s1 hs1 h0 h1 => ⟨by omega, by omega, ?_⟩⟩
    refine lc_r (fun i acc κ => ∃ s ys, κ = [s] ∧ isSrc s ∧ acc = ys.map PyData.str ∧ ys.length = i ∧ ∀ y ∈ ys, y.length ≤ 14) ⟨s1, [], rfl, hs1, rfl, rfl, by simp⟩ ?_ ?_
    · rintro acc κ ⟨s3, ys, rfl, hs3, rfl, hl, h1⟩
      have hy : ys.length ≤ 24 := by omega
      have sum1 : (ys.map (·.length)).sum ≤ 14 * ys.length := by
        clear hl hy
        induction ys with
        | nil => exact Nat.le_refl _
        | cons y ys ih =>
          rw [List.map_cons, List.sum_cons, List.length_cons]
          have := ih (fun z hz => h1 z (List.mem_cons_of_mem _ hz))
          have := h1 y (List.mem_cons_self ..)
          omega
      have sum2 : (ys.map fun y => y.length + ("" : Str).length).sum = (ys.map (·.length)).sum := by
        have : (fun y : Str => y.length + ("" : Str).length) = fun y => y.length := by
          funext y; rw [show ("" : Str).length = 0 by decide +kernel, Nat.add_zero]
        rw [this]
      have hj := tjoin_len "" ys
      refine ⟨ys, rfl, ?_, ?_⟩
      · rw [show ("" : Str).length = 0 by decide +kernel]; omega
      generalize Txt.join "" ys = text at hj
      obtain ⟨ts, e, hsc⟩ := scan_ex _ (tl text) 0 (Nat.le_refl _)
      have hlen : text.length ≤ 6000 := by omega
      have hts := scan_len hsc
      rw [← tl_len] at hts
      cases e with
      | none =>
        refine told_w hlen hsc (fun _ => ?_) (fun n z => by cases z)
        refine due_w hlen hsc (fun _ => ?_) (fun n z => by cases z)
        exact same_w (tokens_dep (by omega)) ⟨s3, _, _, _, rfl, rfl, hs3⟩
      | some n =>
        refine told_w hlen hsc (fun z => by cases z) fun n' z => ?_
        refine due_w hlen hsc (fun z => by cases z) fun n2 z2 => ?_
        cases z; cases z2
        exact same_w trivial ⟨s3, _, _, _, rfl, rfl, hs3⟩
    · rintro i acc κ hi ⟨s3, ys, rfl, hs3, rfl, hl, h1⟩
      refine piece_w hs3 fun z s4 hs4 hz => ⟨_, rfl, ?_, s4, ys ++ [z], rfl, hs4, by simp, by simp [hl], fun y hy => ?_⟩
      · rw [List.length_map]; exact Nat.lt_of_lt_of_le (show ys.length < 100 by omega) (by decide)
      · rcases List.mem_append.mp hy with hy | hy
        · exact h1 y hy
        · rw [List.mem_singleton.mp hy]; exact hz
structure Txt (K : PySem.W.Frag) (mg : Str → Option Value) where
  m_ValueError : mg "ValueError" = none
  m_bool : mg "bool" = none
  m_int : mg "int" = none
  m_isinstance : mg "isinstance" = none
  m_len : mg "len" = none
  m_list : mg "list" = none
  m_min : mg "min" = none
  m_range : mg "range" = none
  m_str : mg "str" = none
  m_tuple : mg "tuple" = none
  v_ARROW : V
  u_ARROW : Value
  g_ARROW : mg "ARROW" = some u_ARROW
  r_ARROW : RelV v_ARROW u_ARROW
  d_ARROW : ∀ B, Dp K B v_ARROW w_ARROW
  v_DIGITS : V
  u_DIGITS : Value
  g_DIGITS : mg "DIGITS" = some u_DIGITS
  r_DIGITS : RelV v_DIGITS u_DIGITS
  d_DIGITS : ∀ B, Dp K B v_DIGITS w_DIGITS
  v_LETTERS : V
  u_LETTERS : Value
  g_LETTERS : mg "LETTERS" = some u_LETTERS
  r_LETTERS : RelV v_LETTERS u_LETTERS
  d_LETTERS : ∀ B, Dp K B v_LETTERS w_LETTERS
  v_LONGEST_NAME : V
  u_LONGEST_NAME : Value
  g_LONGEST_NAME : mg "LONGEST_NAME" = some u_LONGEST_NAME
  r_LONGEST_NAME : RelV v_LONGEST_NAME u_LONGEST_NAME
  d_LONGEST_NAME : ∀ B, Dp K B v_LONGEST_NAME w_LONGEST_NAME
  v_SHORT_MARKS : V
  u_SHORT_MARKS : Value
  g_SHORT_MARKS : mg "SHORT_MARKS" = some u_SHORT_MARKS
  r_SHORT_MARKS : RelV v_SHORT_MARKS u_SHORT_MARKS
  d_SHORT_MARKS : ∀ B, Dp K B v_SHORT_MARKS w_SHORT_MARKS
  v_WORDS : V
  u_WORDS : Value
  g_WORDS : mg "WORDS" = some u_WORDS
  r_WORDS : RelV v_WORDS u_WORDS
  d_WORDS : ∀ B, Dp K B v_WORDS w_WORDS
  Er_NameTwice : Addr
  gc_NameTwice : mg "NameTwice" = some (.ref Er_NameTwice)
  Er_NotPossible : Addr
  gc_NotPossible : mg "NotPossible" = some (.ref Er_NotPossible)
  Er_PactError : Addr
  gc_PactError : mg "PactError" = some (.ref Er_PactError)
  Er_PaperError : Addr
  gc_PaperError : mg "PaperError" = some (.ref Er_PaperError)
  Er_SelfLetter : Addr
  gc_SelfLetter : mg "SelfLetter" = some (.ref Er_SelfLetter)
  Er_SourceError : Addr
  gc_SourceError : mg "SourceError" = some (.ref Er_SourceError)
  Er_TableError : Addr
  gc_TableError : mg "TableError" = some (.ref Er_TableError)
  Er_TooLarge : Addr
  gc_TooLarge : mg "TooLarge" = some (.ref Er_TooLarge)
  Er_UnknownName : Addr
  gc_UnknownName : mg "UnknownName" = some (.ref Er_UnknownName)
  Er_WrongCount : Addr
  gc_WrongCount : mg "WrongCount" = some (.ref Er_WrongCount)
  er_SourceError : ExF K "SourceError" Er_SourceError
  no_SourceError : PySem.W.findIn K (.ref Er_SourceError) "at" = some none
  fi_SourceError : Addr
  fdi_SourceError : FuncData
  ii_SourceError : PySem.W.findIn K (.ref Er_SourceError) "__init__" = some (some (.ref fi_SourceError))
  ti_SourceError : PySem.W.typeIn K (.ref fi_SourceError) = some (.type "function")
  Fi_SourceError : Fun K "__init__" "SourceError.__init__" s_SourceError___init__ fi_SourceError fdi_SourceError
  bi_SourceError : Binds K fdi_SourceError ["self", "at"] []
  kd_NameTwice : KindOk K ["SourceError"] "NameTwice" (.ref Er_NameTwice)
  kd_NotPossible : KindOk K ["SourceError"] "NotPossible" (.ref Er_NotPossible)
  kd_PaperError : KindOk K ["SourceError"] "PaperError" (.ref Er_PaperError)
  kd_SelfLetter : KindOk K ["SourceError"] "SelfLetter" (.ref Er_SelfLetter)
  kd_SourceError : KindOk K ["SourceError"] "SourceError" (.ref Er_SourceError)
  kd_TableError : KindOk K ["SourceError"] "TableError" (.ref Er_TableError)
  kd_TooLarge : KindOk K ["SourceError"] "TooLarge" (.ref Er_TooLarge)
  kd_UnknownName : KindOk K ["SourceError"] "UnknownName" (.ref Er_UnknownName)
  kd_ValueError : KindOk K ["SourceError"] "ValueError" (.type "ValueError")
  kd_WrongCount : KindOk K ["SourceError"] "WrongCount" (.ref Er_WrongCount)
  em_PactError : ExmOk K ["SourceError"] "PactError" (.ref Er_PactError)
  fld_at : FldOk K ["SourceError"] "at"
  f__law_source : Addr
  fd__law_source : FuncData
  g__law_source : mg "_law_source" = some (.ref f__law_source)
  F__law_source : Fun K "_law_source" "_law_source" s__law_source f__law_source fd__law_source
  b__law_source : Binds K fd__law_source ["script"] []
  f__law_pick : Addr
  fd__law_pick : FuncData
  g__law_pick : mg "_law_pick" = some (.ref f__law_pick)
  F__law_pick : Fun K "_law_pick" "_law_pick" s__law_pick f__law_pick fd__law_pick
  b__law_pick : Binds K fd__law_pick ["source", "many"] []
  f__law_piece : Addr
  fd__law_piece : FuncData
  g__law_piece : mg "_law_piece" = some (.ref f__law_piece)
  F__law_piece : Fun K "_law_piece" "_law_piece" s__law_piece f__law_piece fd__law_piece
  b__law_piece : Binds K fd__law_piece ["source"] []
  f__law_same : Addr
  fd__law_same : FuncData
  g__law_same : mg "_law_same" = some (.ref f__law_same)
  F__law_same : Fun K "_law_same" "_law_same" s__law_same f__law_same fd__law_same
  b__law_same : Binds K fd__law_same ["actual", "due"] []
  f__belongs_to_run : Addr
  fd__belongs_to_run : FuncData
  g__belongs_to_run : mg "_belongs_to_run" = some (.ref f__belongs_to_run)
  F__belongs_to_run : Fun K "_belongs_to_run" "_belongs_to_run" s__belongs_to_run f__belongs_to_run fd__belongs_to_run
  b__belongs_to_run : Binds K fd__belongs_to_run ["sign"] []
  f__run_at : Addr
  fd__run_at : FuncData
  g__run_at : mg "_run_at" = some (.ref f__run_at)
  F__run_at : Fun K "_run_at" "_run_at" s__run_at f__run_at fd__run_at
  b__run_at : Binds K fd__run_at ["text", "at"] []
  f__token_at : Addr
  fd__token_at : FuncData
  g__token_at : mg "_token_at" = some (.ref f__token_at)
  F__token_at : Fun K "_token_at" "_token_at" s__token_at f__token_at fd__token_at
  b__token_at : Binds K fd__token_at ["text", "at"] []
  f_tokenize : Addr
  fd_tokenize : FuncData
  g_tokenize : mg "tokenize" = some (.ref f_tokenize)
  F_tokenize : Fun K "tokenize" "tokenize" s_tokenize f_tokenize fd_tokenize
  b_tokenize : Binds K fd_tokenize ["text"] []
  f__law_class : Addr
  fd__law_class : FuncData
  g__law_class : mg "_law_class" = some (.ref f__law_class)
  F__law_class : Fun K "_law_class" "_law_class" s__law_class f__law_class fd__law_class
  b__law_class : Binds K fd__law_class ["e"] []
  f__law_told : Addr
  fd__law_told : FuncData
  g__law_told : mg "_law_told" = some (.ref f__law_told)
  F__law_told : Fun K "_law_told" "_law_told" s__law_told f__law_told fd__law_told
  b__law_told : Binds K fd__law_told ["text"] []
  f__law_run : Addr
  fd__law_run : FuncData
  g__law_run : mg "_law_run" = some (.ref f__law_run)
  F__law_run : Fun K "_law_run" "_law_run" s__law_run f__law_run fd__law_run
  b__law_run : Binds K fd__law_run ["text", "at"] []
  f__law_due : Addr
  fd__law_due : FuncData
  g__law_due : mg "_law_due" = some (.ref f__law_due)
  F__law_due : Fun K "_law_due" "_law_due" s__law_due f__law_due fd__law_due
  b__law_due : Binds K fd__law_due ["text"] []
  f_law : Addr
  fd_law : FuncData
  g_law : mg "law" = some (.ref f_law)
  F_law : Fun K "law" "law" s_law f_law fd_law
  b_law : Binds K fd_law ["script"] []
section
variable {P : Program} {w : World} {K : PySem.W.Frag} {mg : Str → Option Value} {base : Heap}
theorem init_SourceError (T : Txt K mg) : FnOk P w K mg base CX0 1 T.fi_SourceError T.fdi_SourceError ["self", "at"] (spInit K T.Er_SourceError "at") :=
  init_ok T.Fi_SourceError sc_SourceError___init__ T.er_SourceError.ox T.no_SourceError fun cdv A outer s H E => pss_one (ps_ost (pv 0) (pv 1))
theorem ok__law_source (T : Txt K mg)  : FnOk P w K mg base CX0 1 T.f__law_source T.fd__law_source ["script"] (spA K Com.F__law_source) :=
  fn_ok T.F__law_source sc__law_source Com.len__law_source fun cdv A outer s H E hr => ⟨_, Com.a__law_source K, (sa_one (sa_ret (ea_lst (aa_cons (ea_ct (ca_list false) (by rfl) T.m_list (by decide +kernel) (aa_cons (av 0) aa_nil)) (aa_cons ea_int (aa_cons ea_int (aa_cons ea_int aa_nil))))))), Com.rd__law_source⟩
theorem ok__law_pick (T : Txt K mg)  : FnOk P w K mg base CX0 1 T.f__law_pick T.fd__law_pick ["source", "many"] (spA K Com.F__law_pick) :=
  fn_ok T.F__law_pick sc__law_pick Com.len__law_pick fun cdv A outer s H E hr => ⟨_, Com.a__law_pick K, (sa_cut (sa_if (PWa.pt (wa_and (ta_cmp (oa_eq hr) (ea_ix (av 0) ea_int) ea_int) (wa_and1 (ta_cmp oa_lt (ea_ix (av 0) ea_int) (ea_cb ca_len (by rfl) T.m_len (by decide +kernel) (aa_cons (ea_ix (av 0) ea_int) aa_nil)))))) (sa_cons (sa_set (i := 2) sc__law_pick.nd rfl (Or.inl rfl) (ea_ix (ea_ix (av 0) ea_int) (ea_ix (av 0) ea_int))) (sa_cons (sa_asg (ea_op oa_add (ea_ix (av 0) ea_int) ea_int) (ga_sub (av 0) ea_int sta_list)) (sa_one (sa_if (ta_cmp oa_gt (av 2) (ea_op oa_pow ea_int ea_int)) (sa_one (sa_asg (ea_op oa_sub (av 2) (ea_op oa_pow ea_int ea_int)) (ga_sub (av 0) ea_int sta_list))) (sa_one (sa_asg (ea_op oa_mod (ea_ct ca_int (by rfl) T.m_int (by decide +kernel) (aa_cons (ea_op oa_add (ea_op oa_mul (ea_ix (av 0) ea_int) ea_int) (av 2)) aa_nil)) ea_int) (ga_sub (av 0) ea_int sta_list))))))) sa_nil) (sa_cons (sa_if (ta_cmp oa_gt (ea_ix (av 0) ea_int) ea_int) (sa_cons (sa_set (i := 3) sc__law_pick.nd rfl (Or.inl rfl) (ea_op oa_mod (ea_ct ca_int (by rfl) T.m_int (by decide +kernel) (aa_cons (ea_ix (av 0) ea_int) aa_nil)) (av 1))) (sa_cons (sa_asg (ea_op oa_div (ea_ix (av 0) ea_int) (av 1)) (ga_sub (av 0) ea_int sta_list)) (sa_one (sa_ret (av 3))))) sa_nil) (sa_cons (sa_asg (ea_op oa_mod (ea_ct ca_int (by rfl) T.m_int (by decide +kernel) (aa_cons (ea_op oa_add (ea_op oa_mul (ea_ix (av 0) ea_int) ea_int) ea_int) aa_nil)) ea_int) (ga_sub (av 0) ea_int sta_list)) (sa_cons (sa_set (i := 4) sc__law_pick.nd rfl (Or.inl rfl) (ea_op oa_mul (ea_op oa_mul (ea_op oa_add (ea_op oa_mod (ea_ct ca_int (by rfl) T.m_int (by decide +kernel) (aa_cons (ea_ix (av 0) ea_int) aa_nil)) ea_int) ea_int) (ea_op oa_add (ea_op oa_div (ea_ix (av 0) ea_int) ea_int) ea_int)) ea_int)) (sa_one (sa_ret (ea_op oa_mod (ea_op oa_div (ea_op oa_mod (ea_ct ca_int (by rfl) T.m_int (by decide +kernel) (aa_cons (av 4) aa_nil)) ea_int) ea_int) (av 1)))))))), Com.rd__law_pick⟩
theorem ok__law_piece (T : Txt K mg) (G__law_pick : FnOk P w K mg base CX0 1 T.f__law_pick T.fd__law_pick ["source", "many"] (spA K Com.F__law_pick)) : FnOk P w K mg base CX0 2 T.f__law_piece T.fd__law_piece ["source"] (spA K F__law_piece) :=
  fn_ok T.F__law_piece sc__law_piece len__law_piece fun cdv A outer s H E hr => ⟨_, a__law_piece K, (sa_cons (sa_set (i := 1) sc__law_piece.nd rfl (Or.inl rfl) ea_str) (sa_cons (sa_set (i := 2) sc__law_piece.nd rfl (Or.inr rfl) ea_str) (sa_cons (sa_set (i := 3) sc__law_piece.nd rfl (Or.inl rfl) (ea_call (G__law_pick.mono (k := 1) (by decide)) hr (by rfl) T.g__law_pick T.F__law_pick.kp T.b__law_pick (aa_cons (av 0) (aa_cons ea_int aa_nil)))) (sa_cons (sa_if (ta_cmp (oa_eq hr) (av 3) ea_int) (sa_one (sa_ret (ea_ix (av 1) (ea_call (G__law_pick.mono (k := 1) (by decide)) hr (by rfl) T.g__law_pick T.F__law_pick.kp T.b__law_pick (aa_cons (av 0) (aa_cons (ea_cb ca_len (by rfl) T.m_len (by decide +kernel) (aa_cons (av 1) aa_nil)) aa_nil)))))) sa_nil) (sa_cons (sa_if (ta_cmp oa_lt (av 3) ea_int) (sa_one (sa_ret (ea_ix (av 2) (ea_call (G__law_pick.mono (k := 1) (by decide)) hr (by rfl) T.g__law_pick T.F__law_pick.kp T.b__law_pick (aa_cons (av 0) (aa_cons ea_int aa_nil)))))) sa_nil) (sa_cons (sa_if (ta_cmp (oa_eq hr) (av 3) ea_int) (sa_one (sa_ret (ea_ix (av 2) (ea_call (G__law_pick.mono (k := 1) (by decide)) hr (by rfl) T.g__law_pick T.F__law_pick.kp T.b__law_pick (aa_cons (av 0) (aa_cons ea_int aa_nil)))))) sa_nil) (sa_cons (sa_if (ta_cmp (oa_eq hr) (av 3) ea_int) (sa_one (sa_ret (ea_bm ma_join PySem.F.plainAttrs_str PySem.F.slot_str_join PySem.F.type_str_join ea_str (aa_cons (ea_lc (own := [("k", 4)]) rfl sc__law_piece.nd (ia_rng1 (by rfl) T.m_range (aa_cons (ea_op oa_add ea_int (ea_call (G__law_pick.mono (k := 1) (by decide)) hr (by rfl) T.g__law_pick T.F__law_pick.kp T.b__law_pick (aa_cons (av 0) (aa_cons ea_int aa_nil)))) aa_nil)) (blkOk_by (own := [("k", 4)]) (N := N__law_piece) (sc := defScope s__law_piece) (by decide +kernel)) (fun _ _ _ _ _ => (pg_name (i := 4) sc__law_piece.nd rfl (Or.inl rfl))) (sgw_name (by decide)) (fun _ _ _ _ _ => tsa_nil) (fun _ _ _ _ _ => (ea_ix (av 2) (ea_call (G__law_pick.mono (k := 1) (by decide)) hr (by rfl) T.g__law_pick T.F__law_pick.kp T.b__law_pick (aa_cons (av 0) (aa_cons ea_int aa_nil)))))) aa_nil)))) sa_nil) (sa_cons (sa_if (ta_cmp oa_lt (av 3) ea_int) (sa_one (sa_ret (ea_ix (ea_lstD (aa_cons ea_str (aa_cons ea_str (aa_cons ea_str (aa_cons ea_str (aa_cons ea_str (aa_cons ea_str (aa_cons ea_str (aa_cons ea_str (aa_cons ea_str (aa_cons ea_str (aa_cons ea_str (aa_cons ea_str aa_nil))))))))))))) (ea_call (G__law_pick.mono (k := 1) (by decide)) hr (by rfl) T.g__law_pick T.F__law_pick.kp T.b__law_pick (aa_cons (av 0) (aa_cons ea_int aa_nil)))))) sa_nil) (sa_cons (sa_if (ta_cmp (oa_eq hr) (av 3) ea_int) (sa_one (sa_ret (ea_ix (ea_lstD (aa_cons ea_str (aa_cons ea_str (aa_cons ea_str (aa_cons ea_str (aa_cons ea_str (aa_cons ea_str aa_nil))))))) (ea_call (G__law_pick.mono (k := 1) (by decide)) hr (by rfl) T.g__law_pick T.F__law_pick.kp T.b__law_pick (aa_cons (av 0) (aa_cons ea_int aa_nil)))))) sa_nil) (sa_one (sa_ret (ea_ix (ea_lstD (aa_cons ea_str (aa_cons ea_str (aa_cons ea_str aa_nil)))) (ea_call (G__law_pick.mono (k := 1) (by decide)) hr (by rfl) T.g__law_pick T.F__law_pick.kp T.b__law_pick (aa_cons (av 0) (aa_cons ea_int aa_nil))))))))))))))), rd__law_piece⟩
theorem ok__law_same_n (T : Txt K mg)  : ∀ n : Nat, FnOk P w K mg base CX0 (n + 1) T.f__law_same T.fd__law_same ["actual", "due"] (spA K (Com.F_same n))
  | 0 => fn_ok T.F__law_same sc__law_same (Com.len__law_same 0) fun cdv A outer s H E hr => ⟨_, aNever, sa_nevers, fun as κ R E' h => (Com.rd0__law_same h).elim⟩
  | n + 1 => fn_ok T.F__law_same sc__law_same (Com.len__law_same (n + 1)) fun cdv A outer s H E hr => by
    have G_self := ok__law_same_n T  n
    exact ⟨_, Com.a__law_same K (Com.F_same n), (sa_cons (sa_if (ta_cmp oa_is (av 1) ea_non) (sa_one (sa_ret (ea_cmp oa_is (av 0) ea_non))) sa_nil) (sa_cons (sa_if (ta_tru (ea_cb ca_isi (by rfl) T.m_isinstance (by decide +kernel) (aa_cons (av 1) (aa_cons (ea_ty (by rfl) T.m_bool (by decide +kernel)) aa_nil)))) (sa_one (sa_ret (ea_and (ea_cb ca_isi (by rfl) T.m_isinstance (by decide +kernel) (aa_cons (av 0) (aa_cons (ea_ty (by rfl) T.m_bool (by decide +kernel)) aa_nil))) (ea_one (ea_cmp (oa_eq hr) (av 0) (av 1)))))) sa_nil) (sa_cons (sa_if (ta_tru (ea_cb ca_isi (by rfl) T.m_isinstance (by decide +kernel) (aa_cons (av 1) (aa_cons (ea_ty (by rfl) T.m_int (by decide +kernel)) aa_nil)))) (sa_one (sa_ret (ea_and (ea_cb ca_isi (by rfl) T.m_isinstance (by decide +kernel) (aa_cons (av 0) (aa_cons (ea_ty (by rfl) T.m_int (by decide +kernel)) aa_nil))) (ea_and (ea_not (ea_cb ca_isi (by rfl) T.m_isinstance (by decide +kernel) (aa_cons (av 0) (aa_cons (ea_ty (by rfl) T.m_bool (by decide +kernel)) aa_nil)))) (ea_one (ea_cmp (oa_eq hr) (av 0) (av 1))))))) sa_nil) (sa_cons (sa_if (ta_tru (ea_cb ca_isi (by rfl) T.m_isinstance (by decide +kernel) (aa_cons (av 1) (aa_cons (ea_ty (by rfl) T.m_str (by decide +kernel)) aa_nil)))) (sa_one (sa_ret (ea_and (ea_cb ca_isi (by rfl) T.m_isinstance (by decide +kernel) (aa_cons (av 0) (aa_cons (ea_ty (by rfl) T.m_str (by decide +kernel)) aa_nil))) (ea_one (ea_cmp (oa_eq hr) (av 0) (av 1)))))) sa_nil) (sa_cons (sa_if (PWa.pt (wa_or (ta_cmp (oa_ne hr) (ea_cb ca_isi (by rfl) T.m_isinstance (by decide +kernel) (aa_cons (av 1) (aa_cons (ea_ty (by rfl) T.m_list (by decide +kernel)) aa_nil))) (ea_cb ca_isi (by rfl) T.m_isinstance (by decide +kernel) (aa_cons (av 0) (aa_cons (ea_ty (by rfl) T.m_list (by decide +kernel)) aa_nil)))) (wa_or1 (ta_cmp (oa_ne hr) (ea_cb ca_isi (by rfl) T.m_isinstance (by decide +kernel) (aa_cons (av 1) (aa_cons (ea_ty (by rfl) T.m_tuple (by decide +kernel)) aa_nil))) (ea_cb ca_isi (by rfl) T.m_isinstance (by decide +kernel) (aa_cons (av 0) (aa_cons (ea_ty (by rfl) T.m_tuple (by decide +kernel)) aa_nil))))))) (sa_one (sa_ret ea_bl)) sa_nil) (sa_cons (sa_if (ta_cmp (oa_ne hr) (ea_cb ca_len (by rfl) T.m_len (by decide +kernel) (aa_cons (av 0) aa_nil)) (ea_cb ca_len (by rfl) T.m_len (by decide +kernel) (aa_cons (av 1) aa_nil))) (sa_one (sa_ret ea_bl)) sa_nil) (sa_cons (sa_for PassesOwn.never rfl (ia_rng1 (by rfl) T.m_range (aa_cons (ea_cb ca_len (by rfl) T.m_len (by decide +kernel) (aa_cons (av 1) aa_nil)) aa_nil)) (ga_name (i := 2) sc__law_same.nd rfl (Or.inl rfl)) (sa_one (sa_if (ta_not (ta_tru (ea_call G_self hr (by rfl) T.g__law_same T.F__law_same.kp T.b__law_same (aa_cons (ea_ix (av 0) (av 2)) (aa_cons (ea_ix (av 1) (av 2)) aa_nil))))) (sa_one (sa_ret ea_bl)) sa_nil))) (sa_one (sa_ret ea_bl))))))))), Com.rd__law_same n⟩
theorem ok__law_same (T : Txt K mg)  : FnOk P w K mg base CX0 6 T.f__law_same T.fd__law_same ["actual", "due"] (spA K Com.F__law_same) :=
  (ok__law_same_n T  5).imp fun vs H Q E h => sp_imp Com.imp__law_same h
theorem ok__belongs_to_run (T : Txt K mg)  : FnOk P w K mg base CX0 1 T.f__belongs_to_run T.fd__belongs_to_run ["sign"] (spA K Com.F__belongs_to_run) :=
  fn_ok T.F__belongs_to_run sc__belongs_to_run Com.len__belongs_to_run fun cdv A outer s H E hr => ⟨_, Com.a__belongs_to_run K, (sa_one (sa_ret (ea_or (ea_cmp oa_in (av 0) (ea_glob (by rfl) T.g_LETTERS T.r_LETTERS T.d_LETTERS)) (ea_one (ea_cmp oa_in (av 0) (ea_glob (by rfl) T.g_DIGITS T.r_DIGITS T.d_DIGITS)))))), Com.rd__belongs_to_run⟩
theorem ok__run_at (T : Txt K mg) (G__belongs_to_run : FnOk P w K mg base CX0 1 T.f__belongs_to_run T.fd__belongs_to_run ["sign"] (spA K Com.F__belongs_to_run)) : FnOk P w K mg base (L2.CX P w) 3 T.f__run_at T.fd__run_at ["text", "at"] (spA K Err.F__run_at) :=
  fn_okR T.F__run_at sc__run_at Err.len__run_at (fb := Err.a__run_at K) (fun cdv A outer s H E hr W tk po n Z up Ex hx => ⟨_, (sa_cons (sa_set (i := 2) sc__run_at.nd rfl (Or.inl rfl) (av 1)) (sa_cut (sa_while po (PWa.pt (wa_and (ta_cmp oa_lt (av 2) (ea_cb ca_len (by rfl) T.m_len (by decide +kernel) (aa_cons (av 0) aa_nil))) (wa_and1 (ta_tru (ea_call (G__belongs_to_run.mono (k := 2) (by decide)) hr (by rfl) T.g__belongs_to_run T.F__belongs_to_run.kp T.b__belongs_to_run (aa_cons (ea_ix (av 0) (av 2)) aa_nil)))))) (sa_one (sa_inc (i := 2) sc__run_at.nd rfl (Or.inl rfl) ea_int))) (sa_cons (sa_set (i := 3) sc__run_at.nd rfl (Or.inl rfl) (ea_slice (av 0) (oa_some (av 1)) (oa_some (av 2)))) (sa_cons (sa_if (PWa.pt (wa_or (ta_cmp oa_in (ea_ix (av 3) ea_int) (ea_glob (by rfl) T.g_DIGITS T.r_DIGITS T.d_DIGITS)) (wa_or1 (ta_cmp oa_gt (ea_cb ca_len (by rfl) T.m_len (by decide +kernel) (aa_cons (av 3) aa_nil)) (ea_glob (by rfl) T.g_LONGEST_NAME T.r_LONGEST_NAME T.d_LONGEST_NAME))))) (sa_one (sa_raise T.er_SourceError T.ii_SourceError T.ti_SourceError (init_SourceError T) (hr.mono (by decide)) T.bi_SourceError rfl tk hx (by rfl) T.gc_SourceError (aa_cons (av 1) aa_nil))) sa_nil) (sa_cons (sa_if (ta_cmp oa_in (av 3) (ea_glob (by rfl) T.g_WORDS T.r_WORDS T.d_WORDS)) (sa_one (sa_ret (ea_tup (aa_cons ea_str (aa_cons (av 3) (aa_cons (av 1) aa_nil)))))) sa_nil) (sa_one (sa_ret (ea_tup (aa_cons ea_str (aa_cons (av 3) (aa_cons (av 1) aa_nil)))))))))))⟩) Err.rd__run_at
theorem ok__token_at (T : Txt K mg) (G__belongs_to_run : FnOk P w K mg base CX0 1 T.f__belongs_to_run T.fd__belongs_to_run ["sign"] (spA K Com.F__belongs_to_run)) (G__run_at : FnOk P w K mg base (L2.CX P w) 3 T.f__run_at T.fd__run_at ["text", "at"] (spA K Err.F__run_at)) : FnOk P w K mg base (L2.CX P w) 4 T.f__token_at T.fd__token_at ["text", "at"] (spA K Err.F__token_at) :=
  fn_okR T.F__token_at sc__token_at Err.len__token_at (fb := Err.a__token_at K) (fun cdv A outer s H E hr W tk po n Z up Ex hx => ⟨_, (sa_cons (sa_if (ta_tru (ea_call (G__belongs_to_run.mono (k := 3) (by decide)) hr (by rfl) T.g__belongs_to_run T.F__belongs_to_run.kp T.b__belongs_to_run (aa_cons (ea_ix (av 0) (av 1)) aa_nil))) (sa_one (sa_ret (ea_callR (G__run_at.mono (k := 3) (by decide)) hr tk hx (by rfl) T.g__run_at T.F__run_at.kp T.b__run_at (aa_cons (av 0) (aa_cons (av 1) aa_nil))))) sa_nil) (sa_cons (sa_if (ta_cmp oa_in (ea_ix (av 0) (av 1)) (ea_glob (by rfl) T.g_SHORT_MARKS T.r_SHORT_MARKS T.d_SHORT_MARKS)) (sa_one (sa_ret (ea_tup (aa_cons ea_str (aa_cons (ea_ix (av 0) (av 1)) (aa_cons (av 1) aa_nil)))))) sa_nil) (sa_cons (sa_if (ta_tru (ea_bm ma_starts3 PySem.F.plainAttrs_str PySem.F.slot_str_startswith PySem.F.type_str_startswith (av 0) (aa_cons (ea_glob (by rfl) T.g_ARROW T.r_ARROW T.d_ARROW) (aa_cons (av 1) aa_nil)))) (sa_one (sa_ret (ea_tup (aa_cons ea_str (aa_cons (ea_glob (by rfl) T.g_ARROW T.r_ARROW T.d_ARROW) (aa_cons (av 1) aa_nil)))))) sa_nil) (sa_one (sa_raise T.er_SourceError T.ii_SourceError T.ti_SourceError (init_SourceError T) (hr.mono (by decide)) T.bi_SourceError rfl tk hx (by rfl) T.gc_SourceError (aa_cons (av 1) aa_nil))))))⟩) Err.rd__token_at
theorem ok_tokenize (T : Txt K mg) (G__token_at : FnOk P w K mg base (L2.CX P w) 4 T.f__token_at T.fd__token_at ["text", "at"] (spA K Err.F__token_at)) : FnOk P w K mg base (L2.CX P w) 5 T.f_tokenize T.fd_tokenize ["text"] (spA K Err.F_tokenize) :=
  fn_okR T.F_tokenize sc_tokenize Err.len_tokenize (fb := Err.a_tokenize K) (fun cdv A outer s H E hr W tk po n Z up Ex hx => ⟨_, (sa_cons (sa_set (i := 1) sc_tokenize.nd rfl (Or.inl rfl) (ea_lst aa_nil)) (sa_cons (sa_set (i := 2) sc_tokenize.nd rfl (Or.inl rfl) ea_int) (sa_cut (sa_while po (ta_cmp oa_lt (av 2) (ea_cb ca_len (by rfl) T.m_len (by decide +kernel) (aa_cons (av 0) aa_nil))) (sa_one (sa_if (ta_cmp oa_in (ea_ix (av 0) (av 2)) ea_str) (sa_one (sa_inc (i := 2) sc_tokenize.nd rfl (Or.inl rfl) ea_int)) (sa_cons (sa_set (i := 3) sc_tokenize.nd rfl (Or.inl rfl) (ea_callR (G__token_at.mono (k := 4) (by decide)) hr tk hx (by rfl) T.g__token_at T.F__token_at.kp T.b__token_at (aa_cons (av 0) (aa_cons (av 2) aa_nil)))) (sa_cons (sa_drop (ea_bm ma_append PySem.F.plainAttrs_list PySem.F.slot_list_append PySem.F.type_list_append (av 1) (aa_cons (av 3) aa_nil))) (sa_one (sa_inc (i := 2) sc_tokenize.nd rfl (Or.inl rfl) (ea_cb ca_len (by rfl) T.m_len (by decide +kernel) (aa_cons (ea_ix (av 3) ea_int) aa_nil))))))))) (sa_one (sa_ret (av 1))))))⟩) Err.rd_tokenize
theorem ok__law_class (T : Txt K mg)  : FnP P w K mg base 1 T.f__law_class T.fd__law_class ["e"] ["SourceError"] :=
  fnp_ok T.F__law_class sc__law_class rfl (f := a__law_class K) (fun cdv A outer s H p xa cls d hr hz hd n Z up hrx => ⟨_, (sa_cons (sa_set (i := 1) sc__law_class.nd rfl (Or.inl rfl) (ea_op (oa_cat false) (ea_op oa_mulL (ea_lstD (aa_cons ea_str aa_nil)) (ea_ct ca_int (by rfl) T.m_int (by decide +kernel) (aa_cons (ea_isX ⟨p.2, List.mem_singleton.mpr rfl, hz, hd⟩ hrx T.kd_NameTwice (by intro _ h; exact h) (av 0) (pe_cls (by rfl) T.gc_NameTwice) (by rfl) T.m_isinstance (by decide +kernel)) aa_nil))) (ea_op oa_mulL (ea_lstD (aa_cons ea_str aa_nil)) (ea_ct ca_int (by rfl) T.m_int (by decide +kernel) (aa_cons (ea_isX ⟨p.2, List.mem_singleton.mpr rfl, hz, hd⟩ hrx T.kd_NotPossible (by intro _ h; exact h) (av 0) (pe_cls (by rfl) T.gc_NotPossible) (by rfl) T.m_isinstance (by decide +kernel)) aa_nil))))) (sa_cons (sa_set (i := 1) sc__law_class.nd rfl (Or.inl rfl) (ea_op (oa_cat false) (ea_op (oa_cat false) (av 1) (ea_op oa_mulL (ea_lstD (aa_cons ea_str aa_nil)) (ea_ct ca_int (by rfl) T.m_int (by decide +kernel) (aa_cons (ea_isX ⟨p.2, List.mem_singleton.mpr rfl, hz, hd⟩ hrx T.kd_PaperError (by intro _ h; exact h) (av 0) (pe_cls (by rfl) T.gc_PaperError) (by rfl) T.m_isinstance (by decide +kernel)) aa_nil)))) (ea_op oa_mulL (ea_lstD (aa_cons ea_str aa_nil)) (ea_ct ca_int (by rfl) T.m_int (by decide +kernel) (aa_cons (ea_isX ⟨p.2, List.mem_singleton.mpr rfl, hz, hd⟩ hrx T.kd_SelfLetter (by intro _ h; exact h) (av 0) (pe_cls (by rfl) T.gc_SelfLetter) (by rfl) T.m_isinstance (by decide +kernel)) aa_nil))))) (sa_cons (sa_set (i := 1) sc__law_class.nd rfl (Or.inl rfl) (ea_op (oa_cat false) (ea_op (oa_cat false) (av 1) (ea_op oa_mulL (ea_lstD (aa_cons ea_str aa_nil)) (ea_ct ca_int (by rfl) T.m_int (by decide +kernel) (aa_cons (ea_isX ⟨p.2, List.mem_singleton.mpr rfl, hz, hd⟩ hrx T.kd_SourceError (by intro _ h; exact h) (av 0) (pe_cls (by rfl) T.gc_SourceError) (by rfl) T.m_isinstance (by decide +kernel)) aa_nil)))) (ea_op oa_mulL (ea_lstD (aa_cons ea_str aa_nil)) (ea_ct ca_int (by rfl) T.m_int (by decide +kernel) (aa_cons (ea_isX ⟨p.2, List.mem_singleton.mpr rfl, hz, hd⟩ hrx T.kd_TableError (by intro _ h; exact h) (av 0) (pe_cls (by rfl) T.gc_TableError) (by rfl) T.m_isinstance (by decide +kernel)) aa_nil))))) (sa_cons (sa_set (i := 1) sc__law_class.nd rfl (Or.inl rfl) (ea_op (oa_cat false) (ea_op (oa_cat false) (av 1) (ea_op oa_mulL (ea_lstD (aa_cons ea_str aa_nil)) (ea_ct ca_int (by rfl) T.m_int (by decide +kernel) (aa_cons (ea_isX ⟨p.2, List.mem_singleton.mpr rfl, hz, hd⟩ hrx T.kd_TooLarge (by intro _ h; exact h) (av 0) (pe_cls (by rfl) T.gc_TooLarge) (by rfl) T.m_isinstance (by decide +kernel)) aa_nil)))) (ea_op oa_mulL (ea_lstD (aa_cons ea_str aa_nil)) (ea_ct ca_int (by rfl) T.m_int (by decide +kernel) (aa_cons (ea_isX ⟨p.2, List.mem_singleton.mpr rfl, hz, hd⟩ hrx T.kd_UnknownName (by intro _ h; exact h) (av 0) (pe_cls (by rfl) T.gc_UnknownName) (by rfl) T.m_isinstance (by decide +kernel)) aa_nil))))) (sa_cons (sa_set (i := 1) sc__law_class.nd rfl (Or.inl rfl) (ea_op (oa_cat false) (av 1) (ea_op oa_mulL (ea_lstD (aa_cons ea_str aa_nil)) (ea_ct ca_int (by rfl) T.m_int (by decide +kernel) (aa_cons (ea_isX ⟨p.2, List.mem_singleton.mpr rfl, hz, hd⟩ hrx T.kd_WrongCount (by intro _ h; exact h) (av 0) (pe_cls (by rfl) T.gc_WrongCount) (by rfl) T.m_isinstance (by decide +kernel)) aa_nil))))) (sa_cons (sa_if (PWa.pt (wa_and (ta_cmp oa_eqF (ea_cb ca_len (by rfl) T.m_len (by decide +kernel) (aa_cons (av 1) aa_nil)) ea_int) (wa_and1 (ta_tru (ea_isX ⟨p.2, List.mem_singleton.mpr rfl, hz, hd⟩ hrx T.kd_ValueError (by intro _ h; exact h) (av 0) (pe_bltn (v := .ty "ValueError") (by rfl) T.m_ValueError (by decide +kernel) rfl) (by rfl) T.m_isinstance (by decide +kernel)))))) (sa_one (sa_ret (ea_ix (av 1) ea_int))) sa_nil) (sa_one (sa_ret ea_str))))))))⟩) rd__law_class
theorem ok__law_told (T : Txt K mg) (G_tokenize : FnOk P w K mg base (L2.CX P w) 5 T.f_tokenize T.fd_tokenize ["text"] (spA K Err.F_tokenize)) (G__law_class : FnP P w K mg base 1 T.f__law_class T.fd__law_class ["e"] ["SourceError"]) : FnOk P w K mg base CX0 6 T.f__law_told T.fd__law_told ["text"] (spA K F__law_told) :=
  fn_ok T.F__law_told sc__law_told len__law_told fun cdv A outer s H E hr => ⟨_, a__law_told K, (sa_one (sa_tryAs (i := 1) (Wout := fun _ _ _ _ => False) (exm := exmOf ["SourceError"] "PactError") rfl rfl sc__law_told.nd rfl rfl ⟨rfl, by decide, Or.inl T.gc_PactError⟩ takes_none hx_none T.em_PactError.m (fun W pn xe n Z up Ex tk po hx => (sa_one (sa_ret (ea_callR (G_tokenize.mono (k := 5) (by decide)) hr tk hx (by rfl) T.g_tokenize T.F_tokenize.kp T.b_tokenize (aa_cons (av 0) aa_nil))))) (fun ad oe cls d pn xa n Z up hz hd hrx => (sa_cons (sa_if (ta_cmp oa_eqF (ea_callP hz hd hrx G__law_class (hr.mono (by decide)) (by rfl) T.g__law_class T.F__law_class.kp T.b__law_class (av 1)) ea_str) (sa_one (sa_ret (ea_xf hz hd hrx T.fld_at (av 1)))) sa_nil) (sa_one (sa_ret (ea_tup (aa_cons ea_str (aa_cons (ea_callP hz hd hrx G__law_class (hr.mono (by decide)) (by rfl) T.g__law_class T.F__law_class.kp T.b__law_class (av 1)) aa_nil))))))))), rd__law_told⟩
theorem ok__law_run (T : Txt K mg)  : FnOk P w K mg base CX0 1 T.f__law_run T.fd__law_run ["text", "at"] (spA K F__law_run) :=
  fn_ok T.F__law_run sc__law_run len__law_run fun cdv A outer s H E hr => ⟨_, a__law_run K, (sa_cons (sa_set (i := 2) sc__law_run.nd rfl (Or.inl rfl) ea_str) (sa_cons (sa_for PassesOwn.never rfl (ia_rng2 (by rfl) T.m_range (aa_cons (av 1) (aa_cons (ea_cb ca_len (by rfl) T.m_len (by decide +kernel) (aa_cons (av 0) aa_nil)) aa_nil))) (ga_name (i := 3) sc__law_run.nd rfl (Or.inl rfl)) (sa_cons (sa_if (ta_cmp oa_notin (ea_ix (av 0) (av 3)) ea_str) (sa_one (sa_ret (av 2))) sa_nil) (sa_one (sa_set (i := 2) sc__law_run.nd rfl (Or.inl rfl) (ea_op oa_add (av 2) (ea_ix (av 0) (av 3))))))) (sa_one (sa_ret (av 2))))), rd__law_run⟩
theorem ok__law_due (T : Txt K mg) (G__law_run : FnOk P w K mg base CX0 1 T.f__law_run T.fd__law_run ["text", "at"] (spA K F__law_run)) : FnOk P w K mg base CX0 2 T.f__law_due T.fd__law_due ["text"] (spA K F__law_due) :=
  fn_ok T.F__law_due sc__law_due len__law_due fun cdv A outer s H E hr => ⟨_, a__law_due K, (sa_cons (sa_set (i := 1) sc__law_due.nd rfl (Or.inl rfl) (ea_lst aa_nil)) (sa_cons (sa_set (i := 2) sc__law_due.nd rfl (Or.inl rfl) ea_int) (sa_cons (sa_for PassesOwn.never rfl (ia_rng1 (by rfl) T.m_range (aa_cons (ea_cb ca_len (by rfl) T.m_len (by decide +kernel) (aa_cons (av 0) aa_nil)) aa_nil)) (ga_name (i := 3) sc__law_due.nd rfl (Or.inl rfl)) (sa_cons (sa_set (i := 4) sc__law_due.nd rfl (Or.inl rfl) (ea_call (G__law_run.mono (k := 1) (by decide)) hr (by rfl) T.g__law_run T.F__law_run.kp T.b__law_run (aa_cons (av 0) (aa_cons (av 3) aa_nil)))) (sa_one (sa_if (ta_cmp oa_gt (av 2) ea_int) (sa_one (sa_set (i := 2) sc__law_due.nd rfl (Or.inl rfl) (ea_op oa_sub (av 2) ea_int))) (sa_one (sa_if (ta_cmp (oa_ne hr) (av 4) ea_str) (sa_cons (sa_if (PWa.pt (wa_or (ta_cmp oa_gt (ea_cb ca_len (by rfl) T.m_len (by decide +kernel) (aa_cons (av 4) aa_nil)) ea_int) (wa_or1 (ta_cmp oa_in (ea_ix (av 4) ea_int) ea_str)))) (sa_one (sa_ret (av 3))) sa_nil) (sa_cons (sa_set (i := 5) sc__law_due.nd rfl (Or.inl rfl) (ea_ix (ea_lstD (aa_cons ea_str (aa_cons ea_str aa_nil))) (ea_ct ca_int (by rfl) T.m_int (by decide +kernel) (aa_cons (ea_cmp oa_in (av 4) (ea_tup (aa_cons ea_str (aa_cons ea_str (aa_cons ea_str (aa_cons ea_str (aa_cons ea_str (aa_cons ea_str aa_nil)))))))) aa_nil)))) (sa_cons (sa_drop (ea_bm ma_append PySem.F.plainAttrs_list PySem.F.slot_list_append PySem.F.type_list_append (av 1) (aa_cons (ea_tup (aa_cons (av 5) (aa_cons (av 4) (aa_cons (av 3) aa_nil)))) aa_nil))) (sa_one (sa_set (i := 2) sc__law_due.nd rfl (Or.inl rfl) (ea_op oa_sub (ea_cb ca_len (by rfl) T.m_len (by decide +kernel) (aa_cons (av 4) aa_nil)) ea_int)))))) (sa_one (sa_if (PWa.pt (wa_and (ta_cmp (oa_eq hr) (ea_ix (av 0) (av 3)) ea_str) (wa_and1 (ta_cmp (oa_eq hr) (ea_slice (av 0) (oa_some (ea_op oa_add (av 3) ea_int)) (oa_some (ea_op oa_add (av 3) ea_int))) ea_str)))) (sa_cons (sa_drop (ea_bm ma_append PySem.F.plainAttrs_list PySem.F.slot_list_append PySem.F.type_list_append (av 1) (aa_cons (ea_tup (aa_cons ea_str (aa_cons ea_str (aa_cons (av 3) aa_nil)))) aa_nil))) (sa_one (sa_set (i := 2) sc__law_due.nd rfl (Or.inl rfl) ea_int))) (sa_one (sa_if (ta_cmp oa_in (ea_ix (av 0) (av 3)) ea_str) (sa_one (sa_drop (ea_bm ma_append PySem.F.plainAttrs_list PySem.F.slot_list_append PySem.F.type_list_append (av 1) (aa_cons (ea_tup (aa_cons ea_str (aa_cons (ea_ix (av 0) (av 3)) (aa_cons (av 3) aa_nil)))) aa_nil)))) (sa_one (sa_if (ta_cmp oa_notin (ea_ix (av 0) (av 3)) ea_str) (sa_one (sa_ret (av 3))) sa_nil)))))))))))) (sa_one (sa_ret (av 1)))))), rd__law_due⟩
theorem ok_law (T : Txt K mg) (G__law_source : FnOk P w K mg base CX0 1 T.f__law_source T.fd__law_source ["script"] (spA K Com.F__law_source)) (G__law_piece : FnOk P w K mg base CX0 2 T.f__law_piece T.fd__law_piece ["source"] (spA K F__law_piece)) (G__law_pick : FnOk P w K mg base CX0 1 T.f__law_pick T.fd__law_pick ["source", "many"] (spA K Com.F__law_pick)) (G__law_same : FnOk P w K mg base CX0 6 T.f__law_same T.fd__law_same ["actual", "due"] (spA K Com.F__law_same)) (G__law_told : FnOk P w K mg base CX0 6 T.f__law_told T.fd__law_told ["text"] (spA K F__law_told)) (G__law_due : FnOk P w K mg base CX0 2 T.f__law_due T.fd__law_due ["text"] (spA K F__law_due)) : FnOk P w K mg base CX0 7 T.f_law T.fd_law ["script"] (spA K F_law) :=
  fn_ok T.F_law sc_law Ab.len_law fun cdv A outer s H E hr => ⟨_, a_law K, (sa_cons (sa_set (i := 1) sc_law.nd rfl (Or.inr rfl) (ea_call (G__law_source.mono (k := 6) (by decide)) hr (by rfl) T.g__law_source T.F__law_source.kp T.b__law_source (aa_cons (av 0) aa_nil))) (sa_cons (sa_for PassesOwn.never rfl (ia_rng1 (by rfl) T.m_range (aa_cons (ea_op oa_add ea_int (ea_cb (ca_min rfl) (by rfl) T.m_min (by decide +kernel) (aa_cons ea_int (aa_cons (ea_cb ca_len (by rfl) T.m_len (by decide +kernel) (aa_cons (av 0) aa_nil)) aa_nil)))) aa_nil)) (ga_name (i := 2) sc_law.nd rfl (Or.inl rfl)) (sa_cons (sa_set (i := 3) sc_law.nd rfl (Or.inl rfl) (ea_bm ma_join PySem.F.plainAttrs_str PySem.F.slot_str_join PySem.F.type_str_join ea_str (aa_cons (ea_lc (own := [("j", 4)]) rfl sc_law.nd (ia_rng1 (by rfl) T.m_range (aa_cons (ea_call (G__law_pick.mono (k := 6) (by decide)) hr (by rfl) T.g__law_pick T.F__law_pick.kp T.b__law_pick (aa_cons (av 1) (aa_cons ea_int aa_nil))) aa_nil)) (blkOk_by (own := [("j", 4)]) (N := N_law) (sc := defScope s_law) (by decide +kernel)) (fun _ _ _ _ _ => (pg_name (i := 4) sc_law.nd rfl (Or.inl rfl))) (sgw_name (by decide)) (fun _ _ _ _ _ => tsa_nil) (fun _ _ _ _ _ => (ea_call (G__law_piece.mono (k := 6) (by decide)) hr (by rfl) T.g__law_piece T.F__law_piece.kp T.b__law_piece (aa_cons (av 1) aa_nil)))) aa_nil))) (sa_one (sa_if (ta_not (ta_tru (ea_call (G__law_same.mono (k := 6) (by decide)) hr (by rfl) T.g__law_same T.F__law_same.kp T.b__law_same (aa_cons (ea_call (G__law_told.mono (k := 6) (by decide)) hr (by rfl) T.g__law_told T.F__law_told.kp T.b__law_told (aa_cons (av 3) aa_nil)) (aa_cons (ea_call (G__law_due.mono (k := 6) (by decide)) hr (by rfl) T.g__law_due T.F__law_due.kp T.b__law_due (aa_cons (av 3) aa_nil)) aa_nil))))) (sa_one (sa_ret ea_bl)) sa_nil)))) (sa_one (sa_ret ea_bl)))), rd_law⟩
theorem all_ok (T : Txt K mg) : FnOk P w K mg base CX0 7 T.f_law T.fd_law ["script"] (spA K F_law) := by
  have G__law_source := ok__law_source (P := P) (w := w) (base := base) T 
  have G__law_pick := ok__law_pick (P := P) (w := w) (base := base) T 
  have G__law_piece := ok__law_piece (P := P) (w := w) (base := base) T G__law_pick
  have G__law_same := ok__law_same (P := P) (w := w) (base := base) T 
  have G__belongs_to_run := ok__belongs_to_run (P := P) (w := w) (base := base) T 
  have G__run_at := ok__run_at (P := P) (w := w) (base := base) T G__belongs_to_run
  have G__token_at := ok__token_at (P := P) (w := w) (base := base) T G__belongs_to_run G__run_at
  have G_tokenize := ok_tokenize (P := P) (w := w) (base := base) T G__token_at
  have G__law_class := ok__law_class (P := P) (w := w) (base := base) T 
  have G__law_told := ok__law_told (P := P) (w := w) (base := base) T G_tokenize G__law_class
  have G__law_run := ok__law_run (P := P) (w := w) (base := base) T 
  have G__law_due := ok__law_due (P := P) (w := w) (base := base) T G__law_run
  have G_law := ok_law (P := P) (w := w) (base := base) T G__law_source G__law_piece G__law_pick G__law_same G__law_told G__law_due
  exact G_law
theorem all_mk {K : PySem.W.Frag} {h : Heap} {mg : Str → Option Value} {fa : Addr} (X : K.In h) (Gn : h.Ns mainGlobals mg) (hfa : mg "law" = some (.ref fa))
    {f0 : Addr} {od0 an0 : Option Addr} {sl0 : Array (Option Value)} {oc0 kV0 dc0 pm0 cd0 ct0 : Value}
    {f1 : Addr} {od1 an1 : Option Addr} {sl1 : Array (Option Value)} {oc1 kV1 dc1 pm1 cd1 ct1 : Value}
    {f2 : Addr} {od2 an2 : Option Addr} {sl2 : Array (Option Value)} {oc2 kV2 dc2 pm2 cd2 ct2 : Value}
    {f3 : Addr} {od3 an3 : Option Addr} {sl3 : Array (Option Value)} {oc3 kV3 dc3 pm3 cd3 ct3 : Value}
    {f4 : Addr} {od4 an4 : Option Addr} {sl4 : Array (Option Value)} {oc4 kV4 dc4 pm4 cd4 ct4 : Value}
    {f5 : Addr} {od5 an5 : Option Addr} {sl5 : Array (Option Value)} {oc5 kV5 dc5 pm5 cd5 ct5 : Value}
    {f6 : Addr} {od6 an6 : Option Addr} {sl6 : Array (Option Value)} {oc6 kV6 dc6 pm6 cd6 ct6 : Value}
    {f7 : Addr} {od7 an7 : Option Addr} {sl7 : Array (Option Value)} {oc7 kV7 dc7 pm7 cd7 ct7 : Value}
    {f8 : Addr} {od8 an8 : Option Addr} {sl8 : Array (Option Value)} {oc8 kV8 dc8 pm8 cd8 ct8 : Value}
    {f9 : Addr} {od9 an9 : Option Addr} {sl9 : Array (Option Value)} {oc9 kV9 dc9 pm9 cd9 ct9 : Value}
    {f10 : Addr} {od10 an10 : Option Addr} {sl10 : Array (Option Value)} {oc10 kV10 dc10 pm10 cd10 ct10 : Value}
    {f11 : Addr} {od11 an11 : Option Addr} {sl11 : Array (Option Value)} {oc11 kV11 dc11 pm11 cd11 ct11 : Value}
    {f12 : Addr} {od12 an12 : Option Addr} {sl12 : Array (Option Value)} {oc12 kV12 dc12 pm12 cd12 ct12 : Value}
    {Er_NameTwice : Addr}
    {Er_NotPossible : Addr}
    {Er_PactError : Addr}
    {Er_PaperError : Addr}
    {Er_SelfLetter : Addr}
    {Er_SourceError : Addr}
    {n0_SourceError qn_SourceError : Str} {N_SourceError : Addr} {bs_SourceError bm_SourceError : List Value} {sn_SourceError : List Str} {sb_SourceError : List Value} {ab_SourceError : Bool} {col_SourceError : Option Bool} {dd_SourceError : Option Addr} {k0_SourceError k1_SourceError k2_SourceError k3_SourceError k5_SourceError : Option Value}
    {Er_TableError : Addr}
    {Er_TooLarge : Addr}
    {Er_UnknownName : Addr}
    {Er_WrongCount : Addr}
    {fi_SourceError : Addr} {odi_SourceError ani_SourceError : Option Addr} {sli_SourceError : Array (Option Value)} {oci_SourceError kVi_SourceError dci_SourceError pmi_SourceError cdi_SourceError cti_SourceError : Value}
    {tk0 : Tok}
    {tk1 : Tok}
    {tk2 : Tok}
    {tk3 : Tok}
    {tk4 : Tok}
    {fq5 : Addr} {oq5 : Obj} {nq5 : Nat} {tq5_0 : Tok} {tq5_1 : Tok} {tq5_2 : Tok} {tq5_3 : Tok} {tq5_4 : Tok} {tq5_5 : Tok}
    (a0 : PySem.W.nsIn K mainGlobals "_law_source" = some (some (.ref f0)))
    (l0 : K.lookup f0 = some ⟨oc0, od0, .func (PySem.W.fnOf "_law_source" "_law_source" (defArgs s__law_source) (defBody s__law_source) (defScope s__law_source) .none kV0 dc0 pm0 an0 cd0 ct0), sl0⟩) (c0 : PySem.W.codeIn K cd0 "_law_source" = true) (k0 : PySem.W.keepIn K (.ref f0) = true)
    (a1 : PySem.W.nsIn K mainGlobals "_law_pick" = some (some (.ref f1)))
    (l1 : K.lookup f1 = some ⟨oc1, od1, .func (PySem.W.fnOf "_law_pick" "_law_pick" (defArgs s__law_pick) (defBody s__law_pick) (defScope s__law_pick) .none kV1 dc1 pm1 an1 cd1 ct1), sl1⟩) (c1 : PySem.W.codeIn K cd1 "_law_pick" = true) (k1 : PySem.W.keepIn K (.ref f1) = true)
    (a2 : PySem.W.nsIn K mainGlobals "_law_piece" = some (some (.ref f2)))
    (l2 : K.lookup f2 = some ⟨oc2, od2, .func (PySem.W.fnOf "_law_piece" "_law_piece" (defArgs s__law_piece) (defBody s__law_piece) (defScope s__law_piece) .none kV2 dc2 pm2 an2 cd2 ct2), sl2⟩) (c2 : PySem.W.codeIn K cd2 "_law_piece" = true) (k2 : PySem.W.keepIn K (.ref f2) = true)
    (a3 : PySem.W.nsIn K mainGlobals "_law_same" = some (some (.ref f3)))
    (l3 : K.lookup f3 = some ⟨oc3, od3, .func (PySem.W.fnOf "_law_same" "_law_same" (defArgs s__law_same) (defBody s__law_same) (defScope s__law_same) .none kV3 dc3 pm3 an3 cd3 ct3), sl3⟩) (c3 : PySem.W.codeIn K cd3 "_law_same" = true) (k3 : PySem.W.keepIn K (.ref f3) = true)
    (a4 : PySem.W.nsIn K mainGlobals "_belongs_to_run" = some (some (.ref f4)))
    (l4 : K.lookup f4 = some ⟨oc4, od4, .func (PySem.W.fnOf "_belongs_to_run" "_belongs_to_run" (defArgs s__belongs_to_run) (defBody s__belongs_to_run) (defScope s__belongs_to_run) .none kV4 dc4 pm4 an4 cd4 ct4), sl4⟩) (c4 : PySem.W.codeIn K cd4 "_belongs_to_run" = true) (k4 : PySem.W.keepIn K (.ref f4) = true)
    (a5 : PySem.W.nsIn K mainGlobals "_run_at" = some (some (.ref f5)))
    (l5 : K.lookup f5 = some ⟨oc5, od5, .func (PySem.W.fnOf "_run_at" "_run_at" (defArgs s__run_at) (defBody s__run_at) (defScope s__run_at) .none kV5 dc5 pm5 an5 cd5 ct5), sl5⟩) (c5 : PySem.W.codeIn K cd5 "_run_at" = true) (k5 : PySem.W.keepIn K (.ref f5) = true)
    (a6 : PySem.W.nsIn K mainGlobals "_token_at" = some (some (.ref f6)))
    (l6 : K.lookup f6 = some ⟨oc6, od6, .func (PySem.W.fnOf "_token_at" "_token_at" (defArgs s__token_at) (defBody s__token_at) (defScope s__token_at) .none kV6 dc6 pm6 an6 cd6 ct6), sl6⟩) (c6 : PySem.W.codeIn K cd6 "_token_at" = true) (k6 : PySem.W.keepIn K (.ref f6) = true)
    (a7 : PySem.W.nsIn K mainGlobals "tokenize" = some (some (.ref f7)))
    (l7 : K.lookup f7 = some ⟨oc7, od7, .func (PySem.W.fnOf "tokenize" "tokenize" (defArgs s_tokenize) (defBody s_tokenize) (defScope s_tokenize) .none kV7 dc7 pm7 an7 cd7 ct7), sl7⟩) (c7 : PySem.W.codeIn K cd7 "tokenize" = true) (k7 : PySem.W.keepIn K (.ref f7) = true)
    (a8 : PySem.W.nsIn K mainGlobals "_law_class" = some (some (.ref f8)))
    (l8 : K.lookup f8 = some ⟨oc8, od8, .func (PySem.W.fnOf "_law_class" "_law_class" (defArgs s__law_class) (defBody s__law_class) (defScope s__law_class) .none kV8 dc8 pm8 an8 cd8 ct8), sl8⟩) (c8 : PySem.W.codeIn K cd8 "_law_class" = true) (k8 : PySem.W.keepIn K (.ref f8) = true)
    (a9 : PySem.W.nsIn K mainGlobals "_law_told" = some (some (.ref f9)))
    (l9 : K.lookup f9 = some ⟨oc9, od9, .func (PySem.W.fnOf "_law_told" "_law_told" (defArgs s__law_told) (defBody s__law_told) (defScope s__law_told) .none kV9 dc9 pm9 an9 cd9 ct9), sl9⟩) (c9 : PySem.W.codeIn K cd9 "_law_told" = true) (k9 : PySem.W.keepIn K (.ref f9) = true)
    (a10 : PySem.W.nsIn K mainGlobals "_law_run" = some (some (.ref f10)))
    (l10 : K.lookup f10 = some ⟨oc10, od10, .func (PySem.W.fnOf "_law_run" "_law_run" (defArgs s__law_run) (defBody s__law_run) (defScope s__law_run) .none kV10 dc10 pm10 an10 cd10 ct10), sl10⟩) (c10 : PySem.W.codeIn K cd10 "_law_run" = true) (k10 : PySem.W.keepIn K (.ref f10) = true)
    (a11 : PySem.W.nsIn K mainGlobals "_law_due" = some (some (.ref f11)))
    (l11 : K.lookup f11 = some ⟨oc11, od11, .func (PySem.W.fnOf "_law_due" "_law_due" (defArgs s__law_due) (defBody s__law_due) (defScope s__law_due) .none kV11 dc11 pm11 an11 cd11 ct11), sl11⟩) (c11 : PySem.W.codeIn K cd11 "_law_due" = true) (k11 : PySem.W.keepIn K (.ref f11) = true)
    (a12 : PySem.W.nsIn K mainGlobals "law" = some (some (.ref f12)))
    (l12 : K.lookup f12 = some ⟨oc12, od12, .func (PySem.W.fnOf "law" "law" (defArgs s_law) (defBody s_law) (defScope s_law) .none kV12 dc12 pm12 an12 cd12 ct12), sl12⟩) (c12 : PySem.W.codeIn K cd12 "law" = true) (k12 : PySem.W.keepIn K (.ref f12) = true)
    (eC_NameTwice : PySem.W.nsIn K mainGlobals "NameTwice" = some (some (.ref Er_NameTwice)))
    (eT_NameTwice : PySem.W.typeIn K (.ref Er_NameTwice) = some (.type "type"))
    (eH_NameTwice : PySem.W.hasDictIn K Er_NameTwice = true)
    (eB_NameTwice : PySem.W.subIn K (.ref Er_NameTwice) (.type "BaseException") = some true)
    (eC_NotPossible : PySem.W.nsIn K mainGlobals "NotPossible" = some (some (.ref Er_NotPossible)))
    (eT_NotPossible : PySem.W.typeIn K (.ref Er_NotPossible) = some (.type "type"))
    (eH_NotPossible : PySem.W.hasDictIn K Er_NotPossible = true)
    (eB_NotPossible : PySem.W.subIn K (.ref Er_NotPossible) (.type "BaseException") = some true)
    (eC_PactError : PySem.W.nsIn K mainGlobals "PactError" = some (some (.ref Er_PactError)))
    (eT_PactError : PySem.W.typeIn K (.ref Er_PactError) = some (.type "type"))
    (eH_PactError : PySem.W.hasDictIn K Er_PactError = true)
    (eB_PactError : PySem.W.subIn K (.ref Er_PactError) (.type "BaseException") = some true)
    (eC_PaperError : PySem.W.nsIn K mainGlobals "PaperError" = some (some (.ref Er_PaperError)))
    (eT_PaperError : PySem.W.typeIn K (.ref Er_PaperError) = some (.type "type"))
    (eH_PaperError : PySem.W.hasDictIn K Er_PaperError = true)
    (eB_PaperError : PySem.W.subIn K (.ref Er_PaperError) (.type "BaseException") = some true)
    (eC_SelfLetter : PySem.W.nsIn K mainGlobals "SelfLetter" = some (some (.ref Er_SelfLetter)))
    (eT_SelfLetter : PySem.W.typeIn K (.ref Er_SelfLetter) = some (.type "type"))
    (eH_SelfLetter : PySem.W.hasDictIn K Er_SelfLetter = true)
    (eB_SelfLetter : PySem.W.subIn K (.ref Er_SelfLetter) (.type "BaseException") = some true)
    (eC_SourceError : PySem.W.nsIn K mainGlobals "SourceError" = some (some (.ref Er_SourceError)))
    (eT_SourceError : PySem.W.typeIn K (.ref Er_SourceError) = some (.type "type"))
    (eH_SourceError : PySem.W.hasDictIn K Er_SourceError = true)
    (eB_SourceError : PySem.W.subIn K (.ref Er_SourceError) (.type "BaseException") = some true)
    (eL_SourceError : K.lookup Er_SourceError = some (excClassObj n0_SourceError qn_SourceError Er_SourceError N_SourceError bs_SourceError bm_SourceError true sn_SourceError sb_SourceError ab_SourceError col_SourceError dd_SourceError k0_SourceError k1_SourceError k2_SourceError k3_SourceError k5_SourceError "ValueError.__new__"))
    (eR_SourceError : PySem.HandSPX.refsVE bm_SourceError = true)
    (eS_SourceError : PySem.W.findIn K (.ref Er_SourceError) "__setattr__" = some (some (.builtin "object.__setattr__")))
    (eK_SourceError : PySem.W.keepIn K (.ref Er_SourceError) = true)
    (eG_SourceError : PySem.W.findIn K (.ref Er_SourceError) "__getattribute__" = some (some (.builtin "BaseException.__getattribute__")))
    (eA_SourceError : PySem.W.findIn K (.ref Er_SourceError) "__getattr__" = some none)
    (eQ_SourceError : PySem.W.findIn K (.ref Er_SourceError) "__class__" = some (some (.builtin "object.__class__")))
    (eM_SourceError : PySem.W.mroIn K Er_SourceError (.type "object") = some true)
    (eU_SourceError : PySem.W.subIn K (.ref Er_SourceError) (.ref Er_SourceError) = some true)
    (eN_SourceError : PySem.W.findIn K (.ref Er_SourceError) "at" = some none)
    (eV_SourceError : PySem.W.subIn K (.ref Er_SourceError) (.type "ValueError") = some true)
    (eC_TableError : PySem.W.nsIn K mainGlobals "TableError" = some (some (.ref Er_TableError)))
    (eT_TableError : PySem.W.typeIn K (.ref Er_TableError) = some (.type "type"))
    (eH_TableError : PySem.W.hasDictIn K Er_TableError = true)
    (eB_TableError : PySem.W.subIn K (.ref Er_TableError) (.type "BaseException") = some true)
    (eC_TooLarge : PySem.W.nsIn K mainGlobals "TooLarge" = some (some (.ref Er_TooLarge)))
    (eT_TooLarge : PySem.W.typeIn K (.ref Er_TooLarge) = some (.type "type"))
    (eH_TooLarge : PySem.W.hasDictIn K Er_TooLarge = true)
    (eB_TooLarge : PySem.W.subIn K (.ref Er_TooLarge) (.type "BaseException") = some true)
    (eC_UnknownName : PySem.W.nsIn K mainGlobals "UnknownName" = some (some (.ref Er_UnknownName)))
    (eT_UnknownName : PySem.W.typeIn K (.ref Er_UnknownName) = some (.type "type"))
    (eH_UnknownName : PySem.W.hasDictIn K Er_UnknownName = true)
    (eB_UnknownName : PySem.W.subIn K (.ref Er_UnknownName) (.type "BaseException") = some true)
    (eC_WrongCount : PySem.W.nsIn K mainGlobals "WrongCount" = some (some (.ref Er_WrongCount)))
    (eT_WrongCount : PySem.W.typeIn K (.ref Er_WrongCount) = some (.type "type"))
    (eH_WrongCount : PySem.W.hasDictIn K Er_WrongCount = true)
    (eB_WrongCount : PySem.W.subIn K (.ref Er_WrongCount) (.type "BaseException") = some true)
    (eS0 : PySem.W.specialIn K (.builtin "object.__class__") "__get__" = some (some (.builtin "getset_descriptor.__get__"))) (eT0 : PySem.W.takesIn K (.builtin "object.__class__") = some true)
    (ii_SourceError : PySem.W.findIn K (.ref Er_SourceError) "__init__" = some (some (.ref fi_SourceError))) (ti_SourceError : PySem.W.typeIn K (.ref fi_SourceError) = some (.type "function")) (li_SourceError : K.lookup fi_SourceError = some ⟨oci_SourceError, odi_SourceError, .func (PySem.W.fnOf "__init__" "SourceError.__init__" (defArgs s_SourceError___init__) (defBody s_SourceError___init__) (defScope s_SourceError___init__) .none kVi_SourceError dci_SourceError pmi_SourceError ani_SourceError cdi_SourceError cti_SourceError), sli_SourceError⟩) (ci_SourceError : PySem.W.codeIn K cdi_SourceError "SourceError.__init__" = true) (ki_SourceError : PySem.W.keepIn K (.ref fi_SourceError) = true)
    (pk_SourceError_NameTwice : PySem.W.subIn K (.ref Er_SourceError) (.ref Er_NameTwice) = some false)
    (pk_SourceError_NotPossible : PySem.W.subIn K (.ref Er_SourceError) (.ref Er_NotPossible) = some false)
    (pk_SourceError_PactError : PySem.W.subIn K (.ref Er_SourceError) (.ref Er_PactError) = some true)
    (pk_SourceError_PaperError : PySem.W.subIn K (.ref Er_SourceError) (.ref Er_PaperError) = some false)
    (pk_SourceError_SelfLetter : PySem.W.subIn K (.ref Er_SourceError) (.ref Er_SelfLetter) = some false)
    (pk_SourceError_TableError : PySem.W.subIn K (.ref Er_SourceError) (.ref Er_TableError) = some false)
    (pk_SourceError_TooLarge : PySem.W.subIn K (.ref Er_SourceError) (.ref Er_TooLarge) = some false)
    (pk_SourceError_UnknownName : PySem.W.subIn K (.ref Er_SourceError) (.ref Er_UnknownName) = some false)
    (pk_SourceError_WrongCount : PySem.W.subIn K (.ref Er_SourceError) (.ref Er_WrongCount) = some false)
    (z0 : PySem.W.nsIn K mainGlobals "ValueError" = some none)
    (z1 : PySem.W.nsIn K mainGlobals "bool" = some none)
    (z2 : PySem.W.nsIn K mainGlobals "int" = some none)
    (z3 : PySem.W.nsIn K mainGlobals "isinstance" = some none)
    (z4 : PySem.W.nsIn K mainGlobals "len" = some none)
    (z5 : PySem.W.nsIn K mainGlobals "list" = some none)
    (z6 : PySem.W.nsIn K mainGlobals "min" = some none)
    (z7 : PySem.W.nsIn K mainGlobals "range" = some none)
    (z8 : PySem.W.nsIn K mainGlobals "str" = some none)
    (z9 : PySem.W.nsIn K mainGlobals "tuple" = some none)
    (q0 : PySem.W.nsIn K mainGlobals "ARROW" = some (some (.str "->" tk0)))
    (q1 : PySem.W.nsIn K mainGlobals "DIGITS" = some (some (.str "0123456789" tk1)))
    (q2 : PySem.W.nsIn K mainGlobals "LETTERS" = some (some (.str "abcdefghijklmnopqrstuvwxyz" tk2)))
    (q3 : PySem.W.nsIn K mainGlobals "LONGEST_NAME" = some (some (.int 12 tk3)))
    (q4 : PySem.W.nsIn K mainGlobals "SHORT_MARKS" = some (some (.str "(){},;:|" tk4)))
    (q5 : PySem.W.nsIn K mainGlobals "WORDS" = some (some (.ref fq5))) (qo5 : K.lookup fq5 = some oq5) (qc5 : oq5.cls = .type "tuple") (qd5 : oq5.data = .seq #[.str "pact" tq5_0, .str "end" tq5_1, .str "choice" tq5_2, .str "both" tq5_3, .str "loop" tq5_4, .str "use" tq5_5] nq5) :
    ∃ fd : FuncData, (∀ (s : Shared) (v : Value), BindsTo s fd ⟨[v], []⟩ [("script", v)]) ∧ ∀ (P : Program) (w : World) (base : Heap), FnOk P w K mg base CX0 7 fa fd ["script"] (spA K F_law) := by
  have e := hfa.symm.trans (PySem.W.mg_of X Gn a12)
  cases e
  have F0 := fun_mk (st := s__law_source) l0 c0 k0
  have F1 := fun_mk (st := s__law_pick) l1 c1 k1
  have F2 := fun_mk (st := s__law_piece) l2 c2 k2
  have F3 := fun_mk (st := s__law_same) l3 c3 k3
  have F4 := fun_mk (st := s__belongs_to_run) l4 c4 k4
  have F5 := fun_mk (st := s__run_at) l5 c5 k5
  have F6 := fun_mk (st := s__token_at) l6 c6 k6
  have F7 := fun_mk (st := s_tokenize) l7 c7 k7
  have F8 := fun_mk (st := s__law_class) l8 c8 k8
  have F9 := fun_mk (st := s__law_told) l9 c9 k9
  have F10 := fun_mk (st := s__law_run) l10 c10 k10
  have F11 := fun_mk (st := s__law_due) l11 c11 k11
  have F12 := fun_mk (st := s_law) l12 c12 k12
  have EC_SourceError : ErrC K "SourceError" Er_SourceError := errC_of eC_SourceError eL_SourceError eR_SourceError eS_SourceError eB_SourceError eT_SourceError eK_SourceError eG_SourceError eA_SourceError eH_SourceError eQ_SourceError eS0 eT0 eM_SourceError eU_SourceError
  have Fi_SourceError := fun_mk (st := s_SourceError___init__) li_SourceError ci_SourceError ki_SourceError
  let T : Txt K mg := { Er_NameTwice := Er_NameTwice, gc_NameTwice := PySem.W.mg_of X Gn eC_NameTwice, Er_NotPossible := Er_NotPossible, gc_NotPossible := PySem.W.mg_of X Gn eC_NotPossible, Er_PactError := Er_PactError, gc_PactError := PySem.W.mg_of X Gn eC_PactError, Er_PaperError := Er_PaperError, gc_PaperError := PySem.W.mg_of X Gn eC_PaperError, Er_SelfLetter := Er_SelfLetter, gc_SelfLetter := PySem.W.mg_of X Gn eC_SelfLetter, Er_SourceError := Er_SourceError, gc_SourceError := PySem.W.mg_of X Gn eC_SourceError, Er_TableError := Er_TableError, gc_TableError := PySem.W.mg_of X Gn eC_TableError, Er_TooLarge := Er_TooLarge, gc_TooLarge := PySem.W.mg_of X Gn eC_TooLarge, Er_UnknownName := Er_UnknownName, gc_UnknownName := PySem.W.mg_of X Gn eC_UnknownName, Er_WrongCount := Er_WrongCount, gc_WrongCount := PySem.W.mg_of X Gn eC_WrongCount, er_SourceError := EC_SourceError.f, no_SourceError := eN_SourceError, fi_SourceError := fi_SourceError, fdi_SourceError := _, ii_SourceError := ii_SourceError, ti_SourceError := ti_SourceError, Fi_SourceError := Fi_SourceError, bi_SourceError := Fi_SourceError.binds (ps := ["self", "at"]) fun _ _ _ _ _ _ us hl => (match us, hl with | [_, _], _ => rfl), kd_NameTwice := (KindOk.cons EC_SourceError (kit_of EC_SourceError ⟨eT_NameTwice, eH_NameTwice, eB_NameTwice⟩ pk_SourceError_NameTwice) (by decide +kernel) KindOk.nil), kd_NotPossible := (KindOk.cons EC_SourceError (kit_of EC_SourceError ⟨eT_NotPossible, eH_NotPossible, eB_NotPossible⟩ pk_SourceError_NotPossible) (by decide +kernel) KindOk.nil), kd_PaperError := (KindOk.cons EC_SourceError (kit_of EC_SourceError ⟨eT_PaperError, eH_PaperError, eB_PaperError⟩ pk_SourceError_PaperError) (by decide +kernel) KindOk.nil), kd_SelfLetter := (KindOk.cons EC_SourceError (kit_of EC_SourceError ⟨eT_SelfLetter, eH_SelfLetter, eB_SelfLetter⟩ pk_SourceError_SelfLetter) (by decide +kernel) KindOk.nil), kd_SourceError := (KindOk.cons EC_SourceError (kit_of EC_SourceError ⟨eT_SourceError, eH_SourceError, eB_SourceError⟩ eU_SourceError) (by decide +kernel) KindOk.nil), kd_TableError := (KindOk.cons EC_SourceError (kit_of EC_SourceError ⟨eT_TableError, eH_TableError, eB_TableError⟩ pk_SourceError_TableError) (by decide +kernel) KindOk.nil), kd_TooLarge := (KindOk.cons EC_SourceError (kit_of EC_SourceError ⟨eT_TooLarge, eH_TooLarge, eB_TooLarge⟩ pk_SourceError_TooLarge) (by decide +kernel) KindOk.nil), kd_UnknownName := (KindOk.cons EC_SourceError (kit_of EC_SourceError ⟨eT_UnknownName, eH_UnknownName, eB_UnknownName⟩ pk_SourceError_UnknownName) (by decide +kernel) KindOk.nil), kd_ValueError := (KindOk.cons EC_SourceError (kit_VE eV_SourceError) (by decide +kernel) KindOk.nil), kd_WrongCount := (KindOk.cons EC_SourceError (kit_of EC_SourceError ⟨eT_WrongCount, eH_WrongCount, eB_WrongCount⟩ pk_SourceError_WrongCount) (by decide +kernel) KindOk.nil), em_PactError := (ExmOk.cons EC_SourceError (exm_of ⟨eT_PactError, eH_PactError, eB_PactError⟩ pk_SourceError_PactError) (by decide +kernel) ExmOk.nil), fld_at := (FldOk.cons EC_SourceError eN_SourceError FldOk.nil), m_ValueError := PySem.W.mg_none_of X Gn z0, m_bool := PySem.W.mg_none_of X Gn z1, m_int := PySem.W.mg_none_of X Gn z2, m_isinstance := PySem.W.mg_none_of X Gn z3, m_len := PySem.W.mg_none_of X Gn z4, m_list := PySem.W.mg_none_of X Gn z5, m_min := PySem.W.mg_none_of X Gn z6, m_range := PySem.W.mg_none_of X Gn z7, m_str := PySem.W.mg_none_of X Gn z8, m_tuple := PySem.W.mg_none_of X Gn z9, v_ARROW := .str "->", u_ARROW := _, g_ARROW := PySem.W.mg_of X Gn q0, r_ARROW := ⟨_, rfl⟩, d_ARROW := fun _ => .str _, v_DIGITS := .str "0123456789", u_DIGITS := _, g_DIGITS := PySem.W.mg_of X Gn q1, r_DIGITS := ⟨_, rfl⟩, d_DIGITS := fun _ => .str _, v_LETTERS := .str "abcdefghijklmnopqrstuvwxyz", u_LETTERS := _, g_LETTERS := PySem.W.mg_of X Gn q2, r_LETTERS := ⟨_, rfl⟩, d_LETTERS := fun _ => .str _, v_LONGEST_NAME := .int 12, u_LONGEST_NAME := _, g_LONGEST_NAME := PySem.W.mg_of X Gn q3, r_LONGEST_NAME := ⟨_, rfl⟩, d_LONGEST_NAME := fun _ => .int _, v_SHORT_MARKS := .str "(){},;:|", u_SHORT_MARKS := _, g_SHORT_MARKS := PySem.W.mg_of X Gn q4, r_SHORT_MARKS := ⟨_, rfl⟩, d_SHORT_MARKS := fun _ => .str _, v_WORDS := .ref fq5, u_WORDS := _, g_WORDS := PySem.W.mg_of X Gn q5, r_WORDS := rfl, d_WORDS := fun _ => dp_strs qo5 qc5 qd5 (show 6 ≤ sizeLine by decide) ((.cons _ _ (.cons _ _ (.cons _ _ (.cons _ _ (.cons _ _ (.cons _ _ .nil))))))), f__law_source := f0, fd__law_source := _, g__law_source := PySem.W.mg_of X Gn a0, F__law_source := F0, b__law_source := F0.binds (ps := ["script"]) fun _ _ _ _ _ _ us hl => (match us, hl with | [_], _ => rfl), f__law_pick := f1, fd__law_pick := _, g__law_pick := PySem.W.mg_of X Gn a1, F__law_pick := F1, b__law_pick := F1.binds (ps := ["source", "many"]) fun _ _ _ _ _ _ us hl => (match us, hl with | [_, _], _ => rfl), f__law_piece := f2, fd__law_piece := _, g__law_piece := PySem.W.mg_of X Gn a2, F__law_piece := F2, b__law_piece := F2.binds (ps := ["source"]) fun _ _ _ _ _ _ us hl => (match us, hl with | [_], _ => rfl), f__law_same := f3, fd__law_same := _, g__law_same := PySem.W.mg_of X Gn a3, F__law_same := F3, b__law_same := F3.binds (ps := ["actual", "due"]) fun _ _ _ _ _ _ us hl => (match us, hl with | [_, _], _ => rfl), f__belongs_to_run := f4, fd__belongs_to_run := _, g__belongs_to_run := PySem.W.mg_of X Gn a4, F__belongs_to_run := F4, b__belongs_to_run := F4.binds (ps := ["sign"]) fun _ _ _ _ _ _ us hl => (match us, hl with | [_], _ => rfl), f__run_at := f5, fd__run_at := _, g__run_at := PySem.W.mg_of X Gn a5, F__run_at := F5, b__run_at := F5.binds (ps := ["text", "at"]) fun _ _ _ _ _ _ us hl => (match us, hl with | [_, _], _ => rfl), f__token_at := f6, fd__token_at := _, g__token_at := PySem.W.mg_of X Gn a6, F__token_at := F6, b__token_at := F6.binds (ps := ["text", "at"]) fun _ _ _ _ _ _ us hl => (match us, hl with | [_, _], _ => rfl), f_tokenize := f7, fd_tokenize := _, g_tokenize := PySem.W.mg_of X Gn a7, F_tokenize := F7, b_tokenize := F7.binds (ps := ["text"]) fun _ _ _ _ _ _ us hl => (match us, hl with | [_], _ => rfl), f__law_class := f8, fd__law_class := _, g__law_class := PySem.W.mg_of X Gn a8, F__law_class := F8, b__law_class := F8.binds (ps := ["e"]) fun _ _ _ _ _ _ us hl => (match us, hl with | [_], _ => rfl), f__law_told := f9, fd__law_told := _, g__law_told := PySem.W.mg_of X Gn a9, F__law_told := F9, b__law_told := F9.binds (ps := ["text"]) fun _ _ _ _ _ _ us hl => (match us, hl with | [_], _ => rfl), f__law_run := f10, fd__law_run := _, g__law_run := PySem.W.mg_of X Gn a10, F__law_run := F10, b__law_run := F10.binds (ps := ["text", "at"]) fun _ _ _ _ _ _ us hl => (match us, hl with | [_, _], _ => rfl), f__law_due := f11, fd__law_due := _, g__law_due := PySem.W.mg_of X Gn a11, F__law_due := F11, b__law_due := F11.binds (ps := ["text"]) fun _ _ _ _ _ _ us hl => (match us, hl with | [_], _ => rfl), f_law := fa, fd_law := _, g_law := PySem.W.mg_of X Gn a12, F_law := F12, b_law := F12.binds (ps := ["script"]) fun _ _ _ _ _ _ us hl => (match us, hl with | [_], _ => rfl) }
  exact ⟨_, fun s v => .of_eq rfl, fun P w base => all_ok T⟩
end

end K02
open PySem PySem.W PyProof.Rows
set_option maxHeartbeats 0 in
theorem PySem.Challenge.cw_pactloom_k02_any_text_holds : PySem.Challenge.rw_pactloom_k02_any_text.Holds := by
  w_on; o_law; k_head; (case hw => w_witness2)
  k_fill
  refine L2.walk_of (l := PySem.Challenge.rw_pactloom_k02_any_text) (n := 63) (k := 7) (x := "script") (CX := fun _ => L2.CX0) (sp := fun w => Ab.spA _ Ab.F_law) rfl (by decide) rfl ⟨rfl, by decide, by decide⟩ (fun w h Y => PySem.W.kIn_of Y) ?F (fun _ H a ns hl hO hS => Ab.law_start hl hS) (fun _ _ _ _ _ h => h)
  case F =>
    intro w mg fa h KX G hmg
    refine' Ab.fd_all (K02.all_mk KX G hmg ?a0 ?l0 ?c0 ?k0 ?a1 ?l1 ?c1 ?k1 ?a2 ?l2 ?c2 ?k2 ?a3 ?l3 ?c3 ?k3 ?a4 ?l4 ?c4 ?k4 ?a5 ?l5 ?c5 ?k5 ?a6 ?l6 ?c6 ?k6 ?a7 ?l7 ?c7 ?k7 ?a8 ?l8 ?c8 ?k8 ?a9 ?l9 ?c9 ?k9 ?a10 ?l10 ?c10 ?k10 ?a11 ?l11 ?c11 ?k11 ?a12 ?l12 ?c12 ?k12 ?eC_NameTwice ?eT_NameTwice ?eH_NameTwice ?eB_NameTwice ?eC_NotPossible ?eT_NotPossible ?eH_NotPossible ?eB_NotPossible ?eC_PactError ?eT_PactError ?eH_PactError ?eB_PactError ?eC_PaperError ?eT_PaperError ?eH_PaperError ?eB_PaperError ?eC_SelfLetter ?eT_SelfLetter ?eH_SelfLetter ?eB_SelfLetter ?eC_SourceError ?eT_SourceError ?eH_SourceError ?eB_SourceError ?eL_SourceError ?eR_SourceError ?eS_SourceError ?eK_SourceError ?eG_SourceError ?eA_SourceError ?eQ_SourceError ?eM_SourceError ?eU_SourceError ?eN_SourceError ?eV_SourceError ?eC_TableError ?eT_TableError ?eH_TableError ?eB_TableError ?eC_TooLarge ?eT_TooLarge ?eH_TooLarge ?eB_TooLarge ?eC_UnknownName ?eT_UnknownName ?eH_UnknownName ?eB_UnknownName ?eC_WrongCount ?eT_WrongCount ?eH_WrongCount ?eB_WrongCount ?eS0 ?eT0 ?ii_SourceError ?ti_SourceError ?li_SourceError ?ci_SourceError ?ki_SourceError ?pk_SourceError_NameTwice ?pk_SourceError_NotPossible ?pk_SourceError_PactError ?pk_SourceError_PaperError ?pk_SourceError_SelfLetter ?pk_SourceError_TableError ?pk_SourceError_TooLarge ?pk_SourceError_UnknownName ?pk_SourceError_WrongCount ?z0 ?z1 ?z2 ?z3 ?z4 ?z5 ?z6 ?z7 ?z8 ?z9 ?q0 ?q1 ?q2 ?q3 ?q4 ?q5 ?qo5 ?qc5 ?qd5)
    (case eC_NameTwice => k_is)
    (case eC_NotPossible => k_is)
    (case eC_PactError => k_is)
    (case eC_PaperError => k_is)
    (case eC_SelfLetter => k_is)
    (case eC_SourceError => k_is)
    (case eC_TableError => k_is)
    (case eC_TooLarge => k_is)
    (case eC_UnknownName => k_is)
    (case eC_WrongCount => k_is)
    (case ii_SourceError => k_is)
    (case a0 => k_is)
    (case l0 => k_is)
    (case c0 => k_is)
    (case k0 => k_is)
    (case a1 => k_is)
    (case l1 => k_is)
    (case c1 => k_is)
    (case k1 => k_is)
    (case a2 => k_is)
    (case l2 => k_is)
    (case c2 => k_is)
    (case k2 => k_is)
    (case a3 => k_is)
    (case l3 => k_is)
    (case c3 => k_is)
    (case k3 => k_is)
    (case a4 => k_is)
    (case l4 => k_is)
    (case c4 => k_is)
    (case k4 => k_is)
    (case a5 => k_is)
    (case l5 => k_is)
    (case c5 => k_is)
    (case k5 => k_is)
    (case a6 => k_is)
    (case l6 => k_is)
    (case c6 => k_is)
    (case k6 => k_is)
    (case a7 => k_is)
    (case l7 => k_is)
    (case c7 => k_is)
    (case k7 => k_is)
    (case a8 => k_is)
    (case l8 => k_is)
    (case c8 => k_is)
    (case k8 => k_is)
    (case a9 => k_is)
    (case l9 => k_is)
    (case c9 => k_is)
    (case k9 => k_is)
    (case a10 => k_is)
    (case l10 => k_is)
    (case c10 => k_is)
    (case k10 => k_is)
    (case a11 => k_is)
    (case l11 => k_is)
    (case c11 => k_is)
    (case k11 => k_is)
    (case a12 => k_is)
    (case l12 => k_is)
    (case c12 => k_is)
    (case k12 => k_is)
    (case eT_NameTwice => k_is)
    (case eH_NameTwice => k_is)
    (case eB_NameTwice => k_is)
    (case eT_NotPossible => k_is)
    (case eH_NotPossible => k_is)
    (case eB_NotPossible => k_is)
    (case eT_PactError => k_is)
    (case eH_PactError => k_is)
    (case eB_PactError => k_is)
    (case eT_PaperError => k_is)
    (case eH_PaperError => k_is)
    (case eB_PaperError => k_is)
    (case eT_SelfLetter => k_is)
    (case eH_SelfLetter => k_is)
    (case eB_SelfLetter => k_is)
    (case eT_SourceError => k_is)
    (case eH_SourceError => k_is)
    (case eB_SourceError => k_is)
    (case eL_SourceError => k_is)
    (case eR_SourceError => rfl)
    (case eS_SourceError => k_is)
    (case eK_SourceError => k_is)
    (case eG_SourceError => k_is)
    (case eA_SourceError => k_is)
    (case eQ_SourceError => k_is)
    (case eM_SourceError => k_is)
    (case eU_SourceError => k_is)
    (case eN_SourceError => k_is)
    (case eV_SourceError => k_is)
    (case eT_TableError => k_is)
    (case eH_TableError => k_is)
    (case eB_TableError => k_is)
    (case eT_TooLarge => k_is)
    (case eH_TooLarge => k_is)
    (case eB_TooLarge => k_is)
    (case eT_UnknownName => k_is)
    (case eH_UnknownName => k_is)
    (case eB_UnknownName => k_is)
    (case eT_WrongCount => k_is)
    (case eH_WrongCount => k_is)
    (case eB_WrongCount => k_is)
    (case eS0 => k_is)
    (case eT0 => k_is)
    (case ti_SourceError => k_is)
    (case li_SourceError => k_is)
    (case ci_SourceError => k_is)
    (case ki_SourceError => k_is)
    (case pk_SourceError_NameTwice => k_is)
    (case pk_SourceError_NotPossible => k_is)
    (case pk_SourceError_PactError => k_is)
    (case pk_SourceError_PaperError => k_is)
    (case pk_SourceError_SelfLetter => k_is)
    (case pk_SourceError_TableError => k_is)
    (case pk_SourceError_TooLarge => k_is)
    (case pk_SourceError_UnknownName => k_is)
    (case pk_SourceError_WrongCount => k_is)
    (case z0 => k_is)
    (case z1 => k_is)
    (case z2 => k_is)
    (case z3 => k_is)
    (case z4 => k_is)
    (case z5 => k_is)
    (case z6 => k_is)
    (case z7 => k_is)
    (case z8 => k_is)
    (case z9 => k_is)
    (case q0 => k_is)
    (case q1 => k_is)
    (case q2 => k_is)
    (case q3 => k_is)
    (case q4 => k_is)
    (case q5 => k_is)
    (case qo5 => k_is)
    (case qc5 => rfl)
    (case qd5 => rfl)

