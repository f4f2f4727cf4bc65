import PyProof.Rows.All
import Wide.All
import OpenK.AllK
import Wide.FinOn
import PySem.Challenge.RW_pactloom_k24_records_of_journals
import HandS.ForMost
import HandS.IsInst
import HandS.TupAny
import HandS.StrMore
import HandS.Codes
import HandS.Dict
import HandS.More
import HandS.Text
import HandS.FStr
import HandS.Exc
import HandS.Sort
import HandS.Zip0
import HandS.NoneIn
import HandS.List
set_option Elab.async false
set_option linter.all false
set_option maxRecDepth 100000
set_option maxHeartbeats 4000000
/-! Ab: readings over data instead of heaps: values that never change are data (PyData), what changes are cells by their number. -/
namespace Ab
open PySem L2

inductive AV where
  | d (x : PyData)
  | c (k : Nat)
  | r (v : V)

inductive Cell where
  | dead
  /-- a list of data; a list, a tuple of any things -/
  | ld (xs : List PyData)
  | lst (xs : List AV)
  | tup (xs : List AV)
  | dK (kvs : List (Key × PyData))
  | dT (kvs : List (List Key × PyData))
  | ins (C : Addr) (fs : List (Str × AV))

abbrev AD := List (Option AV)
abbrev AK := List Cell
abbrev AR := AV → AK → Prop
abbrev AE := AD → AK → AR → Prop
abbrev AT := AD → AK → (Bool → AK → Prop) → Prop
abbrev AA := AD → AK → (List AV → AK → Prop) → Prop

mutual
theorem dp_up {K : PySem.W.Frag} {B B' : Hp} (s : Same B B') : ∀ (d : PyData) (v : V), Dp K B v d → Dp K B' v d
  | .none, _, h => by cases h; exact .non
  | .bool b, _, h => by cases h; exact .bl b
  | .int i, _, h => by cases h; exact .int i
  | .str x, _, h => by cases h; exact .str x
  | .list ds, _, h => by
    cases h with
    | lst hs ha => exact .lst (s.seq hs) (dpa_up s ds _ ha)
  | .tuple ds, _, h => by
    cases h with
    | tup hs ha =>
      refine .tup ?_ (dpa_up s ds _ ha)
      rcases hs with (h | ⟨o, h⟩) | h
      · exact .inl (.inl (s _ _ h))
      · exact .inl (.inr ⟨o, s _ _ h⟩)
      · exact .inr h
  | .dict _, _, h => by cases h
theorem dpa_up {K : PySem.W.Frag} {B B' : Hp} (s : Same B B') : ∀ (ds : List PyData) (vs : List V), DpAll K B vs ds → DpAll K B' vs ds
  | [], _, h => by cases h; exact .nil
  | d :: ds, _, h => by
    cases h with
    | cons h1 h2 => exact .cons (dp_up s d _ h1) (dpa_up s ds _ h2)
end

variable {K : PySem.W.Frag} {B B' B2 H H' H2 : Hp} {ρ ρ' ρ2 : List Addr} {κ κ' : AK} {δ : AD} {σ : L2.St} {p : Addr} {k : Nat} {v x y z : V} {a b c : AV}

def Rep (K : PySem.W.Frag) (B : Hp) (ρ : List Addr) : AV → V → Prop
  | .d x, v => Dp K B v x
  | .c k, v => ∃ p, ρ[k]? = some p ∧ v = .ref p
  | .r u, v => v = u
abbrev Reps (K : PySem.W.Frag) (B : Hp) (ρ : List Addr) : List AV → List V → Prop := Paired (Rep K B ρ)
/-- entries with data -/
def DpKs {κ : Type} (K : PySem.W.Frag) (B : Hp) : List (κ × PyData) → List (κ × V) → Prop := Paired fun p q => p.1 = q.1 ∧ Dp K B q.2 p.2
theorem DpKs.up {κ : Type} (u : Same B B') {as : List (κ × PyData)} {vs : List (κ × V)} (h : DpKs K B as vs) : DpKs K B' as vs := Paired.mapP h fun _ _ r => ⟨r.1, dp_up u _ _ r.2⟩
def RepKs {κ : Type} (K : PySem.W.Frag) (B : Hp) (ρ : List Addr) : List (κ × AV) → List (κ × V) → Prop := Paired fun p q => p.1 = q.1 ∧ Rep K B ρ p.2 q.2

/-- from (B, ρ, H) to (B', ρ', H'): data stays data, cells keep their places, what is neither stays as it was -/
structure Up (B : Hp) (ρ : List Addr) (H : Hp) (B' : Hp) (ρ' : List Addr) (H' : Hp) : Prop where
  s : Same B B'
  p : ∀ (i : Nat) (a : Addr), ρ[i]? = some a → ρ'[i]? = some a
  f : ∀ p o, H p = some o → B p = none → p ∉ ρ → H' p = some o ∧ B' p = none ∧ p ∉ ρ'
theorem Up.refl : Up B ρ H B ρ H := ⟨Same.refl B, fun _ _ h => h, fun _ _ h1 h2 h3 => ⟨h1, h2, h3⟩⟩
theorem Up.trans (a : Up B ρ H B' ρ' H') (b : Up B' ρ' H' B2 ρ2 H2) : Up B ρ H B2 ρ2 H2 := ⟨a.s.trans b.s, fun i x h => b.p i x (a.p i x h), fun p o h1 h2 h3 => let ⟨e1, e2, e3⟩ := a.f p o h1 h2 h3; b.f p o e1 e2 e3⟩
/-- the same of the first n cells alone -/
structure UpN (n : Nat) (B : Hp) (ρ : List Addr) (H : Hp) (B' : Hp) (ρ' : List Addr) (H' : Hp) : Prop where
  s : Same B B'
  p : ∀ (i : Nat) (a : Addr), i < n → ρ[i]? = some a → ρ'[i]? = some a
  f : ∀ p o, H p = some o → B p = none → p ∉ ρ → H' p = some o ∧ B' p = none ∧ p ∉ ρ'
theorem Up.n {n : Nat} (a : Up B ρ H B' ρ' H') : UpN n B ρ H B' ρ' H' := ⟨a.s, fun i x _ h => a.p i x h, a.f⟩
theorem UpN.refl {n : Nat} : UpN n B ρ H B ρ H := Up.refl.n
theorem UpN.trans {n : Nat} (a : UpN n B ρ H B' ρ' H') (b : UpN n B' ρ' H' B2 ρ2 H2) : UpN n B ρ H B2 ρ2 H2 := ⟨a.s.trans b.s, fun i x hi h => b.p i x hi (a.p i x hi h), fun p o h1 h2 h3 => let ⟨e1, e2, e3⟩ := a.f p o h1 h2 h3; b.f p o e1 e2 e3⟩
theorem UpN.full {n : Nat} (a : UpN n B ρ H B' ρ' H') (h : ρ.length ≤ n) : Up B ρ H B' ρ' H' := ⟨a.s, fun i x e => a.p i x (Nat.lt_of_lt_of_le (List.getElem?_eq_some_iff.mp e).1 h) e, a.f⟩
/-- data and cells alone -/
structure Ug (B : Hp) (ρ : List Addr) (B' : Hp) (ρ' : List Addr) : Prop where
  s : Same B B'
  p : ∀ (i : Nat) (a : Addr), ρ[i]? = some a → ρ'[i]? = some a
theorem Ug.refl : Ug B ρ B ρ := ⟨Same.refl B, fun _ _ h => h⟩
theorem Up.g (u : Up B ρ H B' ρ' H') : Ug B ρ B' ρ' := ⟨u.s, u.p⟩
theorem Rep.up (u : Ug B ρ B' ρ') : ∀ {a : AV} {v : V}, Rep K B ρ a v → Rep K B' ρ' a v
  | .d x, _, h => dp_up u.s x _ h
  | .c k, _, ⟨p, h, e⟩ => ⟨p, u.p _ _ h, e⟩
  | .r _, _, h => h
theorem Reps.up (u : Ug B ρ B' ρ') {as : List AV} {vs : List V} (h : Reps K B ρ as vs) : Reps K B' ρ' as vs := Paired.mapP h fun _ _ r => r.up u
theorem RepKs.up {κ : Type} (u : Ug B ρ B' ρ') {as : List (κ × AV)} {vs : List (κ × V)} (h : RepKs K B ρ as vs) : RepKs K B' ρ' as vs := Paired.mapP h fun _ _ r => ⟨r.1, r.2.up u⟩

def CellOk (K : PySem.W.Frag) (B : Hp) (ρ : List Addr) (H : Hp) (p : Addr) : Cell → Prop
  | .dead => H p ≠ none
  | .ld xs => B p = none ∧ ∃ vs, DpAll K B vs xs ∧ H p = some (.lst vs)
  | .lst xs => B p = none ∧ ∃ vs, Reps K B ρ xs vs ∧ H p = some (.lst vs)
  | .tup xs => B p = none ∧ ∃ vs, Reps K B ρ xs vs ∧ H p = some (.tup vs)
  | .dK kvs => B p = none ∧ ∃ ws, DpKs K B kvs ws ∧ H p = some (.dK ws)
  | .dT kvs => B p = none ∧ ∃ ws, DpKs K B kvs ws ∧ H p = some (.dT ws)
  | .ins C fs => B p = none ∧ ∃ dx ws, RepKs K B ρ fs ws ∧ H p = some (.ins C dx ws)
theorem CellOk.nn {cl : Cell} (h : CellOk K B ρ H p cl) : H p ≠ none := by
  cases cl with
  | dead => exact h
  | ld xs => obtain ⟨_, _, _, e⟩ := h; rw [e]; simp
  | lst xs => obtain ⟨_, _, _, e⟩ := h; rw [e]; simp
  | tup xs => obtain ⟨_, _, _, e⟩ := h; rw [e]; simp
  | dK xs => obtain ⟨_, _, _, e⟩ := h; rw [e]; simp
  | dT xs => obtain ⟨_, _, _, e⟩ := h; rw [e]; simp
  | ins C xs => obtain ⟨_, _, _, _, e⟩ := h; rw [e]; simp
/-- the cell stays: its own object, and it is not in the base -/
theorem CellOk.up {cl : Cell} (u : Ug B ρ B' ρ') (h : CellOk K B ρ H p cl) (hb : B p = none → B' p = none) (hh : ∀ o, H p = some o → H' p = some o) : CellOk K B' ρ' H' p cl := by
  cases cl with
  | dead =>
    show H' p ≠ none
    cases e : H p with
    | none => exact absurd e h
    | some o => rw [hh o e]; simp
  | ld xs => obtain ⟨n, vs, r, e⟩ := h; exact ⟨hb n, vs, dpa_up u.s _ _ r, hh _ e⟩
  | lst xs => obtain ⟨n, vs, r, e⟩ := h; exact ⟨hb n, vs, Reps.up u r, hh _ e⟩
  | tup xs => obtain ⟨n, vs, r, e⟩ := h; exact ⟨hb n, vs, Reps.up u r, hh _ e⟩
  | dK xs => obtain ⟨n, vs, r, e⟩ := h; exact ⟨hb n, vs, DpKs.up u.s r, hh _ e⟩
  | dT xs => obtain ⟨n, vs, r, e⟩ := h; exact ⟨hb n, vs, DpKs.up u.s r, hh _ e⟩
  | ins C xs => obtain ⟨n, dx, vs, r, e⟩ := h; exact ⟨hb n, dx, vs, RepKs.up u r, hh _ e⟩

structure G (K : PySem.W.Frag) (B : Hp) (ρ : List Addr) (κ : AK) (H : Hp) : Prop where
  ex : Same B H
  len : ρ.length = κ.length
  inj : ∀ (i j : Nat) (p : Addr), ρ[i]? = some p → ρ[j]? = some p → i = j
  at' : ∀ (k : Nat) (p : Addr) (c : Cell), ρ[k]? = some p → κ[k]? = some c → CellOk K B ρ H p c
structure S (K : PySem.W.Frag) (B : Hp) (ρ : List Addr) (δ : AD) (σ : L2.St) : Prop where
  len : δ.length = σ.length
  at' : ∀ (i : Nat) (a : AV), δ[i]? = some (some a) → ∃ v, σ[i]? = some (some v) ∧ Rep K B ρ a v
theorem S.up (u : Ug B ρ B' ρ') (s : S K B ρ δ σ) : S K B' ρ' δ σ := ⟨s.len, fun i a h => let ⟨v, e, r⟩ := s.at' i a h; ⟨v, e, r.up u⟩⟩
theorem S.set {i : Nat} (s : S K B ρ δ σ) (r : Rep K B ρ a v) : S K B ρ (δ.set i (some a)) (σ.set i (some v)) := by
  refine ⟨by rw [List.length_set, List.length_set]; exact s.len, fun j b h => ?_⟩
  by_cases e : i = j
  · subst e
    have hl : i < δ.length := by
      have := (List.getElem?_eq_some_iff.mp h).1
      rw [List.length_set] at this
      exact this
    rw [List.getElem?_set_self hl] at h
    cases h
    exact ⟨v, List.getElem?_set_self (s.len ▸ hl), r⟩
  · rw [List.getElem?_set_ne e] at h
    obtain ⟨w, e2, r2⟩ := s.at' j b h
    exact ⟨w, by rw [List.getElem?_set_ne e]; exact e2, r2⟩
theorem S.clr {i : Nat} (s : S K B ρ δ σ) {u : Option V} : S K B ρ (δ.set i none) (σ.set i u) := by
  refine ⟨by rw [List.length_set, List.length_set]; exact s.len, fun j b h => ?_⟩
  by_cases e : i = j
  · subst e
    have hl : i < δ.length := by
      have := (List.getElem?_eq_some_iff.mp h).1
      rw [List.length_set] at this
      exact this
    rw [List.getElem?_set_self hl] at h
    cases h
  · rw [List.getElem?_set_ne e] at h
    obtain ⟨w, e2, r2⟩ := s.at' j b h
    exact ⟨w, by rw [List.getElem?_set_ne e]; exact e2, r2⟩

theorem get_app {α : Type} {l : List α} {m : List α} {i : Nat} {a : α} (h : l[i]? = some a) : (l ++ m)[i]? = some a := by
  rw [List.getElem?_append_left (List.getElem?_eq_some_iff.mp h).1]; exact h
theorem get_snoc {α : Type} {l : List α} {i : Nat} {x a : α} (h : (l ++ [x])[i]? = some a) : (i < l.length ∧ l[i]? = some a) ∨ (i = l.length ∧ a = x) := by
  by_cases hl : i < l.length
  · rw [List.getElem?_append_left hl] at h; exact .inl ⟨hl, h⟩
  · have hb := (List.getElem?_eq_some_iff.mp h).1
    rw [List.length_append] at hb
    have e : i = l.length := by
      have : ([x] : List α).length = 1 := rfl
      omega
    subst e
    rw [List.getElem?_append_right (Nat.le_refl _)] at h
    simp at h
    exact .inr ⟨rfl, h.symm⟩
theorem up_snoc : Ug B ρ B (ρ ++ [p]) := ⟨Same.refl B, fun _ _ h => get_app h⟩
theorem G.fresh (g : G K B ρ κ H) (n : H p = none) : B p = none := g.ex.free n
theorem G.nin (g : G K B ρ κ H) (n : H p = none) {i : Nat} {q : Addr} (h : ρ[i]? = some q) : q ≠ p := fun e => by
  subst e
  have hi : i < κ.length := by rw [← g.len]; exact (List.getElem?_eq_some_iff.mp h).1
  exact (g.at' i q _ h (List.getElem?_eq_getElem hi)).nn n
theorem same_upd {o : HO} (h : H p = none) : Same H (upd H p o) := fun b x e => by
  rw [upd_ne (ne_of_none e h)]; exact e
/-- a new cell -/
theorem G.alloc (g : G K B ρ κ H) (n : H p = none) {o : HO} {cl : Cell} (hc : CellOk K B ρ (upd H p o) p cl) : G K B (ρ ++ [p]) (κ ++ [cl]) (upd H p o) := by
  refine ⟨fun b u e => same_upd n b u (g.ex b u e), by rw [List.length_append, List.length_append, g.len] <;> rfl, fun i j q h1 h2 => ?_, fun i q c h1 h2 => ?_⟩
  · rcases get_snoc h1 with ⟨l1, e1⟩ | ⟨l1, e1⟩
    · rcases get_snoc h2 with ⟨l2, e2⟩ | ⟨l2, e2⟩
      · exact g.inj i j q e1 e2
      · subst e2; exact absurd rfl (g.nin n e1)
    · rcases get_snoc h2 with ⟨l2, e2⟩ | ⟨l2, e2⟩
      · subst e1; exact absurd rfl (g.nin n e2)
      · rw [l1, l2]
  · rcases get_snoc h1 with ⟨l1, e1⟩ | ⟨l1, e1⟩
    · rw [List.getElem?_append_left (g.len ▸ l1)] at h2
      have hq := g.nin n e1
      exact (g.at' i q c e1 h2).up up_snoc (fun z => z) fun o' e => by rw [upd_ne hq]; exact e
    · subst e1
      rcases get_snoc h2 with ⟨l2, e2⟩ | ⟨l2, e2⟩
      · rw [l1, g.len] at l2; exact absurd l2 (Nat.lt_irrefl _)
      · subst e2; exact hc.up up_snoc (fun z => z) fun _ e => e
theorem rep_new (g : G K B ρ κ H) : Rep K B (ρ ++ [p]) (.c κ.length) (.ref p) := ⟨p, by rw [← g.len]; simp, rfl⟩
/-- new data in the base -/
theorem G.data (g : G K B ρ κ H) (n : H p = none) {o : HO} : Up B ρ H (upd B p o) ρ (upd H p o) ∧ G K (upd B p o) ρ κ (upd H p o) := by
  have nb := g.fresh n
  have u : Up B ρ H (upd B p o) ρ (upd H p o) := ⟨same_upd nb, fun _ _ h => h, fun q o' h1 h2 h3 => by
    have hq := ne_of_none h1 n
    rw [upd_ne hq, upd_ne hq]; exact ⟨h1, h2, h3⟩⟩
  refine ⟨u, ⟨fun b x e => ?_, g.len, g.inj, fun i q c h1 h2 => ?_⟩⟩
  · by_cases hb : b = p
    · subst hb; rw [upd_same] at e ⊢; exact e
    · rw [upd_ne hb] at e ⊢; exact g.ex b x e
  · have hq := g.nin n h1
    exact (g.at' i q c h1 h2).up u.g (fun z => by rw [upd_ne hq]; exact z) fun o' e => by rw [upd_ne hq]; exact e
theorem G.allocUp (g : G K B ρ κ H) (n : H p = none) {o : HO} : Up B ρ H B (ρ ++ [p]) (upd H p o) := ⟨Same.refl B, fun _ _ h => get_app h, fun q o' h1 h2 h3 => by
  have hq := ne_of_none h1 n
  rw [upd_ne hq]
  refine ⟨h1, h2, fun z => ?_⟩
  rcases List.mem_append.mp z with z | z
  · exact h3 z
  · exact hq (by simpa using z)⟩
theorem mem_of_get {α : Type} {l : List α} {i : Nat} {a : α} (h : l[i]? = some a) : a ∈ l := List.mem_of_getElem? h
theorem G.writeUp (hp : ρ[k]? = some p) {o : HO} : Up B ρ H B ρ (upd H p o) := ⟨Same.refl B, fun _ _ h => h, fun q o' h1 h2 h3 => by
  have hq : q ≠ p := fun e => h3 (e ▸ mem_of_get hp)
  rw [upd_ne hq]; exact ⟨h1, h2, h3⟩⟩
/-- a cell changes -/
theorem G.write (g : G K B ρ κ H) (hp : ρ[k]? = some p) (hb : B p = none) {o : HO} {cl : Cell} (hc : CellOk K B ρ (upd H p o) p cl) : G K B ρ (κ.set k cl) (upd H p o) := by
  refine ⟨fun b x e => ?_, by rw [List.length_set]; exact g.len, g.inj, fun i q c h1 h2 => ?_⟩
  · have : b ≠ p := ne_of_none e hb
    rw [upd_ne this]; exact g.ex b x e
  · by_cases e : k = i
    · subst e
      rw [hp] at h1; cases h1
      have hl : k < κ.length := by
        have := (List.getElem?_eq_some_iff.mp h2).1
        rw [List.length_set] at this; exact this
      rw [List.getElem?_set_self hl] at h2
      cases h2; exact hc
    · rw [List.getElem?_set_ne e] at h2
      have hq : q ≠ p := fun z => by subst z; exact e (g.inj k i q hp h1)
      exact (g.at' i q c h1 h2).up Ug.refl (fun z => z) fun o' eo => by rw [upd_ne hq]; exact eo
theorem G.cell (g : G K B ρ κ H) {cl : Cell} (h : κ[k]? = some cl) : ∃ p, ρ[k]? = some p ∧ CellOk K B ρ H p cl := by
  have hl : k < ρ.length := by rw [g.len]; exact (List.getElem?_eq_some_iff.mp h).1
  exact ⟨_, List.getElem?_eq_getElem hl, g.at' k _ cl (List.getElem?_eq_getElem hl) h⟩

theorem Reps.of_all : ∀ {ds : List PyData} {vs : List V}, Reps K B ρ (ds.map .d) vs → DpAll K B vs ds
  | [], _, h => by cases h; exact .nil
  | d :: ds, _, h => by
    cases h with
    | cons h1 h2 => exact .cons h1 (Reps.of_all h2)
theorem Reps.all : ∀ {ds : List PyData} {vs : List V}, DpAll K B vs ds → Reps K B ρ (ds.map .d) vs
  | [], _, h => by cases h; exact .nil
  | d :: ds, _, h => by
    cases h with
    | cons h1 h2 => exact .cons h1 (Reps.all h2)
theorem dpa_len : ∀ {ds : List PyData} {vs : List V}, DpAll K B vs ds → vs.length = ds.length
  | [], _, h => by cases h; rfl
  | d :: ds, _, h => by
    cases h with
    | cons h1 h2 => rw [List.length_cons, List.length_cons, dpa_len h2]
theorem dpa_get : ∀ {ds : List PyData} {vs : List V} {i : Nat} {d : PyData}, DpAll K B vs ds → ds[i]? = some d → ∃ v, vs[i]? = some v ∧ Dp K B v d
  | [], _, _, _, _, e => by simp at e
  | d :: ds, _, i, d', h, e => by
    cases h with
    | cons h1 h2 =>
      cases i with
      | zero => simp at e; subst e; exact ⟨_, rfl, h1⟩
      | succ i =>
        obtain ⟨v, e1, r⟩ := dpa_get h2 (by simpa using e)
        exact ⟨v, by simpa using e1, r⟩
theorem Reps.get : ∀ {as : List AV} {vs : List V} {i : Nat} {a : AV}, Reps K B ρ as vs → as[i]? = some a → ∃ v, vs[i]? = some v ∧ Rep K B ρ a v
  | _, _, _, _, .nil, e => by simp at e
  | _, _, 0, _, .cons r _, e => by simp at e; subst e; exact ⟨_, rfl, r⟩
  | _, _, i + 1, x, .cons _ t, e => by
    obtain ⟨u, h1, h2⟩ := Reps.get (i := i) (a := x) t (by simpa using e)
    exact ⟨u, by simpa using h1, h2⟩
theorem Reps.snoc {as : List AV} {vs : List V} (h : Reps K B ρ as vs) (r : Rep K B ρ a v) : Reps K B ρ (as ++ [a]) (vs ++ [v]) := Paired.snoc h r
theorem Reps.len {as : List AV} {vs : List V} (h : Reps K B ρ as vs) : as.length = vs.length := Paired.length h
theorem Reps.set : ∀ {as : List AV} {vs : List V} (i : Nat), Reps K B ρ as vs → Rep K B ρ a v → Reps K B ρ (as.set i a) (vs.set i v)
  | _, _, _, .nil, _ => .nil
  | _, _, 0, .cons _ t, r => .cons r t
  | _, _, i + 1, .cons q t, r => .cons q (Reps.set i t r)

/-! ### readings over data -/
/-- what is wanted behind -/
abbrev Nx (K : PySem.W.Frag) (B : Hp) (ρ : List Addr) (H : Hp) (R : AR) (Q : VK) : Prop := ∀ B' ρ' κ' H' a v, Up B ρ H B' ρ' H' → G K B' ρ' κ' H' → Rep K B' ρ' a v → R a κ' → Q v H'
theorem Nx.at0 {R : AR} {Q : VK} (q : Nx K B ρ H R Q) (g : G K B ρ κ H) (r : Rep K B ρ a v) (h : R a κ) : Q v H := q _ _ _ _ _ _ Up.refl g r h
theorem Nx.later {R : AR} {Q : VK} (q : Nx K B ρ H R Q) (u : Up B ρ H B' ρ' H') : Nx K B' ρ' H' R Q := fun _ _ _ _ _ _ u2 g r h => q _ _ _ _ _ _ (u.trans u2) g r h
def SE (K : PySem.W.Frag) (t : TE) (e : AE) : Prop := ∀ B ρ δ κ σ H (R : AR) (Q : VK), S K B ρ δ σ → G K B ρ κ H → e δ κ R → Nx K B ρ H R Q → t σ H Q
def ST (K : PySem.W.Frag) (t : TT) (e : AT) : Prop := ∀ B ρ δ κ σ H (R : Bool → AK → Prop) (Q : Bool → Hp → Prop), S K B ρ δ σ → G K B ρ κ H → e δ κ R →
  (∀ B' ρ' κ' H' b, Up B ρ H B' ρ' H' → G K B' ρ' κ' H' → R b κ' → Q b H') → t σ H Q
def SA (K : PySem.W.Frag) (t : TA) (e : AA) : Prop := ∀ B ρ δ κ σ H (R : List AV → AK → Prop) (Q : List V → Hp → Prop), S K B ρ δ σ → G K B ρ κ H → e δ κ R →
  (∀ B' ρ' κ' H' as vs, Up B ρ H B' ρ' H' → G K B' ρ' κ' H' → Reps K B' ρ' as vs → R as κ' → Q vs H') → t σ H Q
structure PEa (K : PySem.W.Frag) (X : Cx) (e : Expr) (t : TE) (f : AE) : Prop where
  pe : PE X e t
  sd : SE K t f
structure PTa (K : PySem.W.Frag) (X : Cx) (e : Expr) (t : TT) (f : AT) : Prop where
  pt : PT X e t
  sd : ST K t f
structure PWa (K : PySem.W.Frag) (X : Cx) (e : Expr) (t : TT) (f : AT) : Prop where
  pw : PW X e t
  sd : ST K t f
theorem PWa.pt {K : PySem.W.Frag} {X : Cx} {e : Expr} {t : TT} {f : AT} (h : PWa K X e t f) : PTa K X e t f := ⟨h.pw.pt, h.sd⟩
structure PAa (K : PySem.W.Frag) (X : Cx) (es : List Expr) (t : TA) (f : AA) : Prop where
  pa : PA X es t
  sd : SA K t f

/-! ### names, constants -/
def aVar (i : Nat) : AE := fun δ κ R => match δ[i]? with
  | some (some a) => R a κ
  | _ => False
def aC (a : AV) : AE := fun _ κ R => R a κ
theorem se_var {i : Nat} : SE K (tVar i) (aVar i) := fun B ρ δ κ σ H R Q s g h q => by
  unfold aVar at h
  split at h
  · rename_i a e
    obtain ⟨v, e1, r⟩ := s.at' i a e
    exact ⟨v, e1, q.at0 g r h⟩
  · exact h.elim
theorem se_c {v : V} {a : AV} (hr : ∀ B ρ, Rep K B ρ a v) : SE K (tC v) (aC a) := fun B ρ δ κ σ H R Q s g h q => q.at0 g (hr B ρ) h
section
variable {X : Cx} {e e2 : Expr} {t u : TE} {f f2 : AE} {pos : Pos}
theorem av (i : Nat) {x : Str} {pos : Pos} (hN : X.N[i]? = some x := by rfl) (hv : Vis X.env.scope x := by first | exact Or.inl rfl | exact Or.inr (Or.inl rfl) | exact Or.inr (Or.inr rfl)) (hd : (x == ("__debug__" : Str)) = false := by decide)
    (hcd : (x == ("__classdict__" : Str)) = false := by decide) : PEa K X (.Name x pos) (tVar i) (aVar i) := ⟨pv i hN hv hd hcd, se_var⟩
theorem ea_int {i : Int} {q : Pos} {j} : PEa K X (.Constant (.int i) j q) (tC (.int i)) (aC (.d (.int i))) := ⟨pe_int, se_c fun _ _ => .int i⟩
theorem ea_str {x : Str} {q : Pos} {j} : PEa K X (.Constant (.str x) j q) (tC (.str x)) (aC (.d (.str x))) := ⟨pe_str, se_c fun _ _ => .str x⟩
theorem ea_bl {x : Bool} {q : Pos} {j} : PEa K X (.Constant (.bool x) j q) (tC (.bl x)) (aC (.d (.bool x))) := ⟨pe_bl, se_c fun _ _ => .bl x⟩
theorem ea_non {q : Pos} {j} : PEa K X (.Constant .none j q) (tC .non) (aC (.d .none)) := ⟨pe_non, se_c fun _ _ => .non⟩
/-- a module's constant -/
theorem ea_glob {x : Str} {v : V} {u : Value} {d : PyData} {pos : Pos} (hg : Gl X x) (hm : X.mg x = some u) (r : RelV v u) (hd : ∀ B, Dp K B v d) (hdb : (x == ("__debug__" : Str)) = false := by decide) : PEa K X (.Name x pos) (tC v) (aC (.d d)) := ⟨pe_glob hg hm r hdb, se_c fun B _ => hd B⟩
/-- a built-in class as a value -/
theorem ea_ty {x : Str} {T : String} {pos : Pos} (hg : Gl X x) (hm : X.mg x = none) (hv : bootBuiltins x = some (.type T)) (hn : x ≠ "__name__" := by decide) (hdb : (x == ("__debug__" : Str)) = false := by decide) : PEa K X (.Name x pos) (tC (.ty T)) (aC (.r (.ty T))) := ⟨pe_bltn hg hm hv rfl hn hdb, se_c fun _ _ => rfl⟩
end
end Ab
set_option Elab.async false
set_option linter.all false
set_option maxRecDepth 100000
set_option maxHeartbeats 4000000
/-! Ab2: operators, comparisons, subscripts, built-in calls, methods -/
namespace Ab
open PySem L2
variable {K : PySem.W.Frag} {B B' B2 H H' H2 : Hp} {ρ ρ' ρ2 : List Addr} {κ κ' : AK} {δ : AD} {σ : L2.St} {p : Addr} {k : Nat} {v x y z : V} {a b c : AV}

abbrev AO := AV → AV → AK → AR → Prop
def SR (K : PySem.W.Frag) (r : R2) (f : AO) : Prop := ∀ B ρ κ H x y a b (R : AR) (Q : VK), G K B ρ κ H → Rep K B ρ a x → Rep K B ρ b y → f a b κ R → Nx K B ρ H R Q → r x y H Q
def SU (K : PySem.W.Frag) (r : V → Hp → VK → Prop) (f : AV → AK → AR → Prop) : Prop := ∀ B ρ κ H x a (R : AR) (Q : VK), G K B ρ κ H → Rep K B ρ a x → f a κ R → Nx K B ρ H R Q → r x H Q
def SL (K : PySem.W.Frag) (r : List V → Hp → VK → Prop) (f : List AV → AK → AR → Prop) : Prop := ∀ B ρ κ H xs as (R : AR) (Q : VK), G K B ρ κ H → Reps K B ρ as xs → f as κ R → Nx K B ρ H R Q → r xs H Q
def SM (K : PySem.W.Frag) (T : String) (r : V → List V → Hp → VK → Prop) (f : AV → List AV → AK → AR → Prop) : Prop := ∀ B ρ κ H x xs a as (R : AR) (Q : VK), G K B ρ κ H → Rep K B ρ a x → Reps K B ρ as xs → f a as κ R → Nx K B ρ H R Q → tyV K T x H ∧ r x xs H Q

def aOp (f : AO) (ea eb : AE) : AE := fun δ κ R => ea δ κ fun a κ1 => eb δ κ1 fun b κ2 => f a b κ2 R
def aUn (f : AV → AK → AR → Prop) (ea : AE) : AE := fun δ κ R => ea δ κ fun a κ1 => f a κ1 R
theorem se_op {r : R2} {f : AO} {ta tb : TE} {ea eb : AE} (hr : SR K r f) (ha : SE K ta ea) (hb : SE K tb eb) : SE K (tOp r ta tb) (aOp f ea eb) := fun B ρ δ κ σ H R Q s g h q =>
  ha B ρ δ κ σ H _ _ s g h fun B1 ρ1 κ1 H1 a x u1 g1 r1 h1 => hb B1 ρ1 δ κ1 σ H1 _ _ (s.up u1.g) g1 h1 fun B2 ρ2 κ2 H2 b y u2 g2 r2 h2 =>
    hr B2 ρ2 κ2 H2 x y a b R Q g2 (r1.up u2.g) r2 h2 fun B3 ρ3 κ3 H3 c z u3 g3 r3 h3 => q _ _ _ _ _ _ ((u1.trans u2).trans u3) g3 r3 h3
theorem se_un {r : V → Hp → VK → Prop} {f : AV → AK → AR → Prop} {ta : TE} {ea : AE} (hr : SU K r f) (ha : SE K ta ea) : SE K (tUn r ta) (aUn f ea) := fun B ρ δ κ σ H R Q s g h q =>
  ha B ρ δ κ σ H _ _ s g h fun B1 ρ1 κ1 H1 a x u1 g1 r1 h1 => hr B1 ρ1 κ1 H1 x a R Q g1 r1 h1 fun B3 ρ3 κ3 H3 c z u3 g3 r3 h3 => q _ _ _ _ _ _ (u1.trans u3) g3 r3 h3

theorem opr_or {X : Cx} {f : Value → Value → Sem Value} {r r' : R2} (h : OpR X f r) (h' : OpR X f r') : OpR X f (fun x y H Q => r x y H Q ∨ r' x y H Q) := fun pins s σ H x y v u Q I rx ry q => q.elim (h pins s σ H x y v u Q I rx ry) (h' pins s σ H x y v u Q I rx ry)
theorem callr_or {X : Cx} {f : Value} {r r' : List V → Hp → VK → Prop} (h : CallR X f r) (h' : CallR X f r') : CallR X f (fun xs H Q => r xs H Q ∨ r' xs H Q) := fun pins s σ H xs us Q I rx q => q.elim (h pins s σ H xs us Q I rx) (h' pins s σ H xs us Q I rx)

structure OpA (K : PySem.W.Frag) (X : Cx) (f : Value → Value → Sem Value) (r : R2) (g : AO) : Prop where
  op : OpR X f r
  sd : SR K r g
section
variable {X : Cx} {e e2 : Expr} {t u : TE} {f f2 : AE} {pos : Pos}
theorem ea_op {op : Operator} {r : R2} {g : AO} (ho : OpA K X (binaryOp op) r g) (h1 : PEa K X e t f) (h2 : PEa K X e2 u f2) : PEa K X (.BinOp e op e2 pos) (tOp r t u) (aOp g f f2) := ⟨pe_op ho.op h1.pe h2.pe, se_op ho.sd h1.sd h2.sd⟩
theorem ea_cmp {op : CmpOp} {r : R2} {g : AO} (ho : OpA K X (compareOp op) r g) (h1 : PEa K X e t f) (h2 : PEa K X e2 u f2) (hm : behindInMarks op e2 = false := by first | exact nomark _ | rfl) : PEa K X (.Compare e [op] [e2] pos) (tOp r t u) (aOp g f f2) := ⟨pe_cmpR ho.op h1.pe h2.pe hm, se_op ho.sd h1.sd h2.sd⟩
theorem ea_un {op : UnaryOp} {r : V → Hp → VK → Prop} {g : AV → AK → AR → Prop} (ho : UnR X (unaryOp op) r) (hs : SU K r g) (h1 : PEa K X e t f) : PEa K X (.UnaryOp op e pos) (tUn r t) (aUn g f) := ⟨pe_un ho h1.pe, se_un hs h1.sd⟩

/-! ### numbers, texts -/
def aAdd : AO := fun a b κ R => match a, b with
  | .d (.int i), .d (.int j) => R (.d (.int (i + j))) κ
  | .d (.str s), .d (.str t) => s.length + t.length ≤ sizeLine ∧ R (.d (.str (s ++ t))) κ
  | .d (.tuple xs), .d (.tuple ys) => xs.length + ys.length ≤ sizeLine ∧ R (.d (.tuple (xs ++ ys))) κ
  | _, _ => False
theorem rp_int (i : Int) : Rep K B ρ (.d (.int i)) (.int i) := Dp.int i
theorem rp_str (i : Str) : Rep K B ρ (.d (.str i)) (.str i) := Dp.str i
theorem rp_bl (i : Bool) : Rep K B ρ (.d (.bool i)) (.bl i) := Dp.bl i
theorem rp_non : Rep K B ρ (.d .none) .non := Dp.non
theorem Rep.int {i : Int} (h : Rep K B ρ (.d (.int i)) v) : v = .int i := by cases h; rfl
theorem Rep.str {i : Str} (h : Rep K B ρ (.d (.str i)) v) : v = .str i := by cases h; rfl
theorem Rep.bool {i : Bool} (h : Rep K B ρ (.d (.bool i)) v) : v = .bl i := by cases h; rfl
theorem Rep.non (h : Rep K B ρ (.d .none) v) : v = .non := by cases h; rfl
theorem Rep.list {ds : List PyData} (h : Rep K B ρ (.d (.list ds)) v) : ∃ p xs, v = .ref p ∧ SqL K B p xs ∧ DpAll K B xs ds := by
  cases h with
  | lst hs ha => exact ⟨_, _, rfl, hs, ha⟩
theorem Rep.tuple {ds : List PyData} (h : Rep K B ρ (.d (.tuple ds)) v) : ∃ p xs, v = .ref p ∧ SqT K B p xs ∧ DpAll K B xs ds := by
  cases h with
  | tup hs ha => exact ⟨_, _, rfl, hs, ha⟩
theorem sqt_up (s : Same B B') {xs : List V} (h : SqT K B p xs) : SqT K B' p xs := by
  rcases h with (h | ⟨o, h⟩) | h
  · exact .inl (.inl (s _ _ h))
  · exact .inl (.inr ⟨o, s _ _ h⟩)
  · exact .inr h
theorem dpa_app : ∀ {ds es : List PyData} {vs us : List V}, DpAll K B vs ds → DpAll K B us es → DpAll K B (vs ++ us) (ds ++ es)
  | [], _, _, _, h, h2 => by cases h; exact h2
  | d :: ds, _, _, _, h, h2 => by
    cases h with
    | cons a b => exact .cons a (dpa_app b h2)
theorem of_listG (g : G K B ρ κ H) {ds : List PyData} (h : Rep K B ρ (.d (.list ds)) v) : ∃ p xs, v = .ref p ∧ SqL K H p xs ∧ DpAll K B xs ds := by
  obtain ⟨p, xs, e, h1, h2⟩ := h.list; exact ⟨p, xs, e, g.ex.seq h1, h2⟩
theorem of_tupG (g : G K B ρ κ H) {ds : List PyData} (h : Rep K B ρ (.d (.tuple ds)) v) : ∃ p xs, v = .ref p ∧ SqT K H p xs ∧ DpAll K B xs ds := by
  obtain ⟨p, xs, e, h1, h2⟩ := h.tuple; exact ⟨p, xs, e, sqt_up g.ex h1, h2⟩
theorem new_tup (g : G K B ρ κ H) (n : H p = none) {ds : List PyData} {vs : List V} (h : DpAll K B vs ds) : Up B ρ H (upd B p (.tup vs)) ρ (upd H p (.tup vs)) ∧ G K (upd B p (.tup vs)) ρ κ (upd H p (.tup vs)) ∧ Rep K (upd B p (.tup vs)) ρ (.d (.tuple ds)) (.ref p) := by
  obtain ⟨u, g'⟩ := g.data n (o := .tup vs)
  exact ⟨u, g', .tup (.inl (.inl upd_same)) (dpa_up u.s _ _ h)⟩
theorem new_lst (g : G K B ρ κ H) (n : H p = none) {ds : List PyData} {vs : List V} (h : DpAll K B vs ds) : Up B ρ H (upd B p (.lst vs)) ρ (upd H p (.lst vs)) ∧ G K (upd B p (.lst vs)) ρ κ (upd H p (.lst vs)) ∧ Rep K (upd B p (.lst vs)) ρ (.d (.list ds)) (.ref p) := by
  obtain ⟨u, g'⟩ := g.data n (o := .lst vs)
  exact ⟨u, g', .lst (.inl (.inl upd_same)) (dpa_up u.s _ _ h)⟩
/-- a new list of data as a cell -/
theorem new_ld (g : G K B ρ κ H) (n : H p = none) {as : List PyData} {vs : List V} (h : DpAll K B vs as) : Up B ρ H B (ρ ++ [p]) (upd H p (.lst vs)) ∧ G K B (ρ ++ [p]) (κ ++ [.ld as]) (upd H p (.lst vs)) ∧ Rep K B (ρ ++ [p]) (.c κ.length) (.ref p) :=
  ⟨g.allocUp n, g.alloc n (show CellOk K B ρ _ p (.ld as) from ⟨g.fresh n, vs, h, upd_same⟩), rep_new g⟩
/-- a new list as a cell -/
theorem new_cell (g : G K B ρ κ H) (n : H p = none) {as : List AV} {vs : List V} (h : Reps K B ρ as vs) : Up B ρ H B (ρ ++ [p]) (upd H p (.lst vs)) ∧ G K B (ρ ++ [p]) (κ ++ [.lst as]) (upd H p (.lst vs)) ∧ Rep K B (ρ ++ [p]) (.c κ.length) (.ref p) :=
  ⟨g.allocUp n, g.alloc n ⟨g.fresh n, vs, h, upd_same⟩, rep_new g⟩
theorem new_tcell (g : G K B ρ κ H) (n : H p = none) {as : List AV} {vs : List V} (h : Reps K B ρ as vs) : Up B ρ H B (ρ ++ [p]) (upd H p (.tup vs)) ∧ G K B (ρ ++ [p]) (κ ++ [.tup as]) (upd H p (.tup vs)) ∧ Rep K B (ρ ++ [p]) (.c κ.length) (.ref p) :=
  ⟨g.allocUp n, g.alloc n ⟨g.fresh n, vs, h, upd_same⟩, rep_new g⟩
theorem ne_nil_of {ds : List PyData} {vs : List V} (h : DpAll K B vs ds) (n : ds ≠ []) : vs ≠ [] := fun e => by
  subst e
  have := dpa_len h
  cases ds with
  | nil => exact n rfl
  | cons _ _ => simp at this


def rAddA (K : PySem.W.Frag) : R2 := fun x y H Q => rI0 (fun i j => .int (i + j)) x y H Q ∨ ((fun x y H Q => ∃ i j, x = .str i ∧ y = .str j ∧ i.length + j.length ≤ sizeLine ∧ Q (.str (i ++ j)) H) : R2) x y H Q ∨ rCatA K x y H Q
theorem oa_add (hK : X.K = K := by rfl) : OpA K X (binaryOp .Add) (rAddA K) aAdd := by
  subst hK
  refine ⟨opr_or op_add (opr_or op_add_str op_catA), ?_⟩
  intro B ρ κ H x y a b R Q g rx ry h q
  unfold aAdd at h
  split at h
  · rename_i i j
    exact .inl ⟨i, j, rx.int, ry.int, q.at0 g (rp_int _) h⟩
  · rename_i s t
    exact .inr (.inl ⟨s, t, rx.str, ry.str, h.1, q.at0 g (rp_str _) h.2⟩)
  · rename_i xs ys
    obtain ⟨p, vs, rfl, s1, d1⟩ := of_tupG g rx
    obtain ⟨p', vs', rfl, s2, d2⟩ := of_tupG g ry
    have e1 := dpa_len d1
    have e2 := dpa_len d2
    obtain ⟨h1, h2⟩ : xs.length + ys.length ≤ sizeLine ∧ R (.d (.tuple (xs ++ ys))) κ := h
    refine .inr (.inr ⟨_, _, vs, vs', rfl, rfl, s1, s2, by omega, fun z => ?_, fun _ z => ?_, fun _ _ p hp => ?_⟩)
    · subst z
      cases xs with
      | nil => exact q.at0 g ry h2
      | cons _ _ => simp at e1
    · subst z
      cases ys with
      | nil => rw [List.append_nil] at h2; exact q.at0 g rx h2
      | cons _ _ => simp at e2
    · obtain ⟨u, g', r⟩ := new_tup g hp (dpa_app d1 d2)
      exact q _ _ _ _ _ _ u g' r h2
  · exact h.elim
/-- numbers in, a number out -/
def aI (C : Int → Int → Prop) (f : Int → Int → Int) : AO := fun a b κ R => match a, b with
  | .d (.int i), .d (.int j) => C i j ∧ R (.d (.int (f i j))) κ
  | _, _ => False
def aI0 (f : Int → Int → Int) : AO := fun a b κ R => match a, b with
  | .d (.int i), .d (.int j) => R (.d (.int (f i j))) κ
  | _, _ => False
theorem sr_I {C : Int → Int → Prop} {f : Int → Int → Int} : SR K (rI C fun i j => .int (f i j)) (aI C f) := by
  intro B ρ κ H x y a b R Q g rx ry h q
  unfold aI at h
  split at h
  · exact ⟨_, _, rx.int, ry.int, h.1, q.at0 g (rp_int _) h.2⟩
  · exact h.elim
theorem sr_I0 {f : Int → Int → Int} : SR K (rI0 fun i j => .int (f i j)) (aI0 f) := by
  intro B ρ κ H x y a b R Q g rx ry h q
  unfold aI0 at h
  split at h
  · exact ⟨_, _, rx.int, ry.int, q.at0 g (rp_int _) h⟩
  · exact h.elim
abbrev aSub : AO := aI0 fun i j => i - j
abbrev aMul : AO := aI CMul fun i j => i * j
abbrev aMod : AO := aI (fun _ j => 0 < j) fun i j => i % j
abbrev aDiv : AO := aI CDiv fun i j => i / j
abbrev aPow : AO := aI CPow fun i j => i ^ j.toNat
theorem oa_sub : OpA K X (binaryOp .Sub) (rI0 fun i j => .int (i - j)) aSub := ⟨op_sub, sr_I0⟩
theorem oa_mul : OpA K X (binaryOp .Mult) (rI CMul fun i j => .int (i * j)) aMul := ⟨op_mul, sr_I⟩
theorem oa_mod : OpA K X (binaryOp .Mod) (rI (fun _ j => 0 < j) fun i j => .int (i % j)) aMod := ⟨op_mod, sr_I⟩
theorem oa_div : OpA K X (binaryOp .FloorDiv) (rI CDiv fun i j => .int (i / j)) aDiv := ⟨op_fdiv, sr_I⟩
theorem oa_pow : OpA K X (binaryOp .Pow) (rI CPow fun i j => .int (i ^ j.toNat)) aPow := ⟨op_pow, sr_I⟩
def aCmpI (f : Int → Int → Bool) : AO := fun a b κ R => match a, b with
  | .d (.int i), .d (.int j) => R (.d (.bool (f i j))) κ
  | _, _ => False
theorem sr_cmpI {f : Int → Int → Bool} : SR K (rI0 fun i j => .bl (f i j)) (aCmpI f) := by
  intro B ρ κ H x y a b R Q g rx ry h q
  unfold aCmpI at h
  split at h
  · exact ⟨_, _, rx.int, ry.int, q.at0 g (rp_bl _) h⟩
  · exact h.elim
abbrev aLt : AO := aCmpI fun i j => decide (i < j)
abbrev aLe : AO := aCmpI fun i j => decide (i ≤ j)
abbrev aGt : AO := aCmpI fun i j => decide (j < i)
abbrev aGe : AO := aCmpI fun i j => decide (j ≤ i)
theorem oa_lt : OpA K X (compareOp .Lt) (rI0 fun i j => .bl (decide (i < j))) aLt := ⟨op_lt, sr_cmpI⟩
theorem oa_le : OpA K X (compareOp .LtE) (rI0 fun i j => .bl (decide (i ≤ j))) aLe := ⟨op_le, sr_cmpI⟩
theorem oa_gt : OpA K X (compareOp .Gt) (rI0 fun i j => .bl (decide (j < i))) aGt := ⟨op_gt, sr_cmpI⟩
theorem oa_ge : OpA K X (compareOp .GtE) (rI0 fun i j => .bl (decide (j ≤ i))) aGe := ⟨op_ge, sr_cmpI⟩

/-! ### == -/
def aEqB (n : Bool → Bool) : AO := fun a b κ R => match a, b with
  | .d (.int i), .d (.int j) => R (.d (.bool (n (decide (i = j))))) κ
  | .d (.str i), .d (.str j) => R (.d (.bool (n (decide (i = j))))) κ
  | .d (.bool i), .d (.bool j) => R (.d (.bool (n (decide (i = j))))) κ
  | .d x, .d y => SeqAt.shaped x = true ∧ SeqAt.shaped y = true ∧ R (.d (.bool (n (PyData.eqv x y)))) κ
  | _, _ => False
abbrev aEq : AO := aEqB id
abbrev aNe : AO := aEqB not
theorem dec_inj {α β : Type} [DecidableEq α] [DecidableEq β] (f : α → β) (hf : ∀ a b, f a = f b → a = b) (a b : α) : decide (f a = f b) = decide (a = b) := by
  by_cases h : a = b
  · subst h; simp
  · rw [decide_eq_false h, decide_eq_false (fun z => h (hf _ _ z))]
theorem dp_G (g : G K B ρ κ H) {d : PyData} (h : Rep K B ρ (.d d) v) : Dp K H v d := dp_up g.ex d v h
def rEqA (K : PySem.W.Frag) : R2 := fun x y H Q => rEq x y H Q ∨ rEqD K x y H Q
def rNeA (K : PySem.W.Frag) : R2 := fun x y H Q => rNe x y H Q ∨ rNeD K x y H Q
theorem oa_eq {l : Nat} (hr : Room l X.A) (hK : X.K = K := by rfl) : OpA K X (compareOp .Eq) (rEqA K) aEq := by
  subst hK
  refine ⟨opr_or op_eq (op_eqD hr.units), ?_⟩
  intro B ρ κ H x y a b R Q g rx ry h q
  have h : aEqB _ a b κ R := h
  unfold aEqB at h
  split at h
  · cases rx.int; cases ry.int
    refine .inl ⟨rfl, ?_⟩
    rw [dec_inj V.int fun _ _ e => V.int.inj e]
    exact q.at0 g (rp_bl _) h
  · cases rx.str; cases ry.str
    refine .inl ⟨rfl, ?_⟩
    rw [dec_inj V.str fun _ _ e => V.str.inj e]
    exact q.at0 g (rp_bl _) h
  · cases rx.bool; cases ry.bool
    refine .inl ⟨rfl, ?_⟩
    rw [dec_inj V.bl fun _ _ e => V.bl.inj e]
    exact q.at0 g (rp_bl _) h
  · exact .inr ⟨_, _, dp_G g rx, dp_G g ry, h.1, h.2.1, q.at0 g (rp_bl _) h.2.2⟩
  · exact h.elim
theorem oa_ne {l : Nat} (hr : Room l X.A) (hK : X.K = K := by rfl) : OpA K X (compareOp .NotEq) (rNeA K) aNe := by
  subst hK
  refine ⟨opr_or op_ne (op_neD hr.units), ?_⟩
  intro B ρ κ H x y a b R Q g rx ry h q
  have h : aEqB _ a b κ R := h
  unfold aEqB at h
  split at h
  · cases rx.int; cases ry.int
    refine .inl ⟨rfl, ?_⟩
    rw [dec_inj V.int fun _ _ e => V.int.inj e]
    exact q.at0 g (rp_bl _) h
  · cases rx.str; cases ry.str
    refine .inl ⟨rfl, ?_⟩
    rw [dec_inj V.str fun _ _ e => V.str.inj e]
    exact q.at0 g (rp_bl _) h
  · cases rx.bool; cases ry.bool
    refine .inl ⟨rfl, ?_⟩
    rw [dec_inj V.bl fun _ _ e => V.bl.inj e]
    exact q.at0 g (rp_bl _) h
  · exact .inr ⟨_, _, dp_G g rx, dp_G g ry, h.1, h.2.1, q.at0 g (rp_bl _) h.2.2⟩
  · exact h.elim
/-- is None, is not None -/
def aIsN (n : Bool → Bool) : AO := fun a b κ R => match a, b with
  | .d .none, .d .none => R (.d (.bool (n true))) κ
  | .d _, .d .none => R (.d (.bool (n false))) κ
  | .c _, .d .none => R (.d (.bool (n false))) κ
  | _, _ => False
theorem sr_isN {n : Bool → Bool} : SR K (fun x y H Q => y = .non ∧ Q (.bl (n (decide (x = .non)))) H) (aIsN n) := by
  intro B ρ κ H x y a b R Q g rx ry h q
  unfold aIsN at h
  split at h
  · cases rx.non
    exact ⟨ry.non, q.at0 g (rp_bl _) h⟩
  · rename_i d hd
    refine ⟨ry.non, ?_⟩
    have e : x ≠ .non := by
      intro e; subst e
      have rx' : Dp K B .non d := rx
      cases rx' with
      | non => exact hd rfl
    rw [decide_eq_false e]
    exact q.at0 g (rp_bl _) h
  · obtain ⟨p, _, rfl⟩ := rx
    exact ⟨ry.non, q.at0 g (rp_bl _) h⟩
  · exact h.elim
theorem oa_is : OpA K X (compareOp .Is) (fun x y H Q => y = .non ∧ Q (.bl (decide (x = .non))) H) (aIsN id) := ⟨op_isN, sr_isN (n := id)⟩
theorem oa_isnot : OpA K X (compareOp .IsNot) (fun x y H Q => y = .non ∧ Q (.bl (!decide (x = .non))) H) (aIsN not) := ⟨op_notN, sr_isN (n := not)⟩

/-! ### in -/
def flatD : PyData → Bool
  | .none => true | .bool _ => true | .int _ => true | .str _ => true | _ => false
def eqF : PyData → PyData → Bool
  | .none, .none => true
  | .bool a, .bool b => a == b
  | .bool a, .int b => (if a then 1 else 0) == b
  | .int a, .bool b => a == (if b then 1 else 0)
  | .int a, .int b => a == b
  | .str a, .str b => a == b
  | _, _ => false
def inD (x : PyData) (xs : List PyData) : Bool := xs.any fun y => eqF y x
theorem dp_flat {d : PyData} (h : Dp K B v d) (f : flatD d = true) : flatV v = true ∧ ∀ {w : V} {e : PyData}, Dp K B w e → flatD e = true → eqV v w = eqF d e := by
  cases h <;> first
    | exact ⟨rfl, fun hw hf => by cases hw <;> first | rfl | exact absurd (show false = true from hf) Bool.false_ne_true⟩
    | exact absurd (show false = true from f) Bool.false_ne_true
theorem dpa_flat : ∀ {ds : List PyData} {vs : List V}, DpAll K B vs ds → ds.all flatD = true → vs.all flatV = true
  | [], _, h, _ => by cases h; rfl
  | d :: ds, _, h, f => by
    cases h with
    | cons h1 h2 =>
      rw [List.all_cons, Bool.and_eq_true] at f ⊢
      exact ⟨(dp_flat h1 f.1).1, dpa_flat h2 f.2⟩
theorem inV_D {d : PyData} (h : Dp K B v d) (f : flatD d = true) : ∀ {ds : List PyData} {vs : List V}, DpAll K B vs ds → ds.all flatD = true → inV v vs = inD d ds
  | [], _, h2, _ => by cases h2; rfl
  | e :: ds, _, h2, f2 => by
    cases h2 with
    | cons h1 h3 =>
      rw [List.all_cons, Bool.and_eq_true] at f2
      show (eqV _ v || inV v _) = (eqF e d || inD d ds)
      rw [inV_D h f h3 f2.2, (dp_flat h1 f2.1).2 h f]
/-- one sign in a text; a flat thing in a list or tuple of flat things -/
def aIn (n : Bool → Bool) : AO := fun a b κ R => match a, b with
  | .d (.str s), .d (.str t) => ∃ c, s.cps.toList = [c] ∧ R (.d (.bool (n (decide (c ∈ t.cps.toList))))) κ
  | .d x, .d (.tuple ys) => flatD x = true ∧ ys.all flatD = true ∧ R (.d (.bool (n (inD x ys)))) κ
  | .d x, .d (.list ys) => flatD x = true ∧ ys.all flatD = true ∧ R (.d (.bool (n (inD x ys)))) κ
  | .d x, .c k => match κ[k]? with
    | some (.ld ys) => flatD x = true ∧ ys.all flatD = true ∧ R (.d (.bool (n (inD x ys)))) κ
    | _ => False
  | _, _ => False
def rInA (K : PySem.W.Frag) (b : Bool) : R2 := fun x y H Q => ((fun x y H Q => ∃ (c : Nat) (z : Str), x = .str ⟨#[c]⟩ ∧ y = .str z ∧ Q (.bl (if b then !decide (c ∈ z.cps.toList) else decide (c ∈ z.cps.toList))) H) : R2) x y H Q ∨ rIn K b x y H Q
theorem str_one {s : Str} {c : Nat} (h : s.cps.toList = [c]) : s = ⟨#[c]⟩ := by
  obtain ⟨a⟩ := s
  congr 1
  exact Array.toList_inj.mp h
theorem sr_in {nb : Bool} {n : Bool → Bool} (hn : ∀ b, (if nb then !b else b) = n b) : SR K (rInA K nb) (aIn n) := by
  intro B ρ κ H x y a b R Q g rx ry h q
  unfold aIn at h
  split at h
  · rename_i s t
    obtain ⟨c, e, h⟩ := h
    cases rx.str; cases ry.str
    refine .inl ⟨c, t, by rw [str_one e], rfl, ?_⟩
    rw [hn]
    exact q.at0 g (rp_bl _) h
  · rename_i d ys
    obtain ⟨p, vs, rfl, s1, d1⟩ := of_tupG g ry
    obtain ⟨f1, f2, h⟩ := h
    refine .inr ⟨p, vs, rfl, .inr s1, (dp_flat rx f1).1, dpa_flat d1 f2, ?_⟩
    rw [hn, inV_D rx f1 d1 f2]
    exact q.at0 g (rp_bl _) h
  · rename_i d ys
    obtain ⟨p, vs, rfl, s1, d1⟩ := of_listG g ry
    obtain ⟨f1, f2, h⟩ := h
    refine .inr ⟨p, vs, rfl, .inl s1, (dp_flat rx f1).1, dpa_flat d1 f2, ?_⟩
    rw [hn, inV_D rx f1 d1 f2]
    exact q.at0 g (rp_bl _) h
  · rename_i d k
    obtain ⟨p, hp, rfl⟩ := ry
    split at h
    · rename_i ys ek
      obtain ⟨f1, f2, h⟩ := h
      obtain ⟨p', hp', _, vs, d1, eH⟩ := g.cell ek
      rw [hp] at hp'; cases hp'
      refine .inr ⟨p, vs, rfl, .inl (.inl (.inl eH)), (dp_flat rx f1).1, dpa_flat d1 f2, ?_⟩
      rw [hn, inV_D rx f1 d1 f2]
      exact q.at0 g (rp_bl _) h
    · exact h.elim
  · exact h.elim
theorem oa_in (hK : X.K = K := by rfl) : OpA K X (compareOp .In) (rInA K false) (aIn id) := by
  subst hK
  exact ⟨opr_or (by intro pins s σ H x y v u Q I rx ry h; exact op_in_sign pins s σ H x y v u Q I rx ry h) op_in_seq, sr_in fun b => by cases b <;> rfl⟩
theorem oa_notin (hK : X.K = K := by rfl) : OpA K X (compareOp .NotIn) (rInA K true) (aIn not) := by
  subst hK
  exact ⟨opr_or (by intro pins s σ H x y v u Q I rx ry h; exact op_notIn_sign pins s σ H x y v u Q I rx ry h) op_notIn_seq, sr_in fun b => by cases b <;> rfl⟩
end
end Ab
set_option Elab.async false
set_option linter.all false
set_option maxRecDepth 100000
set_option maxHeartbeats 4000000
/-! Ab3: subscripts, slices, built-in calls, methods, displays, and, or, not, tests -/
namespace Ab
open PySem L2
variable {K : PySem.W.Frag} {B B' B2 H H' H2 : Hp} {ρ ρ' ρ2 : List Addr} {κ κ' : AK} {δ : AD} {σ : L2.St} {p : Addr} {k : Nat} {v x y z : V} {a b c : AV}
variable {X : Cx} {e e2 : Expr} {t u : TE} {f f2 : AE} {pos : Pos}

/-! ### a[i] -/
def aIx : AO := fun a b κ R => match a, b with
  | .d (.list xs), .d (.int i) => ∃ w, atI xs i = some w ∧ R (.d w) κ
  | .d (.tuple xs), .d (.int i) => ∃ w, atI xs i = some w ∧ R (.d w) κ
  | .d (.str s), .d (.int i) => ∃ c, s.length ≤ sizeLine ∧ atI s.cps.toList i = some c ∧ R (.d (.str ⟨#[c]⟩)) κ
  | .c k, .d (.int i) => match κ[k]? with
    | some (.ld xs) => ∃ w, atI xs i = some w ∧ R (.d w) κ
    | some (.lst xs) => ∃ w, atI xs i = some w ∧ R w κ
    | some (.tup xs) => ∃ w, atI xs i = some w ∧ R w κ
    | _ => False
  | _, _ => False
theorem atI_iff {α : Type} {xs : List α} {i : Int} {w : α} (h : atI xs i = some w) : ∃ j, ixN xs.length i = some j ∧ xs[j]? = some w := by
  unfold atI at h
  cases e : ixN xs.length i with
  | none => rw [e] at h; cases h
  | some j => rw [e] at h; exact ⟨j, rfl, h⟩
theorem atI_mk {α : Type} {xs : List α} {i : Int} {j : Nat} {w : α} (h : ixN xs.length i = some j) (h2 : xs[j]? = some w) : atI xs i = some w := by
  unfold atI; rw [h]; exact h2
theorem dpa_at {ds : List PyData} {vs : List V} {i : Int} {w : PyData} (h : DpAll K B vs ds) (e : atI ds i = some w) : ∃ v, atI vs i = some v ∧ Dp K B v w := by
  obtain ⟨j, h1, h2⟩ := atI_iff e
  obtain ⟨v, h3, h4⟩ := dpa_get h h2
  exact ⟨v, atI_mk (by rw [dpa_len h]; exact h1) h3, h4⟩
theorem reps_at {as : List AV} {vs : List V} {i : Int} {w : AV} (h : Reps K B ρ as vs) (e : atI as i = some w) : ∃ v, atI vs i = some v ∧ Rep K B ρ w v := by
  obtain ⟨j, h1, h2⟩ := atI_iff e
  obtain ⟨v, h3, h4⟩ := h.get h2
  exact ⟨v, atI_mk (by rw [← h.len]; exact h1) h3, h4⟩
theorem sr_ix : SR K (rIx K) aIx := by
  intro B ρ κ H x y a b R Q g rx ry h q
  unfold aIx at h
  split at h
  · obtain ⟨w, e, h⟩ := h
    obtain ⟨p, vs, rfl, s1, d1⟩ := of_listG g rx
    obtain ⟨v, e1, r1⟩ := dpa_at d1 e
    cases ry.int
    exact .inl ⟨p, vs, _, v, rfl, rfl, s1, e1, q.at0 (a := .d w) g r1 h⟩
  · obtain ⟨w, e, h⟩ := h
    obtain ⟨p, vs, rfl, s1, d1⟩ := of_tupG g rx
    obtain ⟨v, e1, r1⟩ := dpa_at d1 e
    cases ry.int
    exact .inr (.inl ⟨p, vs, _, v, rfl, rfl, s1, e1, q.at0 (a := .d w) g r1 h⟩)
  · obtain ⟨c, l, e, h⟩ := h
    cases rx.str; cases ry.int
    exact .inr (.inr ⟨_, _, c, rfl, rfl, l, e, q.at0 g (rp_str _) h⟩)
  · rename_i k i
    cases ry.int
    obtain ⟨p, hp, rfl⟩ := rx
    split at h
    · rename_i xs ek
      obtain ⟨w, e, h⟩ := h
      obtain ⟨p', hp', _, vs, r, eH⟩ := g.cell ek
      rw [hp] at hp'; cases hp'
      obtain ⟨v, e1, r1⟩ := dpa_at r e
      exact .inl ⟨p, vs, _, v, rfl, rfl, .inl (.inl eH), e1, q.at0 (a := .d w) g r1 h⟩
    · rename_i xs ek
      obtain ⟨w, e, h⟩ := h
      obtain ⟨p', hp', _, vs, r, eH⟩ := g.cell ek
      rw [hp] at hp'; cases hp'
      obtain ⟨v, e1, r1⟩ := reps_at r e
      exact .inl ⟨p, vs, _, v, rfl, rfl, .inl (.inl eH), e1, q.at0 g r1 h⟩
    · rename_i xs ek
      obtain ⟨w, e, h⟩ := h
      obtain ⟨p', hp', _, vs, r, eH⟩ := g.cell ek
      rw [hp] at hp'; cases hp'
      obtain ⟨v, e1, r1⟩ := reps_at r e
      exact .inr (.inl ⟨p, vs, _, v, rfl, rfl, .inl (.inl eH), e1, q.at0 g r1 h⟩)
    · exact h.elim
  · exact h.elim
theorem ea_ix (h1 : PEa K X e t f) (h2 : PEa K X e2 u f2) (hs : PlainIx e2 := by exact fun _ _ => rfl) (hK : X.K = K := by rfl) : PEa K X (.Subscript e e2 pos) (tOp (rIx K) t u) (aOp aIx f f2) := by
  subst hK
  exact ⟨pe_ix ix_seq h1.pe h2.pe hs, se_op sr_ix h1.sd h2.sd⟩

/-! ### slices -/
abbrev AOp := AD → AK → (Option Int → AK → Prop) → Prop
def aNoPart : AOp := fun _ κ R => R none κ
def aPart (f : AE) : AOp := fun δ κ R => f δ κ fun a κ1 => match a with
  | .d (.int i) => R (some i) κ1
  | _ => False
def SO (K : PySem.W.Frag) (t : TO) (e : AOp) : Prop := ∀ B ρ δ κ σ H (R : Option Int → AK → Prop) (Q : Option Int → Hp → Prop), S K B ρ δ σ → G K B ρ κ H → e δ κ R →
  (∀ B' ρ' κ' H' o, Up B ρ H B' ρ' H' → G K B' ρ' κ' H' → R o κ' → Q o H') → t σ H Q
structure POa (K : PySem.W.Frag) (X : Cx) (e : Option Expr) (t : TO) (f : AOp) : Prop where
  po : PO X e t
  sd : SO K t f
theorem oa_none : POa K X none tNoPart aNoPart := ⟨po_none, fun B ρ δ κ σ H R Q s g h q => q _ _ _ _ _ Up.refl g h⟩
theorem oa_some (h : PEa K X e t f) : POa K X (some e) (tPart t) (aPart f) := ⟨po_some h.pe, fun B ρ δ κ σ H R Q s g hh q =>
  h.sd B ρ δ κ σ H _ _ s g hh fun B1 ρ1 κ1 H1 a x u1 g1 r1 h1 => by
    split at h1
    · exact ⟨_, r1.int, q _ _ _ _ _ u1 g1 h1⟩
    · exact h1.elim⟩
def cutD {α : Type} (xs : List α) (lo hi : Option Int) : List α := (xs.drop (HT.sIx xs.length 0 lo)).take (HT.sIx xs.length xs.length hi - HT.sIx xs.length 0 lo)
def aSl (f : AE) (l h : AOp) : AE := fun δ κ R => f δ κ fun a κ1 => l δ κ1 fun lo κ2 => h δ κ2 fun hi κ3 => match a with
  | .d (.str s) => s.length ≤ sizeLine ∧ R (.d (.str (cutS s lo hi))) κ3
  | .d (.list xs) => R (.d (.list (cutD xs lo hi))) κ3
  | .c k => match κ3[k]? with
    | some (.ld xs) => R (.c κ3.length) (κ3 ++ [.ld (cutD xs lo hi)])
    | some (.lst xs) => R (.c κ3.length) (κ3 ++ [.lst (cutD xs lo hi)])
    | _ => False
  | _ => False
def rSlG (K : PySem.W.Frag) : V → Option Int → Option Int → Hp → VK → Prop := fun x lo hi H Q => rSlS x lo hi H Q ∨ rSlL K x lo hi H Q
theorem sl_or {r r' : V → Option Int → Option Int → Hp → VK → Prop} (h : SlR X r) (h' : SlR X r') : SlR X (fun x lo hi H Q => r x lo hi H Q ∨ r' x lo hi H Q) := by
  intro pins s σ H x v vl vu lo hi sl Q I rx hs pl pu q
  rcases q with q | q
  · exact h pins s σ H x v vl vu lo hi sl Q I rx hs pl pu q
  · exact h' pins s σ H x v vl vu lo hi sl Q I rx hs pl pu q
theorem dpa_take : ∀ {ds : List PyData} {vs : List V} (n : Nat), DpAll K B vs ds → DpAll K B (vs.take n) (ds.take n)
  | [], _, n, h => by cases h; simp; exact .nil
  | d :: ds, _, n, h => by
    cases h with
    | cons h1 h2 =>
      cases n with
      | zero => exact .nil
      | succ n => exact .cons h1 (dpa_take n h2)
theorem dpa_drop : ∀ {ds : List PyData} {vs : List V} (n : Nat), DpAll K B vs ds → DpAll K B (vs.drop n) (ds.drop n)
  | [], _, n, h => by cases h; simp; exact .nil
  | d :: ds, _, n, h => by
    cases h with
    | cons h1 h2 =>
      cases n with
      | zero => exact .cons h1 h2
      | succ n => exact dpa_drop n h2
theorem Reps.take : ∀ {ds : List AV} {vs : List V} (n : Nat), Reps K B ρ ds vs → Reps K B ρ (ds.take n) (vs.take n)
  | _, _, 0, _ => .nil
  | _, _, _ + 1, .nil => .nil
  | _, _, n + 1, .cons r t => .cons r (Reps.take n t)
theorem Reps.drop : ∀ {ds : List AV} {vs : List V} (n : Nat), Reps K B ρ ds vs → Reps K B ρ (ds.drop n) (vs.drop n)
  | _, _, 0, r => r
  | _, _, _ + 1, .nil => .nil
  | _, _, n + 1, .cons _ t => Reps.drop n t
theorem dpa_cut {ds : List PyData} {vs : List V} (h : DpAll K B vs ds) (lo hi : Option Int) : DpAll K B (cutV vs lo hi) (cutD ds lo hi) := by
  unfold cutV cutD
  rw [dpa_len h]
  exact dpa_take _ (dpa_drop _ h)
theorem Reps.cut {ds : List AV} {vs : List V} (h : Reps K B ρ ds vs) (lo hi : Option Int) : Reps K B ρ (cutD ds lo hi) (cutV vs lo hi) := by
  unfold cutV cutD
  rw [← h.len]
  exact Reps.take _ (Reps.drop _ h)
theorem ea_slice {lo hi : Option Expr} {p2 : Pos} {tl th : TO} {fl fh : AOp} (h1 : PEa K X e t f) (hl : POa K X lo tl fl) (hh : POa K X hi th fh) (hK : X.K = K := by rfl) :
    PEa K X (.Subscript e (.Slice lo hi none p2) pos) (tSl (rSlG K) t tl th) (aSl f fl fh) := by
  subst hK
  refine ⟨pe_slice (sl_or sl_str sl_list) h1.pe hl.po hh.po, fun B ρ δ κ σ H R Q s g h q => ?_⟩
  refine h1.sd B ρ δ κ σ H _ _ s g h fun B1 ρ1 κ1 H1 a x u1 g1 r1 h1 => ?_
  refine hl.sd B1 ρ1 δ κ1 σ H1 _ _ (s.up u1.g) g1 h1 fun B2 ρ2 κ2 H2 lo u2 g2 h2 => ?_
  refine hh.sd B2 ρ2 δ κ2 σ H2 _ _ (s.up (u1.trans u2).g) g2 h2 fun B3 ρ3 κ3 H3 hi u3 g3 h3 => ?_
  have r3 := r1.up (u2.trans u3).g
  have q3 := q.later ((u1.trans u2).trans u3)
  split at h3
  · cases r3.str
    exact .inl ⟨_, rfl, h3.1, q3.at0 g3 (rp_str _) h3.2⟩
  · rename_i xs
    obtain ⟨p, vs, rfl, s1, d1⟩ := of_listG g3 r3
    refine .inr ⟨p, vs, rfl, s1, fun p' hp' => ?_⟩
    obtain ⟨u4, g4, r4⟩ := new_lst g3 hp' (dpa_cut d1 lo hi)
    exact q3 _ _ _ _ _ _ u4 g4 r4 h3
  · rename_i k
    obtain ⟨p, hp, rfl⟩ := r3
    split at h3
    · rename_i xs ek
      obtain ⟨p', hp', _, vs, r, eH⟩ := g3.cell ek
      rw [hp] at hp'; cases hp'
      refine .inr ⟨p, vs, rfl, .inl (.inl eH), fun p' hp' => ?_⟩
      obtain ⟨u4, g4, r4⟩ := new_ld g3 hp' (dpa_cut r lo hi)
      exact q3 _ _ _ _ _ _ u4 g4 r4 h3
    · rename_i xs ek
      obtain ⟨p', hp', _, vs, r, eH⟩ := g3.cell ek
      rw [hp] at hp'; cases hp'
      refine .inr ⟨p, vs, rfl, .inl (.inl eH), fun p' hp' => ?_⟩
      obtain ⟨u4, g4, r4⟩ := new_cell g3 hp' (r.cut lo hi)
      exact q3 _ _ _ _ _ _ u4 g4 r4 h3
    · exact h3.elim
  · exact h3.elim

/-! ### argument lists, displays -/
def aNil : AA := fun _ κ R => R [] κ
def aCons (f : AE) (g : AA) : AA := fun δ κ R => f δ κ fun a κ1 => g δ κ1 fun as κ2 => R (a :: as) κ2
variable {es : List Expr} {ta : TA} {fa : AA}
theorem aa_nil : PAa K X [] tNil aNil := ⟨pa_nil, fun B ρ δ κ σ H R Q s g h q => q _ _ _ _ _ _ Up.refl g .nil h⟩
theorem aa_cons (h1 : PEa K X e t f) (h2 : PAa K X es ta fa) (hs : starEach (e :: es) X.env = (false, eval e X.env) :: starEach es X.env := by rfl) : PAa K X (e :: es) (tCons t ta) (aCons f fa) :=
  ⟨pa_cons h1.pe h2.pa hs, fun B ρ δ κ σ H R Q s g h q => h1.sd B ρ δ κ σ H _ _ s g h fun B1 ρ1 κ1 H1 a x u1 g1 r1 k1 => h2.sd B1 ρ1 δ κ1 σ H1 _ _ (s.up u1.g) g1 k1 fun B2 ρ2 κ2 H2 as xs u2 g2 r2 k2 =>
    q _ _ _ _ _ _ (u1.trans u2) g2 (.cons (r1.up u2.g) r2) k2⟩
def allD : List AV → Option (List PyData)
  | [] => some []
  | .d x :: r => match allD r with
    | some xs => some (x :: xs)
    | none => none
  | _ :: _ => none
theorem allD_eq : ∀ {as : List AV} {ds : List PyData}, allD as = some ds → as = ds.map .d
  | [], _, h => by cases h; rfl
  | .d x :: r, ds, h => by
    unfold allD at h
    split at h
    · rename_i xs e
      cases h
      rw [allD_eq e]; rfl
    · cases h
  | .c _ :: _, _, h => by cases h
  | .r _ :: _, _, h => by cases h
theorem allD_map : ∀ (ds : List PyData), allD (ds.map .d) = some ds
  | [] => rfl
  | d :: ds => by
    show (match allD (ds.map .d) with | some xs => some (d :: xs) | none => none) = _
    rw [allD_map ds]
def aTup (g : AA) : AE := fun δ κ R => g δ κ fun as κ1 => match allD as with
  | some ds => as.length ≤ sizeLine ∧ R (.d (.tuple ds)) κ1
  | none => as.length ≤ sizeLine ∧ R (.c κ1.length) (κ1 ++ [.tup as])
/-- a display that never changes, one that may change -/
def aLstD (g : AA) : AE := fun δ κ R => g δ κ fun as κ1 => match allD as with
  | some ds => as.length ≤ sizeLine ∧ R (.d (.list ds)) κ1
  | none => False
def aLst (g : AA) : AE := fun δ κ R => g δ κ fun as κ1 => match allD as with
  | some ds => as.length ≤ sizeLine ∧ R (.c κ1.length) (κ1 ++ [.ld ds])
  | none => as.length ≤ sizeLine ∧ R (.c κ1.length) (κ1 ++ [.lst as])
theorem ea_tup {x1} (h : PAa K X es ta fa) : PEa K X (.Tuple es x1 pos) (tTup ta) (aTup fa) := by
  refine ⟨pe_tup h.pa, fun B ρ δ κ σ H R Q s g hh q => h.sd B ρ δ κ σ H _ _ s g hh fun B1 ρ1 κ1 H1 as xs u1 g1 r1 h1 => ?_⟩
  split at h1
  · rename_i ds e
    obtain rfl := allD_eq e
    refine ⟨by rw [← r1.len]; exact h1.1, fun p hp => ?_⟩
    obtain ⟨u2, g2, r2⟩ := new_tup g1 hp (Reps.of_all r1)
    exact q _ _ _ _ _ _ (u1.trans u2) g2 r2 h1.2
  · refine ⟨by rw [← r1.len]; exact h1.1, fun p hp => ?_⟩
    obtain ⟨u2, g2, r2⟩ := new_tcell g1 hp r1
    exact q _ _ _ _ _ _ (u1.trans u2) g2 r2 h1.2
theorem ea_lstD (h : PAa K X es ta fa) : PEa K X (.List es pos) (tLst ta) (aLstD fa) := by
  refine ⟨pe_lst h.pa, fun B ρ δ κ σ H R Q s g hh q => h.sd B ρ δ κ σ H _ _ s g hh fun B1 ρ1 κ1 H1 as xs u1 g1 r1 h1 => ?_⟩
  split at h1
  · rename_i ds e
    obtain rfl := allD_eq e
    refine ⟨by rw [← r1.len]; exact h1.1, fun p hp => ?_⟩
    obtain ⟨u2, g2, r2⟩ := new_lst g1 hp (Reps.of_all r1)
    exact q _ _ _ _ _ _ (u1.trans u2) g2 r2 h1.2
  · exact h1.elim
theorem ea_lst (h : PAa K X es ta fa) : PEa K X (.List es pos) (tLst ta) (aLst fa) := by
  refine ⟨pe_lst h.pa, fun B ρ δ κ σ H R Q s g hh q => h.sd B ρ δ κ σ H _ _ s g hh fun B1 ρ1 κ1 H1 as xs u1 g1 r1 h1 => ?_⟩
  split at h1
  · rename_i ds e
    obtain rfl := allD_eq e
    refine ⟨by rw [← r1.len]; exact h1.1, fun p hp => ?_⟩
    obtain ⟨u2, g2, r2⟩ := new_ld g1 hp (Reps.of_all r1)
    exact q _ _ _ _ _ _ (u1.trans u2) g2 r2 h1.2
  · refine ⟨by rw [← r1.len]; exact h1.1, fun p hp => ?_⟩
    obtain ⟨u2, g2, r2⟩ := new_cell g1 hp r1
    exact q _ _ _ _ _ _ (u1.trans u2) g2 r2 h1.2

/-! ### built-in calls -/
def aCB (f : List AV → AK → AR → Prop) (g : AA) : AE := fun δ κ R => g δ κ fun as κ1 => f as κ1 R
theorem se_cb {r : List V → Hp → VK → Prop} {f : List AV → AK → AR → Prop} (hr : SL K r f) (h : SA K ta fa) : SE K (tCB r ta) (aCB f fa) := fun B ρ δ κ σ H R Q s g hh q =>
  h B ρ δ κ σ H _ _ s g hh fun B1 ρ1 κ1 H1 as xs u1 g1 r1 h1 => hr _ _ _ _ _ _ _ _ g1 r1 h1 (q.later u1)
structure CallA (K : PySem.W.Frag) (X : Cx) (f : Value) (r : List V → Hp → VK → Prop) (g : List AV → AK → AR → Prop) : Prop where
  c : CallR X f r
  sd : SL K r g
theorem ea_cb {id : String} {x : Str} {q pos : Pos} {r : List V → Hp → VK → Prop} {g : List AV → AK → AR → Prop} (hc : CallA K X (.builtin id) r g) (hg : Gl X x) (hm : X.mg x = none) (hv : bootBuiltins x = some (.builtin id)) (ha : PAa K X (e :: es) ta fa) (hn : x ≠ "__name__" := by decide) (hdb : (x == ("__debug__" : Str)) = false := by decide)
    (he : starEach (e :: es) X.env = (false, eval e X.env) :: starEach es X.env := by rfl) (hpl : (backTo pos (starEach es X.env)).any (·.1) = false := by rfl) : PEa K X (.Call (.Name x q) (e :: es) [] pos) (tCB r ta) (aCB g fa) :=
  ⟨pe_callB hc.c hg hm hv ha.pa hn hdb he hpl, se_cb hc.sd ha.sd⟩
theorem ea_ct {T : String} {x : Str} {q pos : Pos} {r : List V → Hp → VK → Prop} {g : List AV → AK → AR → Prop} (hc : CallA K X (.type T) r g) (hg : Gl X x) (hm : X.mg x = none) (hv : bootBuiltins x = some (.type T)) (ha : PAa K X (e :: es) ta fa) (hn : x ≠ "__name__" := by decide) (hdb : (x == ("__debug__" : Str)) = false := by decide)
    (he : starEach (e :: es) X.env = (false, eval e X.env) :: starEach es X.env := by rfl) (hpl : (backTo pos (starEach es X.env)).any (·.1) = false := by rfl) : PEa K X (.Call (.Name x q) (e :: es) [] pos) (tCB r ta) (aCB g fa) :=
  ⟨pe_callTy hc.c hg hm hv ha.pa hn hdb he hpl, se_cb hc.sd ha.sd⟩
/-- len -/
def aLen : List AV → AK → AR → Prop := fun as κ R => match as with
  | [.d (.str s)] => s.length ≤ sizeLine ∧ R (.d (.int s.length)) κ
  | [.d (.list xs)] => R (.d (.int xs.length)) κ
  | [.d (.tuple xs)] => R (.d (.int xs.length)) κ
  | [.c k] => match κ[k]? with
    | some (.ld xs) => R (.d (.int xs.length)) κ
    | some (.lst xs) => R (.d (.int xs.length)) κ
    | some (.tup xs) => R (.d (.int xs.length)) κ
    | _ => False
  | _ => False
def rLenA (K : PySem.W.Frag) : List V → Hp → VK → Prop := fun xs H Q => (∃ p ys, xs = [.ref p] ∧ (SqL K H p ys ∨ SqT K H p ys) ∧ Q (.int ys.length) H) ∨ (∃ z, xs = [.str z] ∧ z.length ≤ sizeLine ∧ Q (.int z.length) H)
theorem reps1 {as : AV} {xs : List V} (h : Reps K B ρ [as] xs) : ∃ x, xs = [x] ∧ Rep K B ρ as x := by
  cases h with
  | cons h1 h2 => cases h2; exact ⟨_, rfl, h1⟩
theorem reps2 {a1 a2 : AV} {xs : List V} (h : Reps K B ρ [a1, a2] xs) : ∃ x y, xs = [x, y] ∧ Rep K B ρ a1 x ∧ Rep K B ρ a2 y := by
  cases h with
  | cons h1 h2 =>
    obtain ⟨y, rfl, r⟩ := reps1 h2
    exact ⟨_, _, rfl, h1, r⟩
theorem ca_len (hK : X.K = K := by rfl) : CallA K X (.builtin "len") (rLenA K) aLen := by
  subst hK
  refine ⟨callr_or call_len_seq call_len_str, fun B ρ κ H xs as R Q g rs h q => ?_⟩
  unfold aLen at h
  split at h
  · obtain ⟨x, rfl, r⟩ := reps1 rs
    cases r.str
    exact .inr ⟨_, rfl, h.1, q.at0 g (rp_int _) h.2⟩
  · obtain ⟨x, rfl, r⟩ := reps1 rs
    obtain ⟨p, vs, rfl, s1, d1⟩ := of_listG g r
    exact .inl ⟨p, vs, rfl, .inl s1, q.at0 g (rp_int _) (by rw [dpa_len d1]; exact h)⟩
  · obtain ⟨x, rfl, r⟩ := reps1 rs
    obtain ⟨p, vs, rfl, s1, d1⟩ := of_tupG g r
    exact .inl ⟨p, vs, rfl, .inr s1, q.at0 g (rp_int _) (by rw [dpa_len d1]; exact h)⟩
  · obtain ⟨x, rfl, r⟩ := reps1 rs
    obtain ⟨p, hp, rfl⟩ := r
    split at h
    · rename_i xs ek
      obtain ⟨p', hp', _, vs, r, eH⟩ := g.cell ek
      rw [hp] at hp'; cases hp'
      exact .inl ⟨p, vs, rfl, .inl (.inl (.inl eH)), q.at0 g (rp_int _) (by rw [dpa_len r]; exact h)⟩
    · rename_i xs ek
      obtain ⟨p', hp', _, vs, r, eH⟩ := g.cell ek
      rw [hp] at hp'; cases hp'
      exact .inl ⟨p, vs, rfl, .inl (.inl (.inl eH)), q.at0 g (rp_int _) (by rw [← r.len]; exact h)⟩
    · rename_i xs ek
      obtain ⟨p', hp', _, vs, r, eH⟩ := g.cell ek
      rw [hp] at hp'; cases hp'
      exact .inl ⟨p, vs, rfl, .inr (.inl (.inl eH)), q.at0 g (rp_int _) (by rw [← r.len]; exact h)⟩
    · exact h.elim
  · exact h.elim
/-- int(n) -/
def aIntOf : List AV → AK → AR → Prop := fun as κ R => match as with
  | [.d (.int i)] => R (.d (.int i)) κ
  | [.d (.bool b)] => R (.d (.int (if b then 1 else 0))) κ
  | _ => False
theorem ca_int : CallA K X (.type "int") (fun xs H Q => (∃ i, xs = [.int i] ∧ Q (.int i) H) ∨ ∃ k, xs = [.bl k] ∧ Q (.int (if k then 1 else 0)) H) aIntOf := by
  refine ⟨call_int1, fun B ρ κ H xs as R Q g rs h q => ?_⟩
  unfold aIntOf at h
  split at h
  · obtain ⟨x, rfl, r⟩ := reps1 rs
    exact .inl ⟨_, by rw [r.int], q.at0 g (rp_int _) h⟩
  · obtain ⟨x, rfl, r⟩ := reps1 rs
    exact .inr ⟨_, by rw [r.bool], q.at0 g (rp_int _) h⟩
  · exact h.elim
/-- str(n) -/
def aStrOf : List AV → AK → AR → Prop := fun as κ R => match as with
  | [.d (.int i)] => i.natAbs.log2 < 1920 ∧ R (.d (.str (toString i))) κ
  | _ => False
theorem ca_str : CallA K X (.type "str") (fun xs H Q => ∃ i, xs = [.int i] ∧ i.natAbs.log2 < 1920 ∧ Q (.str (toString i)) H) aStrOf := by
  refine ⟨call_str_int, fun B ρ κ H xs as R Q g rs h q => ?_⟩
  unfold aStrOf at h
  split at h
  · obtain ⟨x, rfl, r⟩ := reps1 rs
    exact ⟨_, by rw [r.int], h.1, q.at0 g (rp_str _) h.2⟩
  · exact h.elim
/-- list(x): a new list that may change, one that never does -/
def aListOf (mu : Bool) : List AV → AK → AR → Prop := fun as κ R => match as with
  | [.d (.list xs)] => if mu then R (.c κ.length) (κ ++ [.ld xs]) else R (.d (.list xs)) κ
  | [.d (.tuple xs)] => if mu then R (.c κ.length) (κ ++ [.ld xs]) else R (.d (.list xs)) κ
  | [.c k] => match κ[k]? with
    | some (.ld xs) => if mu then R (.c κ.length) (κ ++ [.ld xs]) else R (.d (.list xs)) κ
    | some (.lst xs) => R (.c κ.length) (κ ++ [.lst xs])
    | some (.tup xs) => R (.c κ.length) (κ ++ [.lst xs])
    | _ => False
  | _ => False
theorem ca_list (mu : Bool) (hK : X.K = K := by rfl) : CallA K X (.type "list") (fun xs H Q => ∃ p ys, xs = [.ref p] ∧ (SqL K H p ys ∨ SqT K H p ys) ∧ ∀ l, H l = none → Q (.ref l) (upd H l (.lst ys))) (aListOf mu) := by
  subst hK
  refine ⟨call_list_of, fun B ρ κ H xs as R Q g rs h q => ?_⟩
  have key : ∀ {ds : List PyData} {vs : List V}, DpAll X.K B vs ds → (if mu then R (.c κ.length) (κ ++ [.ld ds]) else R (.d (.list ds)) κ) → ∀ l, H l = none → Q (.ref l) (upd H l (.lst vs)) := by
    intro ds vs d1 h l hl
    cases mu with
    | true =>
      obtain ⟨u2, g2, r2⟩ := new_ld g hl d1
      exact q _ _ _ _ _ _ u2 g2 r2 h
    | false =>
      obtain ⟨u2, g2, r2⟩ := new_lst g hl d1
      exact q _ _ _ _ _ _ u2 g2 r2 h
  unfold aListOf at h
  split at h
  · obtain ⟨x, rfl, r⟩ := reps1 rs
    obtain ⟨p, vs, rfl, s1, d1⟩ := of_listG g r
    exact ⟨p, vs, rfl, .inl s1, key d1 h⟩
  · obtain ⟨x, rfl, r⟩ := reps1 rs
    obtain ⟨p, vs, rfl, s1, d1⟩ := of_tupG g r
    exact ⟨p, vs, rfl, .inr s1, key d1 h⟩
  · obtain ⟨x, rfl, r⟩ := reps1 rs
    obtain ⟨p, hp, rfl⟩ := r
    split at h
    · rename_i xs ek
      obtain ⟨p', hp', _, vs, r, eH⟩ := g.cell ek
      rw [hp] at hp'; cases hp'
      exact ⟨p, vs, rfl, .inl (.inl (.inl eH)), key r h⟩
    · rename_i xs ek
      obtain ⟨p', hp', _, vs, r, eH⟩ := g.cell ek
      rw [hp] at hp'; cases hp'
      refine ⟨p, vs, rfl, .inl (.inl (.inl eH)), fun l hl => ?_⟩
      obtain ⟨u2, g2, r2⟩ := new_cell g hl r
      exact q _ _ _ _ _ _ u2 g2 r2 h
    · rename_i xs ek
      obtain ⟨p', hp', _, vs, r, eH⟩ := g.cell ek
      rw [hp] at hp'; cases hp'
      refine ⟨p, vs, rfl, .inr (.inl (.inl eH)), fun l hl => ?_⟩
      obtain ⟨u2, g2, r2⟩ := new_cell g hl r
      exact q _ _ _ _ _ _ u2 g2 r2 h
    · exact h.elim
  · exact h.elim
/-- isinstance(x, T), T a built-in class -/
def tyN : PyData → String
  | .none => "NoneType" | .bool _ => "bool" | .int _ => "int" | .str _ => "str" | .list _ => "list" | .tuple _ => "tuple" | .dict _ => "dict"
def aIsi : List AV → AK → AR → Prop := fun as κ R => match as with
  | [.d x, .r (.ty T)] => ∃ r, kitB (tyN x) T = some r ∧ R (.d (.bool r)) κ
  | [.c k, .r (.ty T)] => match κ[k]? with
    | some (.ld _) => ∃ r, kitB "list" T = some r ∧ R (.d (.bool r)) κ
    | some (.lst _) => ∃ r, kitB "list" T = some r ∧ R (.d (.bool r)) κ
    | some (.tup _) => ∃ r, kitB "tuple" T = some r ∧ R (.d (.bool r)) κ
    | _ => False
  | _ => False
theorem tyx_of {d : PyData} (h : Dp K H v d) : TyX K H v (.type (tyN d)) := by
  cases h with
  | non => exact .base .non
  | bl b => exact .base (.bl b)
  | int i => exact .base (.int i)
  | str x => exact .base (.str x)
  | lst hs ha =>
    rcases hs with (h | ⟨o, h⟩) | ⟨o, its, n, h, h2, _⟩
    · exact .base (.lst h)
    · exact .base (.frz h)
    · exact .kList h h2
  | tup hs ha =>
    rcases hs with (h | ⟨o, h⟩) | ⟨o, its, n, h, h2, _⟩
    · exact .base (.tup h)
    · exact .fTuple h
    · exact .kTuple h h2
theorem ca_isi (hK : X.K = K := by rfl) : CallA K X (.builtin "isinstance") (rIsi K) aIsi := by
  subst hK
  refine ⟨call_isi, fun B ρ κ H xs as R Q g rs h q => ?_⟩
  unfold aIsi at h
  split at h
  · obtain ⟨x, y, rfl, r1, r2⟩ := reps2 rs
    obtain ⟨r, e, h⟩ := h
    obtain rfl := (show y = _ from r2)
    exact ⟨x, _, _, _, r, rfl, .ty _, tyx_of (dp_G g r1), kit_ty e, q.at0 g (rp_bl _) h⟩
  · obtain ⟨x, y, rfl, r1, r2⟩ := reps2 rs
    obtain rfl := (show y = _ from r2)
    obtain ⟨p, hp, rfl⟩ := r1
    split at h
    · rename_i xs ek
      obtain ⟨r, e, h⟩ := h
      obtain ⟨p', hp', _, vs, _, eH⟩ := g.cell ek
      rw [hp] at hp'; cases hp'
      exact ⟨_, _, _, _, r, rfl, .ty _, .base (.lst eH), kit_ty e, q.at0 g (rp_bl _) h⟩
    · rename_i xs ek
      obtain ⟨r, e, h⟩ := h
      obtain ⟨p', hp', _, vs, _, eH⟩ := g.cell ek
      rw [hp] at hp'; cases hp'
      exact ⟨_, _, _, _, r, rfl, .ty _, .base (.lst eH), kit_ty e, q.at0 g (rp_bl _) h⟩
    · rename_i xs ek
      obtain ⟨r, e, h⟩ := h
      obtain ⟨p', hp', _, vs, _, eH⟩ := g.cell ek
      rw [hp] at hp'; cases hp'
      exact ⟨_, _, _, _, r, rfl, .ty _, .base (.tup eH), kit_ty e, q.at0 g (rp_bl _) h⟩
    · exact h.elim
  · exact h.elim

/-! ### methods of built-in classes -/
def tyA (T : String) (a : AV) (κ : AK) : Prop := match a with
  | .d (.str _) => T = "str"
  | .d (.list _) => T = "list"
  | .c k => match κ[k]? with
    | some (.ld _) => T = "list"
    | some (.lst _) => T = "list"
    | some (.dK _) => T = "dict"
    | some (.dT _) => T = "dict"
    | _ => False
  | _ => False
theorem tyA_ok {T : String} (g : G K B ρ κ H) (r : Rep K B ρ a x) (h : tyA T a κ) : tyV K T x H := by
  unfold tyA at h
  split at h
  · rw [r.str]; exact h
  · obtain ⟨p, vs, rfl, s1, d1⟩ := of_listG g r
    exact .inl ⟨h, vs, s1⟩
  · obtain ⟨p, hp, rfl⟩ := r
    split at h
    · rename_i xs ek
      obtain ⟨p', hp', _, vs, _, eH⟩ := g.cell ek
      rw [hp] at hp'; cases hp'
      exact .inl ⟨h, vs, .inl (.inl eH)⟩
    · rename_i xs ek
      obtain ⟨p', hp', _, vs, _, eH⟩ := g.cell ek
      rw [hp] at hp'; cases hp'
      exact .inl ⟨h, vs, .inl (.inl eH)⟩
    · rename_i xs ek
      obtain ⟨p', hp', _, vs, _, eH⟩ := g.cell ek
      rw [hp] at hp'; cases hp'
      exact .inr (.inr (.inl ⟨h, .inl ⟨vs, eH⟩⟩))
    · rename_i xs ek
      obtain ⟨p', hp', _, vs, _, eH⟩ := g.cell ek
      rw [hp] at hp'; cases hp'
      exact .inr (.inr (.inl ⟨h, .inr ⟨vs, eH⟩⟩))
    · exact h.elim
  · exact h.elim
structure MtA (K : PySem.W.Frag) (X : Cx) (id : String) (r : V → List V → Hp → VK → Prop) (g : AV → List AV → AK → AR → Prop) : Prop where
  m : MtR X id r
  sd : ∀ B ρ κ H x xs a as (R : AR) (Q : VK), G K B ρ κ H → Rep K B ρ a x → Reps K B ρ as xs → g a as κ R → Nx K B ρ H R Q → r x xs H Q
def aBM (T : String) (g : AV → List AV → AK → AR → Prop) (f : AE) (fa : AA) : AE := fun δ κ R => f δ κ fun a κ1 => tyA T a κ1 ∧ fa δ κ1 fun as κ2 => g a as κ2 R
def aBM0 (T : String) (g : AV → List AV → AK → AR → Prop) (f : AE) : AE := fun δ κ R => f δ κ fun a κ1 => tyA T a κ1 ∧ g a [] κ1 R
theorem ea_bm {T id : String} {name : Str} {apos cpos : Pos} {r : V → List V → Hp → VK → Prop} {g : AV → List AV → AK → AR → Prop} (hm : MtA K X id r g) (pa : PlainAttrs T) (slot : Slot T name id) (hty : typeOf (.builtin id) = pure (.type "method_descriptor")) (ho : PEa K X e2 t f) (ha : PAa K X (e :: es) ta fa)
    (hbase : attributeBase e2 name X.env (eval e2 X.env) = eval e2 X.env := by rfl)
    (hfew : ((backTo cpos (starEach (e :: es) X.env)).all (fun x => !x.1) && (backToKw cpos (keywordEach [] X.env)).all (fun x => x.1.isSome)
      && decide ((e :: es).length + ([] : List Keyword).length + (if ([] : List Keyword).isEmpty then 0 else 1) < 30)) = true := by rfl)
    (hline : (apos.endLine == cpos.line) = true := by rfl) (hs : starEach (e :: es) X.env = (false, eval e X.env) :: starEach es X.env := by rfl) (hplain : (backTo cpos (starEach es X.env)).any (·.1) = false := by rfl) (hK : X.K = K := by rfl) :
    PEa K X (.Call (.Attribute e2 name apos) (e :: es) [] cpos) (tBM K T r t ta) (aBM T g f fa) := by
  subst hK
  exact ⟨pe_bm pa slot hty hm.m ho.pe ha.pa hbase hfew hline hs hplain, fun B ρ δ κ σ H R Q s gg h q => ho.sd B ρ δ κ σ H _ _ s gg h fun B1 ρ1 κ1 H1 a x u1 g1 r1 h1 =>
    ⟨tyA_ok g1 r1 h1.1, ha.sd B1 ρ1 δ κ1 σ H1 _ _ (s.up u1.g) g1 h1.2 fun B2 ρ2 κ2 H2 as xs u2 g2 r2 h2 => hm.sd _ _ _ _ _ _ _ _ _ _ g2 (r1.up u2.g) r2 h2 (q.later (u1.trans u2))⟩⟩
theorem ea_bm0 {T id : String} {name : Str} {apos cpos : Pos} {r : V → List V → Hp → VK → Prop} {g : AV → List AV → AK → AR → Prop} (hm : MtA K X id r g) (pa : PlainAttrs T) (slot : Slot T name id) (hty : typeOf (.builtin id) = pure (.type "method_descriptor")) (ho : PEa K X e2 t f)
    (hbase : attributeBase e2 name X.env (eval e2 X.env) = eval e2 X.env := by rfl) (hline : (apos.endLine == cpos.line) = true := by rfl) (hK : X.K = K := by rfl) : PEa K X (.Call (.Attribute e2 name apos) [] [] cpos) (tBM0 K T r t) (aBM0 T g f) := by
  subst hK
  exact ⟨pe_bm0 pa slot hty hm.m ho.pe hbase hline, fun B ρ δ κ σ H R Q s gg h q => ho.sd B ρ δ κ σ H _ _ s gg h fun B1 ρ1 κ1 H1 a x u1 g1 r1 h1 =>
    ⟨tyA_ok g1 r1 h1.1, hm.sd _ _ _ _ _ _ _ _ _ _ g1 r1 .nil h1.2 (q.later u1)⟩⟩
/-- a list cell: where it stands, and how it changes -/
theorem G.lstAt (g : G K B ρ κ H) {xs : List AV} (hp : ρ[k]? = some p) (ek : κ[k]? = some (.lst xs)) : ∃ vs, Reps K B ρ xs vs ∧ H p = some (.lst vs) ∧
    ∀ xs' vs', Reps K B ρ xs' vs' → Up B ρ H B ρ (upd H p (.lst vs')) ∧ G K B ρ (κ.set k (.lst xs')) (upd H p (.lst vs')) := by
  obtain ⟨p', hp', hb, vs, r, eH⟩ := g.cell ek
  rw [hp] at hp'; cases hp'
  refine ⟨vs, r, eH, fun xs' vs' r' => ⟨G.writeUp hp, ?_⟩⟩
  have hc : CellOk K B ρ (upd H p (.lst vs')) p (.lst xs') := ⟨hb, vs', r', upd_same⟩
  exact g.write hp hb hc
theorem G.ldAt (g : G K B ρ κ H) {xs : List PyData} (hp : ρ[k]? = some p) (ek : κ[k]? = some (.ld xs)) : ∃ vs, DpAll K B vs xs ∧ H p = some (.lst vs) ∧
    ∀ xs' vs', DpAll K B vs' xs' → Up B ρ H B ρ (upd H p (.lst vs')) ∧ G K B ρ (κ.set k (.ld xs')) (upd H p (.lst vs')) := by
  obtain ⟨p', hp', hb, vs, r, eH⟩ := g.cell ek
  rw [hp] at hp'; cases hp'
  refine ⟨vs, r, eH, fun xs' vs' r' => ⟨G.writeUp hp, ?_⟩⟩
  have hc : CellOk K B ρ (upd H p (.lst vs')) p (.ld xs') := ⟨hb, vs', r', upd_same⟩
  exact g.write hp hb hc
/-- xs.append(y) -/
def aAppend : AV → List AV → AK → AR → Prop := fun a as κ R => match a, as with
  | .c k, [y] => match κ[k]?, y with
    | some (.ld xs), .d z => xs.length < sizeLine ∧ R (.d .none) (κ.set k (.ld (xs ++ [z])))
    | some (.lst xs), y => xs.length < sizeLine ∧ R (.d .none) (κ.set k (.lst (xs ++ [y])))
    | _, _ => False
  | _, _ => False
theorem ma_append : MtA K X "list.append" rAppend aAppend := by
  refine ⟨mt_append, fun B ρ κ H x xs a as R Q g rx rs h q => ?_⟩
  unfold aAppend at h
  split at h
  · obtain ⟨p, hp, rfl⟩ := rx
    obtain ⟨y, rfl, ry⟩ := reps1 rs
    split at h
    · rename_i xs z ek
      obtain ⟨vs, r, eH, wr⟩ := g.ldAt hp ek
      obtain ⟨u2, g2⟩ := wr _ _ (dpa_app r (.cons ry .nil))
      refine ⟨p, vs, y, rfl, rfl, eH, by rw [dpa_len r]; exact h.1, q _ _ _ _ _ _ u2 g2 rp_non h.2⟩
    · rename_i xs y' ek
      obtain ⟨vs, r, eH, wr⟩ := g.lstAt hp ek
      obtain ⟨u2, g2⟩ := wr _ _ (r.snoc ry)
      refine ⟨p, vs, y, rfl, rfl, eH, by rw [← r.len]; exact h.1, q _ _ _ _ _ _ u2 g2 rp_non h.2⟩
    · exact h.elim
  · exact h.elim
/-- s.startswith(x, i) -/
def aStarts3 : AV → List AV → AK → AR → Prop := fun a as κ R => match a, as with
  | .d (.str s), [.d (.str t), .d (.int i)] => R (.d (.bool (Txt.startswith3 s t i))) κ
  | _, _ => False
theorem ma_starts3 : MtA K X "str.startswith" (fun x xs H Q => ∃ (a b : Str) (i : Int), x = .str a ∧ xs = [.str b, .int i] ∧ Q (.bl (Txt.startswith3 a b i)) H) aStarts3 := by
  refine ⟨mt_startswith3, fun B ρ κ H x xs a as R Q g rx rs h q => ?_⟩
  unfold aStarts3 at h
  split at h
  · obtain ⟨y, z, rfl, r1, r2⟩ := reps2 rs
    cases rx.str; cases r1.str; cases r2.int
    exact ⟨_, _, _, rfl, rfl, q.at0 g (rp_bl _) h⟩
  · exact h.elim

/-! ### tests -/
variable {tA tB' : TT} {pA pB : AT}
/-- a choice by a truth -/
def bsel (b : Bool) (A C : Prop) : Prop := match b with
  | true => A
  | false => C
theorem bsel_i {b : Bool} {A C : Prop} (h1 : b = true → A) (h0 : b = false → C) : bsel b A C := by
  cases b with
  | true => exact h1 rfl
  | false => exact h0 rfl
def aB (f : AE) : AT := fun δ κ R => f δ κ fun a κ1 => match a with
  | .d (.bool b) => R b κ1
  | _ => False
theorem st_B (h : SE K t f) : ST K (tB t) (aB f) := fun B ρ δ κ σ H R Q s g hh q => h B ρ δ κ σ H _ _ s g hh fun B1 ρ1 κ1 H1 a x u1 g1 r1 h1 => by
  split at h1
  · exact ⟨_, r1.bool, q _ _ _ _ _ u1 g1 h1⟩
  · exact h1.elim
theorem ta_cmp {op : CmpOp} {r : R2} {g : AO} (ho : OpA K X (compareOp op) r g) (h1 : PEa K X e t f) (h2 : PEa K X e2 u f2) (hm : behindInMarks op e2 = false := by first | exact nomark _ | rfl) : PTa K X (.Compare e [op] [e2] pos) (tTest (tOp r t u)) (aB (aOp g f f2)) :=
  ⟨pt_cmpR ho.op h1.pe h2.pe hm, st_B (se_op ho.sd h1.sd h2.sd)⟩
/-- truth of anything -/
def aTru (f : AE) : AT := fun δ κ R => f δ κ fun a κ1 => match a with
  | .d (.bool b) => R b κ1
  | .d .none => R false κ1
  | .d (.int i) => R (i != 0) κ1
  | .d (.str s) => s.length ≤ sizeLine ∧ R ((s.length : Int) != 0) κ1
  | .d (.list xs) => R (!xs.isEmpty) κ1
  | .d (.tuple xs) => R (!xs.isEmpty) κ1
  | .c k => match κ1[k]? with
    | some (.ld xs) => R (!xs.isEmpty) κ1
    | some (.lst xs) => R (!xs.isEmpty) κ1
    | _ => False
  | _ => False
theorem emp_dpa {ds : List PyData} {vs : List V} (h : DpAll K B vs ds) : (!vs.isEmpty) = !ds.isEmpty := by
  cases ds with
  | nil => cases h; rfl
  | cons _ _ => cases h; rfl
theorem emp_reps {ds : List AV} {vs : List V} (h : Reps K B ρ ds vs) : (!vs.isEmpty) = !ds.isEmpty := by
  cases h <;> rfl
theorem ta_tru (h : PEa K X e t f) (he : ∀ whole, isTrue e X.env whole = (do let v ← whole; standAt e.pos; holding [v] (truthy v)) := by intro _; rfl) (hK : X.K = K := by rfl) : PTa K X e (fun σ H Q => t σ H fun x H' => ∃ k, TruV K x H' k ∧ Q k H') (aTru f) := by
  subst hK
  refine ⟨pt_truth h.pe he, fun B ρ δ κ σ H R Q s g hh q => h.sd B ρ δ κ σ H _ _ s g hh fun B1 ρ1 κ1 H1 a x u1 g1 r1 h1 => ?_⟩
  split at h1
  · rw [r1.bool]; exact ⟨_, rfl, q _ _ _ _ _ u1 g1 h1⟩
  · rw [r1.non]; exact ⟨_, rfl, q _ _ _ _ _ u1 g1 h1⟩
  · rw [r1.int]; exact ⟨_, rfl, q _ _ _ _ _ u1 g1 h1⟩
  · rw [r1.str]; exact ⟨_, ⟨h1.1, rfl⟩, q _ _ _ _ _ u1 g1 h1.2⟩
  · obtain ⟨p, vs, rfl, s1, d1⟩ := of_listG g1 r1
    exact ⟨_, .inl ⟨vs, s1, rfl⟩, q _ _ _ _ _ u1 g1 (by rw [emp_dpa d1]; exact h1)⟩
  · obtain ⟨p, vs, rfl, s1, d1⟩ := of_tupG g1 r1
    exact ⟨_, .inr (.inl ⟨vs, s1, rfl⟩), q _ _ _ _ _ u1 g1 (by rw [emp_dpa d1]; exact h1)⟩
  · obtain ⟨p, hp, rfl⟩ := r1
    split at h1
    · rename_i xs ek
      obtain ⟨p', hp', _, vs, r, eH⟩ := g1.cell ek
      rw [hp] at hp'; cases hp'
      exact ⟨_, .inl ⟨vs, .inl (.inl eH), rfl⟩, q _ _ _ _ _ u1 g1 (by rw [emp_dpa r]; exact h1)⟩
    · rename_i xs ek
      obtain ⟨p', hp', _, vs, r, eH⟩ := g1.cell ek
      rw [hp] at hp'; cases hp'
      exact ⟨_, .inl ⟨vs, .inl (.inl eH), rfl⟩, q _ _ _ _ _ u1 g1 (by rw [emp_reps r]; exact h1)⟩
    · exact h1.elim
  · exact h1.elim
def aAnd (p q : AT) : AT := fun δ κ R => p δ κ fun c κ1 => bsel c (q δ κ1 R) (R false κ1)
def aOr (p q : AT) : AT := fun δ κ R => p δ κ fun c κ1 => bsel c (R true κ1) (q δ κ1 R)
def aNot (p : AT) : AT := fun δ κ R => p δ κ fun c κ1 => R (!c) κ1
variable {e' : Expr} {rs : List Expr}
theorem wa_1 {op : BoolOp} (ho : op = .And ∨ op = .Or) (h : PTa K X e tA pA) : PWa K X (.BoolOp op [e] pos) tA pA := by
  rcases ho with rfl | rfl
  · exact ⟨pw_and1 h.pt, h.sd⟩
  · exact ⟨pw_or1 h.pt, h.sd⟩
theorem wa_and1 (h : PTa K X e tA pA) : PWa K X (.BoolOp .And [e] pos) tA pA := ⟨pw_and1 h.pt, h.sd⟩
theorem wa_or1 (h : PTa K X e tA pA) : PWa K X (.BoolOp .Or [e] pos) tA pA := ⟨pw_or1 h.pt, h.sd⟩
theorem wa_and (h : PTa K X e tA pA) (h2 : PWa K X (.BoolOp .And (e' :: rs) pos) tB' pB) : PWa K X (.BoolOp .And (e :: e' :: rs) pos) (tAnd tA tB') (aAnd pA pB) :=
  ⟨pw_and h.pt h2.pw, fun B ρ δ κ σ H R Q s g hh q => h.sd B ρ δ κ σ H _ _ s g hh fun B1 ρ1 κ1 H1 c u1 g1 h1 => by
    cases c with
    | true => exact iteT (h2.sd B1 ρ1 δ κ1 σ H1 R Q (s.up u1.g) g1 h1 fun B2 ρ2 κ2 H2 b u2 g2 k2 => q _ _ _ _ _ (u1.trans u2) g2 k2)
    | false => exact iteF (q _ _ _ _ _ u1 g1 h1)⟩
theorem wa_or (h : PTa K X e tA pA) (h2 : PWa K X (.BoolOp .Or (e' :: rs) pos) tB' pB) : PWa K X (.BoolOp .Or (e :: e' :: rs) pos) (tOr tA tB') (aOr pA pB) :=
  ⟨pw_or h.pt h2.pw, fun B ρ δ κ σ H R Q s g hh q => h.sd B ρ δ κ σ H _ _ s g hh fun B1 ρ1 κ1 H1 c u1 g1 h1 => by
    cases c with
    | true => exact iteT (q _ _ _ _ _ u1 g1 h1)
    | false => exact iteF (h2.sd B1 ρ1 δ κ1 σ H1 R Q (s.up u1.g) g1 h1 fun B2 ρ2 κ2 H2 b u2 g2 k2 => q _ _ _ _ _ (u1.trans u2) g2 k2)⟩
theorem ta_not (h : PTa K X e tA pA) : PTa K X (.UnaryOp .Not e pos) (tNot tA) (aNot pA) := ⟨pt_not h.pt, fun B ρ δ κ σ H R Q s g hh q => h.sd B ρ δ κ σ H _ _ s g hh fun B1 ρ1 κ1 H1 c u1 g1 h1 => q _ _ _ _ _ u1 g1 h1⟩
/-- as values -/
def aAndV (p q : AE) : AE := fun δ κ R => p δ κ fun a κ1 => match a with
  | .d (.bool b) => bsel b (q δ κ1 R) (R (.d (.bool false)) κ1)
  | _ => False
def aOrV (p q : AE) : AE := fun δ κ R => p δ κ fun a κ1 => match a with
  | .d (.bool b) => bsel b (R (.d (.bool true)) κ1) (q δ κ1 R)
  | _ => False
def aNotV (p : AE) : AE := fun δ κ R => p δ κ fun a κ1 => match a with
  | .d (.bool b) => R (.d (.bool (!b))) κ1
  | _ => False
theorem ea_one {op : BoolOp} (h : PEa K X e t f) : PEa K X (.BoolOp op [e] pos) t f := ⟨pe_one h.pe, h.sd⟩
theorem ea_and (h : PEa K X e t f) (h2 : PEa K X (.BoolOp .And (e' :: rs) pos) u f2) : PEa K X (.BoolOp .And (e :: e' :: rs) pos) (tAndV t u) (aAndV f f2) :=
  ⟨pe_and h.pe h2.pe, fun B ρ δ κ σ H R Q s g hh q => h.sd B ρ δ κ σ H _ _ s g hh fun B1 ρ1 κ1 H1 a x u1 g1 r1 h1 => by
    split at h1
    · rename_i c
      refine ⟨_, r1.bool, ?_⟩
      cases c with
      | true => exact iteT (h2.sd B1 ρ1 δ κ1 σ H1 R Q (s.up u1.g) g1 h1 (q.later u1))
      | false => exact iteF (q _ _ _ _ _ _ u1 g1 (rp_bl _) h1)
    · exact h1.elim⟩
theorem ea_or (h : PEa K X e t f) (h2 : PEa K X (.BoolOp .Or (e' :: rs) pos) u f2) : PEa K X (.BoolOp .Or (e :: e' :: rs) pos) (tOrV t u) (aOrV f f2) :=
  ⟨pe_or h.pe h2.pe, fun B ρ δ κ σ H R Q s g hh q => h.sd B ρ δ κ σ H _ _ s g hh fun B1 ρ1 κ1 H1 a x u1 g1 r1 h1 => by
    split at h1
    · rename_i c
      refine ⟨_, r1.bool, ?_⟩
      cases c with
      | true => exact iteT (q _ _ _ _ _ _ u1 g1 (rp_bl _) h1)
      | false => exact iteF (h2.sd B1 ρ1 δ κ1 σ H1 R Q (s.up u1.g) g1 h1 (q.later u1))
    · exact h1.elim⟩
theorem ea_not (h : PEa K X e t f) : PEa K X (.UnaryOp .Not e pos) (tNotV t) (aNotV f) :=
  ⟨pe_not h.pe, fun B ρ δ κ σ H R Q s g hh q => h.sd B ρ δ κ σ H _ _ s g hh fun B1 ρ1 κ1 H1 a x u1 g1 r1 h1 => by
    split at h1
    · exact ⟨_, r1.bool, q _ _ _ _ _ _ u1 g1 (rp_bl _) h1⟩
    · exact h1.elim⟩
def aIf (p : AT) (a b : AE) : AE := fun δ κ R => p δ κ fun c κ1 => bsel c (a δ κ1 R) (b δ κ1 R)
theorem ea_if {c : Expr} (hc : PTa K X c tA pA) (h : PEa K X e t f) (h2 : PEa K X e2 u f2) : PEa K X (.IfExp c e e2 pos) (tIf tA t u) (aIf pA f f2) :=
  ⟨pe_ifExp hc.pt h.pe h2.pe, fun B ρ δ κ σ H R Q s g hh q => hc.sd B ρ δ κ σ H _ _ s g hh fun B1 ρ1 κ1 H1 c u1 g1 h1 => by
    cases c with
    | true => exact iteT (h.sd B1 ρ1 δ κ1 σ H1 R Q (s.up u1.g) g1 h1 (q.later u1))
    | false => exact iteF (h2.sd B1 ρ1 δ κ1 σ H1 R Q (s.up u1.g) g1 h1 (q.later u1))⟩
/-- -n -/
def aNeg : AV → AK → AR → Prop := fun a κ R => match a with
  | .d (.int i) => R (.d (.int (-i))) κ
  | _ => False
theorem ea_neg (h : PEa K X e t f) : PEa K X (.UnaryOp .USub e pos) (tUn (rU fun i => .int (-i)) t) (aUn aNeg f) := ea_un un_neg (fun B ρ κ H x a R Q g rx h q => by
  unfold aNeg at h
  split at h
  · exact ⟨_, rx.int, q.at0 g (rp_int _) h⟩
  · exact h.elim) h
end Ab
set_option Elab.async false
set_option linter.all false
set_option maxRecDepth 100000
set_option maxHeartbeats 4000000
/-! Ab4: statements, targets, what is walked, loops, comprehensions -/
namespace Ab
open PySem L2
variable {K : PySem.W.Frag} {B B' B2 H H' H2 : Hp} {ρ ρ' ρ2 : List Addr} {κ κ' : AK} {δ : AD} {σ : L2.St} {p : Addr} {k : Nat} {v x y z : V} {a b c : AV}
variable {X : Cx} {e e2 : Expr} {t u : TE} {f f2 : AE} {pos : Pos}

structure AEnds where
  /-- the cells that stand at the entry -/
  n : Nat
  nx : AD → AK → Prop
  rt : AR
  bk : AD → AK → Prop := fun _ _ => False
  ct : AD → AK → Prop := fun _ _ => False
abbrev AS := AEnds → AD → AK → Prop
/-- a way on -/
abbrev ImpN (K : PySem.W.Frag) (n : Nat) (B : Hp) (ρ : List Addr) (H : Hp) (P : AD → AK → Prop) (Q : L2.St → Hp → Prop) : Prop := ∀ B' ρ' κ' H' δ' σ', UpN n B ρ H B' ρ' H' → G K B' ρ' κ' H' → S K B' ρ' δ' σ' → n ≤ κ'.length → P δ' κ' → Q σ' H'
abbrev ImpR (K : PySem.W.Frag) (n : Nat) (B : Hp) (ρ : List Addr) (H : Hp) (P : AR) (Q : VK) : Prop := ∀ B' ρ' κ' H' a v, UpN n B ρ H B' ρ' H' → G K B' ρ' κ' H' → Rep K B' ρ' a v → n ≤ κ'.length → P a κ' → Q v H'
structure Imp (K : PySem.W.Frag) (B : Hp) (ρ : List Addr) (H : Hp) (A : AEnds) (D : Ends) : Prop where
  nx : ImpN K A.n B ρ H A.nx D.nx
  rt : ImpR K A.n B ρ H A.rt D.rt
  bk : ImpN K A.n B ρ H A.bk D.bk
  ct : ImpN K A.n B ρ H A.ct D.ct
theorem Imp.later {A : AEnds} {D : Ends} (i : Imp K B ρ H A D) (w : UpN A.n B ρ H B' ρ' H') : Imp K B' ρ' H' A D :=
  ⟨fun _ _ _ _ _ _ w2 g s l h => i.nx _ _ _ _ _ _ (w.trans w2) g s l h, fun _ _ _ _ _ _ w2 g s l h => i.rt _ _ _ _ _ _ (w.trans w2) g s l h,
   fun _ _ _ _ _ _ w2 g s l h => i.bk _ _ _ _ _ _ (w.trans w2) g s l h, fun _ _ _ _ _ _ w2 g s l h => i.ct _ _ _ _ _ _ (w.trans w2) g s l h⟩
theorem Imp.nxTo {A : AEnds} {D : Ends} (i : Imp K B ρ H A D) {P : AD → AK → Prop} {Q : L2.St → Hp → Prop} (h : ImpN K A.n B ρ H P Q) : Imp K B ρ H { A with nx := P } { D with nx := Q } := ⟨h, i.rt, i.bk, i.ct⟩
def SS (K : PySem.W.Frag) (t : TS) (f : AS) : Prop := ∀ B ρ δ κ σ H (A : AEnds) (D : Ends), S K B ρ δ σ → G K B ρ κ H → A.n ≤ κ.length → f A δ κ → Imp K B ρ H A D → t D σ H
structure PSa (K : PySem.W.Frag) (X : Cx) (st : Stmt) (t : TS) (f : AS) : Prop where
  ps : PS X st t
  sd : SS K t f
structure PSsa (K : PySem.W.Frag) (X : Cx) (sts : List Stmt) (t : TS) (f : AS) : Prop where
  ps : PSs X sts t
  sd : SS K t f
theorem Up.len (w : Up B ρ H B' ρ' H') (g : G K B ρ κ H) (g' : G K B' ρ' κ' H') : κ.length ≤ κ'.length := by
  rw [← g.len, ← g'.len]
  by_cases h : ρ.length = 0
  · omega
  · have h1 : ρ.length - 1 < ρ.length := by omega
    have := (List.getElem?_eq_some_iff.mp (w.p _ _ (List.getElem?_eq_getElem h1))).1
    omega

/-! ### blocks, simple statements -/
def aNext : AS := fun A δ κ => A.nx δ κ
def aSeq (f g : AS) : AS := fun A δ κ => f { A with nx := g A } δ κ
def aDrop (f : AE) : AS := fun A δ κ => f δ κ fun _ κ1 => A.nx δ κ1
def aRet (f : AE) : AS := fun A δ κ => f δ κ A.rt
def aRetN : AS := fun A _ κ => A.rt (.d .none) κ
def aBrk : AS := fun A δ κ => A.bk δ κ
def aCont : AS := fun A δ κ => A.ct δ κ
def aNever : AS := fun _ _ _ => False
def aIfS (p : AT) (f g : AS) : AS := fun A δ κ => p δ κ fun b κ1 => bsel b (f A δ κ1) (g A δ κ1)
variable {st : Stmt} {rest : List Stmt} {t1 t2 : TS} {f1 g1 : AS} {tc : TT} {pc : AT}
theorem sa_nil : PSsa K X [] tNext aNext := ⟨pss_nil, fun B ρ δ κ σ H A D s g l h i => i.nx _ _ _ _ _ _ UpN.refl g s l h⟩
theorem sa_cons (h1 : PSa K X st t1 f1) (h2 : PSsa K X rest t2 g1) : PSsa K X (st :: rest) (tSeq t1 t2) (aSeq f1 g1) :=
  ⟨pss_cons h1.ps h2.ps, fun B ρ δ κ σ H A D s g l h i => h1.sd B ρ δ κ σ H { A with nx := g1 A } { D with nx := t2 D } s g l h (i.nxTo fun B' ρ' κ' H' δ' σ' w g' s' l' h' => h2.sd _ _ _ _ _ _ _ _ s' g' l' h' (i.later w))⟩
/-- a word between a statement and the rest -/
def aCut (f g : AS) : AS := fun A δ κ => ∃ M : AD → AK → Prop, f { A with nx := M } δ κ ∧ ∀ δ' κ', M δ' κ' → A.n ≤ κ'.length → g A δ' κ'
theorem sa_cut (h1 : PSa K X st t1 f1) (h2 : PSsa K X rest t2 g1) : PSsa K X (st :: rest) (tSeq t1 t2) (aCut f1 g1) :=
  ⟨pss_cons h1.ps h2.ps, fun B ρ δ κ σ H A D s g l ⟨M, h, hM⟩ i => h1.sd B ρ δ κ σ H { A with nx := M } { D with nx := t2 D } s g l h (i.nxTo fun B' ρ' κ' H' δ' σ' w g' s' l' h' => h2.sd _ _ _ _ _ _ _ _ s' g' l' (hM _ _ h' l') (i.later w))⟩
theorem sa_one (h1 : PSa K X st t1 f1) : PSsa K X [st] t1 f1 := ⟨pss_one h1.ps, h1.sd⟩
theorem sa_pass : PSa K X (.Pass pos) tNext aNext := ⟨ps_pass, (sa_nil (X := X)).sd⟩
theorem sa_brk : PSa K X (.Break pos) tBreak aBrk := ⟨ps_break, fun B ρ δ κ σ H A D s g l h i => i.bk _ _ _ _ _ _ UpN.refl g s l h⟩
theorem sa_cont : PSa K X (.Continue pos) tCont aCont := ⟨ps_continue, fun B ρ δ κ σ H A D s g l h i => i.ct _ _ _ _ _ _ UpN.refl g s l h⟩
theorem sa_nevers {sts : List Stmt} : PSsa K X sts tNever aNever := ⟨pss_never, fun B ρ δ κ σ H A D s g l h i => h.elim⟩
theorem sa_never : PSa K X st tNever aNever := ⟨ps_never, fun B ρ δ κ σ H A D s g l h i => h.elim⟩
theorem sa_drop (h : PEa K X e t f) (hs : swapsWith e none pos.line X.env = pure false := by rfl) : PSa K X (.Expr e pos) (tDrop t) (aDrop f) :=
  ⟨ps_expr h.pe hs, fun B ρ δ κ σ H A D s g l hh i => h.sd B ρ δ κ σ H _ _ s g hh fun B' ρ' κ' H' a v w g' r h' => i.nx _ _ _ _ _ _ w.n g' (s.up w.g) (Nat.le_trans l (w.len g g')) h'⟩
theorem sa_ret (h : PEa K X e t f) : PSa K X (.Return (some e) pos) (tRet t) (aRet f) :=
  ⟨ps_ret h.pe, fun B ρ δ κ σ H A D s g l hh i => h.sd B ρ δ κ σ H _ _ s g hh fun B' ρ' κ' H' a v w g' r h' => i.rt _ _ _ _ _ _ w.n g' r (Nat.le_trans l (w.len g g')) h'⟩
theorem sa_retN : PSa K X (.Return none pos) tRetN aRetN := ⟨ps_retN, fun B ρ δ κ σ H A D s g l hh i => i.rt _ _ _ _ _ _ UpN.refl g rp_non l hh⟩
theorem sa_if {c : Expr} {bt bf : List Stmt} {u1 u2 : TS} {k1 k2 : AS} (hc : PTa K X c tc pc) (h1 : PSsa K X bt u1 k1) (h2 : PSsa K X bf u2 k2) : PSa K X (.If c bt bf pos) (tIfS tc u1 u2) (aIfS pc k1 k2) :=
  ⟨ps_if hc.pt h1.ps h2.ps, fun B ρ δ κ σ H A D s g l hh i => hc.sd B ρ δ κ σ H _ _ s g hh fun B' ρ' κ' H' b w g' h' => by
    have l' := Nat.le_trans l (w.len g g')
    cases b with
    | true => exact iteT (h1.sd _ _ _ _ _ _ _ _ (s.up w.g) g' l' h' (i.later w.n))
    | false => exact iteF (h2.sd _ _ _ _ _ _ _ _ (s.up w.g) g' l' h' (i.later w.n))⟩

/-! ### another description of the same: what is frozen, what is forgotten -/
def GhS (K : PySem.W.Frag) (n : Nat) (δ : AD) (κ : AK) (δ' : AD) (κ' : AK) : Prop := n ≤ κ'.length ∧ ∀ B ρ σ H, S K B ρ δ σ → G K B ρ κ H → ∃ B' ρ', UpN n B ρ H B' ρ' H ∧ S K B' ρ' δ' σ ∧ G K B' ρ' κ' H
def aGh (K : PySem.W.Frag) (f : AS) : AS := fun A δ κ => ∃ δ' κ', GhS K A.n δ κ δ' κ' ∧ f A δ' κ'
theorem ss_gh {t : TS} {f : AS} (h : SS K t f) : SS K t (aGh K f) := fun B ρ δ κ σ H A D s g l ⟨δ', κ', ⟨l', gh⟩, hf⟩ i => by
  obtain ⟨B', ρ', w, s', g'⟩ := gh B ρ σ H s g
  exact h B' ρ' δ' κ' σ H A D s' g' l' hf (i.later w)
theorem sa_gh {sts : List Stmt} (h : PSsa K X sts t1 f1) : PSsa K X sts t1 (aGh K f1) := ⟨h.ps, ss_gh h.sd⟩
theorem sa_gh1 (h : PSa K X st t1 f1) : PSa K X st t1 (aGh K f1) := ⟨h.ps, ss_gh h.sd⟩
theorem GhS.refl {n : Nat} (l : n ≤ κ.length) : GhS K n δ κ δ κ := ⟨l, fun B ρ σ H s g => ⟨B, ρ, UpN.refl, s, g⟩⟩
theorem GhS.trans {n : Nat} {δ' δ2 : AD} {κ' κ2 : AK} (a : GhS K n δ κ δ' κ') (b : GhS K n δ' κ' δ2 κ2) : GhS K n δ κ δ2 κ2 := ⟨b.1, fun B ρ σ H s g => by
  obtain ⟨B', ρ', w, s', g'⟩ := a.2 B ρ σ H s g
  obtain ⟨B2, ρ2, w2, s2, g2⟩ := b.2 B' ρ' σ H s' g'
  exact ⟨B2, ρ2, w.trans w2, s2, g2⟩⟩
/-- slots forgotten -/
theorem GhS.forget {n : Nat} {δ' : AD} (l : n ≤ κ.length) (hl : δ'.length = δ.length) (h : ∀ (i : Nat) (a : AV), δ'[i]? = some (some a) → δ[i]? = some (some a)) : GhS K n δ κ δ' κ :=
  ⟨l, fun B ρ σ H s g => ⟨B, ρ, UpN.refl, ⟨hl.trans s.len, fun i a e => s.at' i a (h i a e)⟩, g⟩⟩
/-- c k is the datum x from now on -/
def fzA (k : Nat) (x : PyData) : AV → AV
  | .c j => if j = k then .d x else .c j
  | a => a
theorem Rep.fz {q : PyData} (u : Ug B ρ B' ρ) (hk : ∀ p, ρ[k]? = some p → Dp K B' (.ref p) q) {a : AV} {v : V} (r : Rep K B ρ a v) : Rep K B' ρ (fzA k q a) v := by
  cases a with
  | d x => exact Rep.up u r
  | r w => exact r
  | c j =>
    show Rep K B' ρ (if j = k then .d q else .c j) v
    by_cases e : j = k
    · rw [if_pos e]
      obtain ⟨p, hp, rfl⟩ := r
      subst e
      exact hk p hp
    · rw [if_neg e]
      exact Rep.up u r
def fzC (k : Nat) (x : PyData) : Cell → Cell
  | .lst xs => .lst (xs.map (fzA k x))
  | .tup xs => .tup (xs.map (fzA k x))
  | .ins C fs => .ins C (fs.map fun p => (p.1, fzA k x p.2))
  | c => c
theorem Reps.fz {q : PyData} (u : Ug B ρ B' ρ) (hk : ∀ p, ρ[k]? = some p → Dp K B' (.ref p) q) : ∀ {as : List AV} {vs : List V}, Reps K B ρ as vs → Reps K B' ρ (as.map (fzA k q)) vs
  | _, _, .nil => .nil
  | _, _, .cons h1 h2 => .cons (h1.fz u hk) (Reps.fz u hk h2)
theorem RepKs.fz {ι : Type} {q : PyData} (u : Ug B ρ B' ρ) (hk : ∀ p, ρ[k]? = some p → Dp K B' (.ref p) q) : ∀ {as : List (ι × AV)} {vs : List (ι × V)}, RepKs K B ρ as vs → RepKs K B' ρ (as.map fun p => (p.1, fzA k q p.2)) vs
  | _, _, .nil => .nil
  | _, _, .cons h1 h2 => .cons ⟨h1.1, h1.2.fz u hk⟩ (RepKs.fz u hk h2)
/-- the list at k is frozen -/
theorem freeze_core (g : G K B ρ κ H) {xs : List PyData} (ek : κ[k]? = some (.ld xs)) : ∃ B' p, ρ[k]? = some p ∧ Up B ρ H B' ρ H ∧ Dp K B' (.ref p) (.list xs) ∧ G K B' ρ ((κ.set k .dead).map (fzC k (.list xs))) H := by
  obtain ⟨p, hp, hb, vs, d, eH⟩ := g.cell ek
  have hsame : Same B (upd B p (.lst vs)) := same_upd hb
  have hB : (upd B p (.lst vs)) p = some (.lst vs) := upd_same
  have u : Up B ρ H (upd B p (.lst vs)) ρ H := ⟨hsame, fun _ _ h => h, fun q o h1 h2 h3 => by
    have hq : q ≠ p := fun e => h3 (e ▸ mem_of_get hp)
    rw [upd_ne hq]; exact ⟨h1, h2, h3⟩⟩
  have dd : Dp K (upd B p (.lst vs)) (.ref p) (.list xs) := .lst (.inl (.inl hB)) (dpa_up hsame _ _ d)
  have hk : ∀ q, ρ[k]? = some q → Dp K (upd B p (.lst vs)) (.ref q) (.list xs) := fun q hq => by rw [hp] at hq; cases hq; exact dd
  refine ⟨_, p, hp, u, dd, ⟨fun b o e => ?_, by simp [g.len], g.inj, fun i q c h1 h2 => ?_⟩⟩
  · by_cases hbp : b = p
    · subst hbp; rw [upd_same] at e; rw [eH]; exact e
    · rw [upd_ne hbp] at e; exact g.ex b o e
  · rw [List.getElem?_map] at h2
    by_cases e : k = i
    · subst e
      rw [hp] at h1; cases h1
      rw [List.getElem?_set_self (List.getElem?_eq_some_iff.mp ek).1] at h2
      cases h2
      show H p ≠ none
      rw [eH]; simp
    · rw [List.getElem?_set_ne e] at h2
      have hq : q ≠ p := fun z => by subst z; exact e (g.inj k i q hp h1)
      obtain ⟨c0, hc0, rfl⟩ := Option.map_eq_some_iff.mp h2
      have ok := g.at' i q c0 h1 hc0
      have hbq : ∀ {z}, B q = z → upd B p (.lst vs) q = z := fun h => by rw [upd_ne hq]; exact h
      cases c0 with
      | dead => exact ok
      | ld ys => obtain ⟨n, ws, r, e⟩ := ok; exact ⟨hbq n, ws, dpa_up hsame _ _ r, e⟩
      | lst ys => obtain ⟨n, ws, r, e⟩ := ok; exact ⟨hbq n, ws, Reps.fz u.g hk r, e⟩
      | tup ys => obtain ⟨n, ws, r, e⟩ := ok; exact ⟨hbq n, ws, Reps.fz u.g hk r, e⟩
      | dK ys => obtain ⟨n, ws, r, e⟩ := ok; exact ⟨hbq n, ws, DpKs.up hsame r, e⟩
      | dT ys => obtain ⟨n, ws, r, e⟩ := ok; exact ⟨hbq n, ws, DpKs.up hsame r, e⟩
      | ins C ys => obtain ⟨n, dx, ws, r, e⟩ := ok; exact ⟨hbq n, dx, ws, RepKs.fz u.g hk r, e⟩
theorem GhS.freeze {n : Nat} (l : n ≤ κ.length) (k : Nat) (xs : List PyData) (ek : κ[k]? = some (.ld xs)) : GhS K n δ κ (δ.map (Option.map (fzA k (.list xs)))) ((κ.set k .dead).map (fzC k (.list xs))) := by
  refine ⟨by simpa using l, fun B ρ σ H s g => ?_⟩
  obtain ⟨B', p, hp, u, dd, g'⟩ := freeze_core g ek
  refine ⟨B', ρ, u.n, ⟨by simpa using s.len, fun i a e => ?_⟩, g'⟩
  rw [List.getElem?_map] at e
  obtain ⟨o, ho, e⟩ := Option.map_eq_some_iff.mp e
  obtain ⟨a0, rfl, rfl⟩ := Option.map_eq_some_iff.mp e
  obtain ⟨v, e1, r⟩ := s.at' i a0 ho
  exact ⟨v, e1, r.fz u.g fun q hq => by rw [hp] at hq; cases hq; exact dd⟩
/-- references below n -/
def okA (n : Nat) : AV → Bool
  | .c k => decide (k < n)
  | _ => true
def okC (n : Nat) : Cell → Bool
  | .lst xs => xs.all (okA n)
  | .tup xs => xs.all (okA n)
  | .ins _ fs => fs.all fun p => okA n p.2
  | _ => true
theorem Rep.cut {m : Nat} (h : okA m a = true) (r : Rep K B ρ a v) : Rep K B (ρ.take m) a v := by
  cases a with
  | d x => exact r
  | r w => exact r
  | c j =>
    obtain ⟨p, hp, e⟩ := r
    have hj : j < m := of_decide_eq_true h
    exact ⟨p, by rw [List.getElem?_take_of_lt hj]; exact hp, e⟩
theorem Reps.cutR {m : Nat} : ∀ {as : List AV} {vs : List V}, as.all (okA m) = true → Reps K B ρ as vs → Reps K B (ρ.take m) as vs
  | _, _, _, .nil => .nil
  | _, _, h, .cons h1 h2 => by
    rw [List.all_cons, Bool.and_eq_true] at h
    exact .cons (h1.cut h.1) (Reps.cutR h.2 h2)
theorem RepKs.cutR {ι : Type} {m : Nat} : ∀ {as : List (ι × AV)} {vs : List (ι × V)}, (as.all fun p => okA m p.2) = true → RepKs K B ρ as vs → RepKs K B (ρ.take m) as vs
  | _, _, _, .nil => .nil
  | _, _, h, .cons h1 h2 => by
    rw [List.all_cons, Bool.and_eq_true] at h
    exact .cons ⟨h1.1, h1.2.cut h.1⟩ (RepKs.cutR h.2 h2)
theorem G.take (g : G K B ρ κ H) (m : Nat) (h : (κ.take m).all (okC m) = true) : G K B (ρ.take m) (κ.take m) H := by
  refine ⟨g.ex, by rw [List.length_take, List.length_take, g.len], fun i j p h1 h2 => ?_, fun i p c h1 h2 => ?_⟩
  · have e1 : ρ[i]? = some p := by
      have := (List.getElem?_eq_some_iff.mp h1).1
      rw [List.length_take] at this
      rw [List.getElem?_take_of_lt (by omega)] at h1; exact h1
    have e2 : ρ[j]? = some p := by
      have := (List.getElem?_eq_some_iff.mp h2).1
      rw [List.length_take] at this
      rw [List.getElem?_take_of_lt (by omega)] at h2; exact h2
    exact g.inj i j p e1 e2
  · have hi : i < m := by
      have := (List.getElem?_eq_some_iff.mp h1).1
      rw [List.length_take] at this; omega
    have hc : okC m c = true := List.all_eq_true.mp h c (mem_of_get h2)
    rw [List.getElem?_take_of_lt hi] at h1 h2
    have ok := g.at' i p c h1 h2
    cases c with
    | dead => exact ok
    | ld ys => exact ok
    | lst ys => obtain ⟨n, ws, r, e⟩ := ok; exact ⟨n, ws, Reps.cutR hc r, e⟩
    | tup ys => obtain ⟨n, ws, r, e⟩ := ok; exact ⟨n, ws, Reps.cutR hc r, e⟩
    | dK ys => exact ok
    | dT ys => exact ok
    | ins C ys => obtain ⟨n, dx, ws, r, e⟩ := ok; exact ⟨n, dx, ws, RepKs.cutR hc r, e⟩
theorem UpN.take {n m : Nat} (h : n ≤ m) : UpN n B ρ H B (ρ.take m) H := ⟨Same.refl B, fun i a hi e => by rw [List.getElem?_take_of_lt (Nat.lt_of_lt_of_le hi h)]; exact e, fun p o h1 h2 h3 => ⟨h1, h2, fun z => h3 (List.mem_of_mem_take z)⟩⟩
def okD (n : Nat) (δ : AD) : Bool := δ.all fun o => match o with
  | some a => okA n a
  | none => true
/-- the cells from m on are forgotten -/
theorem GhS.take {n : Nat} (m : Nat) (l : n ≤ m) (l2 : m ≤ κ.length) (h : (κ.take m).all (okC m) = true) (hd : okD m δ = true) : GhS K n δ κ δ (κ.take m) := by
  refine ⟨by rw [List.length_take]; omega, fun B ρ σ H s g => ⟨B, ρ.take m, UpN.take l, ⟨s.len, fun i a e => ?_⟩, g.take m h⟩⟩
  obtain ⟨v, e1, r⟩ := s.at' i a e
  have := List.all_eq_true.mp hd (some a) (mem_of_get e)
  exact ⟨v, e1, r.cut this⟩
/-- of a value -/
def GhR (K : PySem.W.Frag) (n : Nat) (a : AV) (κ : AK) (a' : AV) (κ' : AK) : Prop := n ≤ κ'.length ∧ ∀ B ρ H v, G K B ρ κ H → Rep K B ρ a v → ∃ B' ρ', UpN n B ρ H B' ρ' H ∧ Rep K B' ρ' a' v ∧ G K B' ρ' κ' H
theorem GhR.refl {n : Nat} (l : n ≤ κ.length) : GhR K n a κ a κ := ⟨l, fun B ρ H v g r => ⟨B, ρ, UpN.refl, r, g⟩⟩
theorem GhR.trans {n : Nat} {a' a2 : AV} {κ' κ2 : AK} (x : GhR K n a κ a' κ') (y : GhR K n a' κ' a2 κ2) : GhR K n a κ a2 κ2 := ⟨y.1, fun B ρ H v g r => by
  obtain ⟨B', ρ', w, s', g'⟩ := x.2 B ρ H v g r
  obtain ⟨B2, ρ2, w2, s2, g2⟩ := y.2 B' ρ' H v g' s'
  exact ⟨B2, ρ2, w.trans w2, s2, g2⟩⟩
theorem GhR.freeze {n : Nat} (l : n ≤ κ.length) (k : Nat) (xs : List PyData) (ek : κ[k]? = some (.ld xs)) : GhR K n a κ (fzA k (.list xs) a) ((κ.set k .dead).map (fzC k (.list xs))) := by
  refine ⟨by simpa using l, fun B ρ H v g r => ?_⟩
  obtain ⟨B', p, hp, u, dd, g'⟩ := freeze_core g ek
  exact ⟨B', ρ, u.n, r.fz u.g fun q hq => by rw [hp] at hq; cases hq; exact dd, g'⟩
theorem GhR.take {n : Nat} (m : Nat) (l : n ≤ m) (l2 : m ≤ κ.length) (h : (κ.take m).all (okC m) = true) (hd : okA m a = true) : GhR K n a κ a (κ.take m) :=
  ⟨by rw [List.length_take]; omega, fun B ρ H v g r => ⟨B, ρ.take m, UpN.take l, r.cut hd, g.take m h⟩⟩
end Ab
set_option Elab.async false
set_option linter.all false
set_option maxRecDepth 100000
set_option maxHeartbeats 4000000
/-! Ab5: targets, what is walked, loops, comprehensions -/
namespace Ab
open PySem L2
variable {K : PySem.W.Frag} {B B' B2 H H' H2 : Hp} {ρ ρ' ρ2 : List Addr} {κ κ' : AK} {δ : AD} {σ : L2.St} {p : Addr} {k : Nat} {v x y z : V} {a b c : AV}
variable {X : Cx} {e e2 : Expr} {t u : TE} {f f2 : AE} {pos : Pos}

/-! ### targets -/
abbrev AG := AV → AD → AK → (AD → AK → Prop) → Prop
abbrev AGs := List AV → AD → AK → (AD → AK → Prop) → Prop
def SG (K : PySem.W.Frag) (t : TG) (g : AG) : Prop := ∀ B ρ δ κ σ H a v (R : AD → AK → Prop) (Q : L2.St → Hp → Prop), S K B ρ δ σ → G K B ρ κ H → Rep K B ρ a v → g a δ κ R →
  (∀ B' ρ' δ' κ' σ' H', Up B ρ H B' ρ' H' → S K B' ρ' δ' σ' → G K B' ρ' κ' H' → R δ' κ' → Q σ' H') → t v σ H Q
def SGs (K : PySem.W.Frag) (t : TGs) (g : AGs) : Prop := ∀ B ρ δ κ σ H as vs (R : AD → AK → Prop) (Q : L2.St → Hp → Prop), S K B ρ δ σ → G K B ρ κ H → Reps K B ρ as vs → g as δ κ R →
  (∀ B' ρ' δ' κ' σ' H', Up B ρ H B' ρ' H' → S K B' ρ' δ' σ' → G K B' ρ' κ' H' → R δ' κ' → Q σ' H') → t vs σ H Q
structure PGa (K : PySem.W.Frag) (X : Cx) (tg : Expr) (t : TG) (g : AG) : Prop where
  pg : PG X tg t
  sd : SG K t g
structure PGsa (K : PySem.W.Frag) (X : Cx) (tgs : List Expr) (t : TGs) (g : AGs) : Prop where
  pg : PGs X tgs t
  sd : SGs K t g
def aName (i : Nat) : AG := fun a δ κ R => R (δ.set i (some a)) κ
def aGNil : AGs := fun as δ κ R => match as with
  | [] => R δ κ
  | _ => False
def aGCons (g : AG) (gs : AGs) : AGs := fun as δ κ R => match as with
  | a :: r => g a δ κ fun δ' κ' => gs r δ' κ' R
  | [] => False
/-- a tuple is taken apart -/
def aGTup (n : Nat) (gs : AGs) : AG := fun a δ κ R => match a with
  | .d (.tuple ds) => ds.length = n ∧ gs (ds.map .d) δ κ R
  | .c k => match κ[k]? with
    | some (.tup xs) => xs.length = n ∧ gs xs δ κ R
    | _ => False
  | _ => False
theorem ga_name {i : Nat} {x : Str} (hN : X.N.Nodup) (hi : X.N[i]? = some x) (hx : Loc X.env.scope x) (hf : X.fn x = true ∨ X.env.scope.names.lookup x = some .local := by first | exact .inl rfl | exact .inr rfl | assumption) : PGa K X (.Name x pos) (gName i) (aName i) :=
  ⟨pg_name hN hi hx hf, fun B ρ δ κ σ H a v R Q s g r h q => q _ _ _ _ _ _ Up.refl (s.set r) g h⟩
variable {es : List Expr} {tg : TG} {tgs : TGs} {ag : AG} {ags : AGs}
theorem gsa_nil : PGsa K X [] gNil aGNil := ⟨pgs_nil, fun B ρ δ κ σ H as vs R Q s g r h q => by
  unfold aGNil at h
  split at h
  · cases r; exact ⟨rfl, q _ _ _ _ _ _ Up.refl s g h⟩
  · exact h.elim⟩
theorem gsa_cons (h1 : PGa K X e tg ag) (h2 : PGsa K X es tgs ags) (hs : (assignEach (e :: es) X.env).map (·.2) = assign e X.env :: (assignEach es X.env).map (·.2) := by rfl) : PGsa K X (e :: es) (gCons tg tgs) (aGCons ag ags) :=
  ⟨pgs_cons h1.pg h2.pg hs, fun B ρ δ κ σ H as vs R Q s g r h q => by
    unfold aGCons at h
    split at h
    · cases r with
      | cons r1 r2 =>
        exact ⟨_, _, rfl, h1.sd _ _ _ _ _ _ _ _ _ _ s g r1 h fun B' ρ' δ' κ' σ' H' w s' g' h' => h2.sd _ _ _ _ _ _ _ _ _ _ s' g' (Reps.up w.g r2) h' fun _ _ _ _ _ _ w2 s2 g2 k2 => q _ _ _ _ _ _ (w.trans w2) s2 g2 k2⟩
    · exact h.elim⟩
theorem ga_tup {kk : Nat} {n : Nat} (hc : X.calm = true) (h : PGsa K X es tgs ags) (hn : (assignEach es X.env).length = n := by rfl) (hst : (assignEach es X.env).findIdx? (·.1) = none := by rfl) (hK : X.K = K := by rfl) : PGa K X (.Tuple es kk pos) (gTup K n tgs) (aGTup n ags) := by
  subst hK
  exact ⟨pg_tup hc h.pg hn hst, fun B ρ δ κ σ H a v R Q s g r hh q => by
    unfold aGTup at hh
    split at hh
    · obtain ⟨p, vs, rfl, s1, d1⟩ := of_tupG g r
      exact ⟨p, vs, rfl, s1, by rw [dpa_len d1]; exact hh.1, h.sd _ _ _ _ _ _ _ _ _ _ s g (Reps.all d1) hh.2 q⟩
    · obtain ⟨p, hp, rfl⟩ := r
      split at hh
      · rename_i xs ek
        obtain ⟨p', hp', _, vs, r, eH⟩ := g.cell ek
        rw [hp] at hp'; cases hp'
        exact ⟨p, vs, rfl, .inl (.inl eH), by rw [← r.len]; exact hh.1, h.sd _ _ _ _ _ _ _ _ _ _ s g r hh.2 q⟩
      · exact hh.elim
    · exact hh.elim⟩
/-- o[i] = v -/
abbrev ASet := AV → AV → AV → AK → (AK → Prop) → Prop
def SSet (K : PySem.W.Frag) (t : TSet) (f : ASet) : Prop := ∀ B ρ κ H o i v ao ai a (R : AK → Prop) (Q : Hp → Prop), G K B ρ κ H → Rep K B ρ ao o → Rep K B ρ ai i → Rep K B ρ a v → f ao ai a κ R →
  (∀ B' ρ' κ' H', Up B ρ H B' ρ' H' → G K B' ρ' κ' H' → R κ' → Q H') → t o i v H Q
structure SetA (K : PySem.W.Frag) (X : Cx) (t : TSet) (f : ASet) : Prop where
  s : PSet X t
  sd : SSet K t f
def aGSub (fo fi : AE) (fs : ASet) : AG := fun a δ κ R => fo δ κ fun o κ1 => fi δ κ1 fun i κ2 => fs o i a κ2 fun κ3 => R δ κ3
theorem ga_sub {o i : Expr} {to ti : TE} {ts : TSet} {fo fi : AE} {fs : ASet} (ho : PEa K X o to fo) (hi : PEa K X i ti fi) (hs : SetA K X ts fs)
    (ha : ∀ v, assign (.Subscript o i pos) X.env v = (do
      let ov ← holding [v] (eval o X.env)
      let iv ← holding [v, ov] (eval i X.env)
      standAt pos
      holding [v, ov, iv] (setItem ov iv v)
      release [v, ov, iv] []) := by intro _; rfl) : PGa K X (.Subscript o i pos) (gSub to ti ts) (aGSub fo fi fs) :=
  ⟨pg_sub ho.pe hi.pe hs.s ha, fun B ρ δ κ σ H a v R Q s g r h q => ho.sd _ _ _ _ _ _ _ _ s g h fun B1 ρ1 κ1 H1 ao vo w1 g1 r1 h1 => hi.sd _ _ _ _ _ _ _ _ (s.up w1.g) g1 h1 fun B2 ρ2 κ2 H2 ai vi w2 g2 r2 h2 =>
    hs.sd _ _ _ _ _ _ _ _ _ _ _ _ g2 (r1.up w2.g) r2 (r.up (w1.trans w2).g) h2 fun B3 ρ3 κ3 H3 w3 g3 h3 => q _ _ _ _ _ _ ((w1.trans w2).trans w3) (s.up ((w1.trans w2).trans w3).g) g3 h3⟩
def aSetL : ASet := fun o i a κ R => match o, i with
  | .c k, .d (.int i) => match κ[k]?, a with
    | some (.ld xs), .d x => ∃ j, ixN xs.length i = some j ∧ R (κ.set k (.ld (xs.set j x)))
    | some (.lst xs), a => ∃ j, ixN xs.length i = some j ∧ R (κ.set k (.lst (xs.set j a)))
    | _, _ => False
  | _, _ => False
theorem dpa_set : ∀ {ds : List PyData} {vs : List V} (i : Nat) {d : PyData} {v : V}, DpAll K B vs ds → Dp K B v d → DpAll K B (vs.set i v) (ds.set i d)
  | [], _, _, _, _, h, _ => by cases h; exact .nil
  | d :: ds, _, i, _, _, h, r => by
    cases h with
    | cons h1 h2 =>
      cases i with
      | zero => exact .cons r h2
      | succ i => exact .cons h1 (dpa_set i h2 r)
theorem sta_list : SetA K X rSetL aSetL := ⟨set_list, fun B ρ κ H o i v ao ai a R Q g ro ri rv h q => by
  unfold aSetL at h
  split at h
  · obtain ⟨p, hp, rfl⟩ := ro
    cases ri.int
    split at h
    · rename_i xs x ek
      obtain ⟨j, hj, h⟩ := h
      obtain ⟨vs, r, eH, wr⟩ := g.ldAt hp ek
      obtain ⟨w, g'⟩ := wr _ _ (dpa_set j r rv)
      exact ⟨p, vs, _, j, rfl, rfl, eH, by rw [dpa_len r]; exact hj, q _ _ _ _ w g' h⟩
    · rename_i xs a ek
      obtain ⟨j, hj, h⟩ := h
      obtain ⟨vs, r, eH, wr⟩ := g.lstAt hp ek
      obtain ⟨w, g'⟩ := wr _ _ (r.set j rv)
      exact ⟨p, vs, _, j, rfl, rfl, eH, by rw [← r.len]; exact hj, q _ _ _ _ w g' h⟩
    · exact h.elim
  · exact h.elim⟩

/-! ### assignments -/
def aAsg (f : AE) (g : AG) : AS := fun A δ κ => f δ κ fun a κ1 => g a δ κ1 A.nx
abbrev aSet (i : Nat) (f : AE) : AS := aAsg f (aName i)
theorem ss_asg (h : SE K t f) (hg : SG K tg ag) : SS K (tAsg t tg) (aAsg f ag) := fun B ρ δ κ σ H A D s g l hh i => h B ρ δ κ σ H _ _ s g hh fun B1 ρ1 κ1 H1 a v w1 g1 r1 h1 =>
  hg _ _ _ _ _ _ _ _ _ _ (s.up w1.g) g1 r1 h1 fun B2 ρ2 δ2 κ2 σ2 H2 w2 s2 g2 h2 => i.nx _ _ _ _ _ _ (w1.trans w2).n g2 s2 (Nat.le_trans l ((w1.trans w2).len g g2)) h2
theorem sa_asg {tge : Expr} (h : PEa K X e t f) (hg : PGa K X tge tg ag) (hs : swapsWithSole [tge] e pos.line X.env = pure false := by rfl) (hw : swappedStores [tge] e X.env = pure none := by rfl)
    (h1 : (assignEach [tge] X.env).map (·.2) = [assign tge X.env] := by rfl) : PSa K X (.Assign [tge] e pos) (tAsg t tg) (aAsg f ag) := ⟨ps_asg h.pe hg.pg hs hw h1, ss_asg h.sd hg.sd⟩
theorem sg_name {i : Nat} : SG K (gName i) (aName i) := fun B ρ δ κ σ H a v R Q s g r h q => q _ _ _ _ _ _ Up.refl (s.set r) g h
theorem sa_set {i : Nat} {x : Str} {pos' : Pos} (hN : X.N.Nodup) (hi : X.N[i]? = some x) (hx : Loc X.env.scope x) (h : PEa K X e t f) (hs : swapsWith e (some (.Name x pos')) pos.line X.env = pure false := by rfl) (hf : X.fn x = true ∨ X.env.scope.names.lookup x = some .local := by first | exact .inl rfl | exact .inr rfl | assumption) :
    PSa K X (.Assign [.Name x pos'] e pos) (tAsg t (gName i)) (aSet i f) := ⟨ps_set hN hi hx h.pe hs hf, ss_asg h.sd sg_name⟩
/-- x += e -/
def aAug (i : Nat) (f : AE) (o : AO) : AS := fun A δ κ => match δ[i]? with
  | some (some a) => f δ κ fun b κ1 => o a b κ1 fun c κ2 => A.nx (δ.set i (some c)) κ2
  | _ => False
theorem sa_aug {i : Nat} {x : Str} {pos' : Pos} {op : Operator} {ti : TIp} {o : AO} (hN : X.N.Nodup) (hi : X.N[i]? = some x) (hx : Loc X.env.scope x) (h : PEa K X e t f) (ho : PIp X op ti) (hs : SR K ti o)
    (hf : X.fn x = true ∨ X.env.scope.names.lookup x = some .local := by first | exact .inl rfl | exact .inr rfl | assumption) : PSa K X (.AugAssign (.Name x pos') op e pos) (tAug i t ti) (aAug i f o) :=
  ⟨ps_aug hN hi hx h.pe ho hf, fun B ρ δ κ σ H A D s g l hh im => by
    unfold aAug at hh
    split at hh
    · rename_i a ea
      obtain ⟨v, ev, r⟩ := s.at' i a ea
      refine ⟨v, ev, h.sd B ρ δ κ σ H _ _ s g hh fun B1 ρ1 κ1 H1 b vb w1 g1 r1 h1 => ?_⟩
      refine hs _ _ _ _ _ _ _ _ _ _ g1 (r.up w1.g) r1 h1 fun B2 ρ2 κ2 H2 c vc w2 g2 r2 h2 => ?_
      exact im.nx _ _ _ _ _ _ (w1.trans w2).n g2 ((s.up (w1.trans w2).g).set r2) (Nat.le_trans l ((w1.trans w2).len g g2)) h2
    · exact hh.elim⟩
theorem sr_ipI {f : Int → Int → Int} : SR K (ipI f) (aI0 f) := sr_I0
theorem sa_inc {i : Nat} {x : Str} {pos' : Pos} (hN : X.N.Nodup) (hi : X.N[i]? = some x) (hx : Loc X.env.scope x) (h : PEa K X e t f)
    (hf : X.fn x = true ∨ X.env.scope.names.lookup x = some .local := by first | exact .inl rfl | exact .inr rfl | assumption) : PSa K X (.AugAssign (.Name x pos') .Add e pos) (tAug i t (ipI fun i j => i + j)) (aAug i f (aI0 fun i j => i + j)) := sa_aug hN hi hx h ip_add sr_ipI hf

/-! ### while -/
variable {t1 t2 : TS} {f1 g1 : AS} {tc : TT} {pc : AT}
def aWhile (p : AT) (f : AS) : AS := fun A δ κ => ∃ W : Nat → AD → AK → Prop, (∃ m, W m δ κ) ∧ ∀ m δ' κ', W m δ' κ' → κ.length ≤ κ'.length →
  p δ' κ' fun b κ1 => bsel b (∃ N : AD → AK → Prop, (∀ δ2 κ2, N δ2 κ2 → ∃ m', m' < m ∧ W m' δ2 κ2) ∧ f { n := κ.length, nx := N, ct := N, bk := A.nx, rt := A.rt } δ' κ1) (A.nx δ' κ1)
/-- a later state, seen from the loop's start -/
def Later (K : PySem.W.Frag) (B : Hp) (ρ : List Addr) (H : Hp) (n : Nat) (P : AD → AK → Prop) (σ : L2.St) (H' : Hp) : Prop := ∃ B' ρ' δ' κ', UpN n B ρ H B' ρ' H' ∧ S K B' ρ' δ' σ ∧ G K B' ρ' κ' H' ∧ n ≤ κ'.length ∧ P δ' κ'
theorem UpN.mono {n m : Nat} (w : UpN m B ρ H B' ρ' H') (h : n ≤ m) : UpN n B ρ H B' ρ' H' := ⟨w.s, fun i a hi e => w.p i a (Nat.lt_of_lt_of_le hi h) e, w.f⟩
theorem sa_while {c : Expr} {body : List Stmt} (hp : PassesOwn (model X.prog X.w) X.A X.env X.xe) (hc : PTa K X c tc pc) (hb : PSsa K X body t1 f1) : PSa K X (.While c body [] pos) (tWhile tc t1) (aWhile pc f1) :=
  ⟨ps_while hp hc.pt hb.ps, fun B ρ δ κ σ H A D s g l ⟨W, ⟨m0, w0⟩, turn⟩ im => by
    refine ⟨fun m σ' H' => Later K B ρ H κ.length (W m) σ' H', ⟨m0, B, ρ, δ, κ, UpN.refl, s, g, Nat.le_refl _, w0⟩, fun m σ' H' hW => ?_⟩
    obtain ⟨B1, ρ1, δ1, κ1, w1, s1, g1, l1, hw⟩ := hW
    refine hc.sd B1 ρ1 δ1 κ1 σ' H' _ _ s1 g1 (turn m δ1 κ1 hw l1) fun B2 ρ2 κ2 H2 b w2 g2 h2 => ?_
    have l2 : κ.length ≤ κ2.length := Nat.le_trans l1 (w2.len g1 g2)
    have w12 : UpN κ.length B ρ H B2 ρ2 H2 := w1.trans w2.n
    have im2 := im.later (w12.mono l)
    cases b with
    | false => exact iteF (im.nx _ _ _ _ _ _ (w12.mono l) g2 (s1.up w2.g) (Nat.le_trans l l2) h2)
    | true =>
      obtain ⟨N, hN, h2⟩ := h2
      refine iteT ⟨fun σ3 H3 => Later K B ρ H κ.length N σ3 H3, ?_, ?_⟩
      · rintro σ3 H3 ⟨B3, ρ3, δ3, κ3, w3, s3, g3, l3, hn⟩
        obtain ⟨m', hm, hw'⟩ := hN _ _ hn
        exact ⟨m', hm, B3, ρ3, δ3, κ3, w3, s3, g3, l3, hw'⟩
      · refine hb.sd B2 ρ2 δ1 κ2 σ' H2 _ _ (s1.up w2.g) g2 l2 h2 ⟨?_, ?_, ?_, ?_⟩
        · exact fun B3 ρ3 κ3 H3 δ3 σ3 w3 g3 s3 l3 h3 => ⟨B3, ρ3, δ3, κ3, w12.trans w3, s3, g3, l3, h3⟩
        · exact fun B3 ρ3 κ3 H3 a v w3 g3 r3 l3 h3 => im.rt _ _ _ _ _ _ ((w12.trans w3).mono l) g3 r3 (Nat.le_trans l l3) h3
        · exact fun B3 ρ3 κ3 H3 δ3 σ3 w3 g3 s3 l3 h3 => im.nx _ _ _ _ _ _ ((w12.trans w3).mono l) g3 s3 (Nat.le_trans l l3) h3
        · exact fun B3 ρ3 κ3 H3 δ3 σ3 w3 g3 s3 l3 h3 => ⟨B3, ρ3, δ3, κ3, w12.trans w3, s3, g3, l3, h3⟩⟩

/-! ### what is walked -/
structure AIt where
  go : Nat → AK → Prop
  yld : Nat → AK → AV → Prop
  stop : Nat → AK → Prop
def RI (K : PySem.W.Frag) (B : Hp) (ρ : List Addr) (H : Hp) (J : It) (Ja : AIt) : Prop := ∀ B2 ρ2 κ2 H2, Up B ρ H B2 ρ2 H2 → G K B2 ρ2 κ2 H2 → ∀ i, (Ja.stop i κ2 → J.stop i H2) ∧
  (Ja.go i κ2 → J.go i H2 ∧ ∀ x H3, J.yld i H2 x H3 → ∃ B3 a, Up B2 ρ2 H2 B3 ρ2 H3 ∧ G K B3 ρ2 κ2 H3 ∧ Rep K B3 ρ2 a x ∧ Ja.yld i κ2 a)
abbrev AI := AD → AK → (AIt → AK → Prop) → Prop
def SI (K : PySem.W.Frag) (wi : TI) (ai : AI) : Prop := ∀ B ρ δ κ σ H (R : AIt → AK → Prop) (Q : It → Hp → Prop), S K B ρ δ σ → G K B ρ κ H → ai δ κ R →
  (∀ B' ρ' κ' H' J Ja, Up B ρ H B' ρ' H' → G K B' ρ' κ' H' → RI K B' ρ' H' J Ja → R Ja κ' → Q J H') → wi σ H Q
structure PIa (K : PySem.W.Frag) (X : Cx) (tg iter : Expr) (wi : TI) (ai : AI) : Prop where
  pi : PI X tg iter wi
  sd : SI K wi ai
/-- known items -/
def itD (xs : List PyData) : AIt := ⟨fun i _ => i < xs.length, fun i _ a => ∃ x, xs[i]? = some x ∧ a = .d x, fun i _ => xs.length ≤ i⟩
/-- the list at k, as it stands at each turn -/
def itC (k : Nat) : AIt := ⟨fun i κ => ∃ xs, κ[k]? = some (.ld xs) ∧ i < xs.length, fun i κ a => ∃ xs x, κ[k]? = some (.ld xs) ∧ xs[i]? = some x ∧ a = .d x, fun i κ => ∃ xs, κ[k]? = some (.ld xs) ∧ xs.length ≤ i⟩
def itR (lo : Int) (n : Nat) : AIt := ⟨fun i _ => i < n, fun i _ a => a = .d (.int (lo + i)), fun i _ => n ≤ i⟩
def itS (s : Str) : AIt := ⟨fun i _ => i < s.cps.size, fun i _ a => ∃ c, s.cps[i]? = some c ∧ a = .d (.str ⟨#[c]⟩), fun i _ => s.cps.size ≤ i⟩
def aIter (f : AE) : AI := fun δ κ R => f δ κ fun a κ1 => match a with
  | .d (.list xs) => R (itD xs) κ1
  | .d (.tuple xs) => R (itD xs) κ1
  | .d (.str s) => R (itS s) κ1
  | .c k => match κ1[k]? with
    | some (.ld _) => R (itC k) κ1
    | _ => False
  | _ => False
/-- a list, a tuple, a text: told by the value -/
def iAny (K : PySem.W.Frag) (tl : TE) : TI := fun σ H R => tl σ H fun w H1 =>
  (∃ a, w = .ref a ∧ (∃ ys, SqL K H1 a ys) ∧ R (Itl K a) H1) ∨ (∃ a, w = .ref a ∧ (∃ ys, SqT K H1 a ys) ∧ R (Itt K a) H1) ∨ ∃ z, w = .str z ∧ R (Its z) H1
theorem fresh_in {X : Cx} {pins : List (Addr × Obj)} {τ : L2.St} {H1 : Hp} {s1 : Shared} (I1 : Inv X pins τ H1 s1) {b : Addr} (hb : b ∈ [s1.heap.objs.size]) : FpOk X pins H1 b := by
  rcases List.mem_singleton.mp hb with rfl
  exact I1.fpOk Nat.le.refl (I1.hok.fresh Nat.le.refl)
theorem pi_any {X : Cx} {tge l : Expr} {tl : TE} (hl : PE X l tl) : PI X tge l (iAny X.K tl) := by
  constructor
  intro pins s τ H R I hw
  refine thn (hl.run pins s τ H _ I hw) ?_
  rintro u s1 ⟨w, H1, I1, ru, hq⟩
  rcases hq with ⟨a, rfl, ⟨ys, hy⟩, q⟩ | ⟨a, rfl, ⟨ys, hy⟩, q⟩ | ⟨z, rfl, q⟩
  · cases ru
    have ⟨its, _, pl, _⟩ := I1.list hy
    exact wpAny_pyIter_list pl.isList ⟨_, [s1.heap.objs.size], _, _, _, rfl, I1.kept fun _ _ => Heap.get?_push_of_some _, turn_list a _, ⟨_, Heap.get?_push_size _ rfl, rfl, rfl⟩, fun _ => fresh_in I1, q⟩
  · cases ru
    have ⟨its, _, pt, _⟩ := I1.tuple hy
    exact wpAny_pyIter_tuple pt ⟨_, [s1.heap.objs.size], _, _, _, rfl, I1.kept fun _ _ => Heap.get?_push_of_some _, turn_tuple a _, ⟨_, Heap.get?_push_size _ rfl, rfl, rfl⟩, fun _ => fresh_in I1, q⟩
  · obtain ⟨tk, rfl⟩ := ru
    by_cases hz : z.cps.all (· < 128) = true
    · exact wpAny_pyIter_ascii hz (pi_one (tk := s1.toks) I1 _ (turn_str _ z tk "str_ascii_iterator" (Or.inl rfl)) ⟨_, Heap.get?_push_size _ rfl, rfl, rfl⟩ q)
    · have hz' : z.cps.all (· < 128) = false := by simpa using hz
      exact wpAny_pyIter_wide hz' (pi_one (tk := s1.toks) I1 _ (turn_str _ z tk "str_iterator" (Or.inr rfl)) ⟨_, Heap.get?_push_size _ rfl, rfl, rfl⟩ q)
theorem getLt {α : Type} {l : List α} {i : Nat} (h : i < l.length) : l[i]? = some l[i] := List.getElem?_eq_getElem h
theorem ri_list {xs : List PyData} {p : Addr} {vs : List V} (hs : SqL K B p vs) (d : DpAll K B vs xs) : RI K B ρ H (Itl K p) (itD xs) := by
  intro B2 ρ2 κ2 H2 w2 g2 i
  have hs2 : SqL K H2 p vs := g2.ex.seq (w2.s.seq hs)
  have hl := dpa_len d
  refine ⟨fun h => ⟨vs, hs2, by rw [hl]; exact h⟩, fun h => ?_⟩
  obtain ⟨w, hw, r⟩ := dpa_get d (getLt h)
  refine ⟨⟨vs, w, hs2, hw⟩, fun x H3 hy => ?_⟩
  obtain ⟨rfl, f⟩ := hy
  have e := (f vs hs2).symm.trans hw
  cases e
  exact ⟨B2, .d _, Up.refl, g2, dp_up w2.s _ _ r, _, getLt h, rfl⟩
theorem ri_tup {xs : List PyData} {p : Addr} {vs : List V} (hs : SqT K B p vs) (d : DpAll K B vs xs) : RI K B ρ H (Itt K p) (itD xs) := by
  intro B2 ρ2 κ2 H2 w2 g2 i
  have hs2 : SqT K H2 p vs := sqt_up g2.ex (sqt_up w2.s hs)
  have hl := dpa_len d
  refine ⟨fun h => ⟨vs, hs2, by rw [hl]; exact h⟩, fun h => ?_⟩
  obtain ⟨w, hw, r⟩ := dpa_get d (getLt h)
  refine ⟨⟨vs, w, hs2, hw⟩, fun x H3 hy => ?_⟩
  obtain ⟨rfl, f⟩ := hy
  have e := (f vs hs2).symm.trans hw
  cases e
  exact ⟨B2, .d _, Up.refl, g2, dp_up w2.s _ _ r, _, getLt h, rfl⟩
theorem ri_str {s : Str} : RI K B ρ H (Its s) (itS s) := by
  intro B2 ρ2 κ2 H2 w2 g2 i
  refine ⟨fun h => h, fun h => ⟨h, fun x H3 hy => ?_⟩⟩
  obtain ⟨rfl, c, hc, rfl⟩ := hy
  exact ⟨B2, .d (.str ⟨#[c]⟩), Up.refl, g2, rp_str _, c, hc, rfl⟩
theorem ri_cell {p : Addr} (hp : ρ[k]? = some p) : RI K B ρ H (Itl K p) (itC k) := by
  intro B2 ρ2 κ2 H2 w2 g2 i
  have hp2 := w2.p _ _ hp
  refine ⟨fun h => ?_, fun h => ?_⟩
  · obtain ⟨xs, ek, hi⟩ := h
    obtain ⟨vs, r, eH, _⟩ := g2.ldAt hp2 ek
    exact ⟨vs, .inl (.inl eH), by rw [dpa_len r]; exact hi⟩
  · obtain ⟨xs, ek, hi⟩ := h
    obtain ⟨vs, r, eH, _⟩ := g2.ldAt hp2 ek
    obtain ⟨w, hw, rw'⟩ := dpa_get r (getLt hi)
    have hs2 : SqL K H2 p vs := .inl (.inl eH)
    refine ⟨⟨vs, w, hs2, hw⟩, fun x H3 hy => ?_⟩
    obtain ⟨rfl, f⟩ := hy
    have e := (f vs hs2).symm.trans hw
    cases e
    exact ⟨B2, .d _, Up.refl, g2, rw', xs, _, ek, getLt hi, rfl⟩
theorem ri_rng {lo : Int} {n : Nat} : RI K B ρ H (Itr lo n) (itR lo n) := by
  intro B2 ρ2 κ2 H2 w2 g2 i
  refine ⟨fun h => h, fun h => ⟨h, fun x H3 hy => ?_⟩⟩
  obtain ⟨rfl, rfl⟩ := hy
  exact ⟨B2, .d (.int (lo + i)), Up.refl, g2, rp_int _, rfl⟩
theorem ia_any {tge : Expr} (h : PEa K X e t f) (hK : X.K = K := by rfl) : PIa K X tge e (iAny K t) (aIter f) := by
  subst hK
  exact ⟨pi_any h.pe, fun B ρ δ κ σ H R Q s g hh q => h.sd _ _ _ _ _ _ _ _ s g hh fun B1 ρ1 κ1 H1 a v w1 g1 r1 h1 => by
  split at h1
  · obtain ⟨p, vs, rfl, s1, d1⟩ := r1.list
    exact .inl ⟨p, rfl, ⟨vs, g1.ex.seq s1⟩, q _ _ _ _ _ _ w1 g1 (ri_list s1 d1) h1⟩
  · obtain ⟨p, vs, rfl, s1, d1⟩ := r1.tuple
    exact .inr (.inl ⟨p, rfl, ⟨vs, sqt_up g1.ex s1⟩, q _ _ _ _ _ _ w1 g1 (ri_tup s1 d1) h1⟩)
  · exact .inr (.inr ⟨_, r1.str, q _ _ _ _ _ _ w1 g1 ri_str h1⟩)
  · obtain ⟨p, hp, rfl⟩ := r1
    split at h1
    · rename_i xs ek
      obtain ⟨vs, r, eH, _⟩ := g1.ldAt hp ek
      exact .inl ⟨p, rfl, ⟨vs, .inl (.inl eH)⟩, q _ _ _ _ _ _ w1 g1 (ri_cell hp) h1⟩
    · exact h1.elim
  · exact h1.elim⟩
variable {ta : TA} {fa : AA}
def aRng1 (fa : AA) : AI := fun δ κ R => fa δ κ fun as κ1 => match as with
  | [.d (.int j)] => -(2 ^ 62) ≤ j ∧ j < 2 ^ 62 ∧ R (itR 0 j.toNat) κ1
  | _ => False
def aRng2 (fa : AA) : AI := fun δ κ R => fa δ κ fun as κ1 => match as with
  | [.d (.int i), .d (.int j)] => (-(2 ^ 62) ≤ i ∧ i < 2 ^ 62 ∧ -(2 ^ 62) ≤ j ∧ j < 2 ^ 62) ∧ R (itR i (j - i).toNat) κ1
  | _ => False
theorem ia_rng1 {tge a : Expr} {q pos : Pos} (hg : Gl X "range") (hm : X.mg "range" = none) (ha : PAa K X [a] ta fa) (hs : starEach [a] X.env = [(false, eval a X.env)] := by rfl) : PIa K X tge (.Call (.Name "range" q) [a] [] pos) (iRng1 ta) (aRng1 fa) :=
  ⟨pi_range1 hg hm ha.pa hs, fun B ρ δ κ σ H R Q s g hh q => ha.sd _ _ _ _ _ _ _ _ s g hh fun B1 ρ1 κ1 H1 as vs w1 g1 r1 h1 => by
    split at h1
    · obtain ⟨x, rfl, r⟩ := reps1 r1
      exact ⟨_, by rw [r.int], h1.1, h1.2.1, q _ _ _ _ _ _ w1 g1 ri_rng h1.2.2⟩
    · exact h1.elim⟩
theorem ia_rng2 {tge a b : Expr} {q pos : Pos} (hg : Gl X "range") (hm : X.mg "range" = none) (ha : PAa K X [a, b] ta fa) (hs : starEach [a, b] X.env = [(false, eval a X.env), (false, eval b X.env)] := by rfl) (hs2 : starEach [b] X.env = [(false, eval b X.env)] := by rfl) :
    PIa K X tge (.Call (.Name "range" q) [a, b] [] pos) (iRng2 ta) (aRng2 fa) :=
  ⟨pi_range2 hg hm ha.pa hs hs2, fun B ρ δ κ σ H R Q s g hh q => ha.sd _ _ _ _ _ _ _ _ s g hh fun B1 ρ1 κ1 H1 as vs w1 g1 r1 h1 => by
    split at h1
    · obtain ⟨x, y, rfl, rx, ry⟩ := reps2 r1
      exact ⟨_, _, by rw [rx.int, ry.int], h1.1, q _ _ _ _ _ _ w1 g1 ri_rng h1.2⟩
    · exact h1.elim⟩

/-! ### for -/
def aFor (ai : AI) (ag : AG) (f : AS) : AS := fun A δ κ => ai δ κ fun J κ1 => ∃ W : Nat → Nat → AD → AK → Prop, (∃ m, W 0 m δ κ1) ∧ ∀ i m δ' κ', W i m δ' κ' → κ1.length ≤ κ'.length →
  (J.stop i κ' ∧ A.nx δ' κ') ∨ (J.go i κ' ∧ ∃ N : AD → AK → Prop, (∀ δ3 κ3, N δ3 κ3 → ∃ m', m' < m ∧ W (i + 1) m' δ3 κ3) ∧ ∀ a, J.yld i κ' a → ag a δ' κ' fun δ2 κ2 => f { n := κ1.length, nx := N, ct := N, bk := A.nx, rt := A.rt } δ2 κ2)
theorem sa_for {iter tge : Expr} {body : List Stmt} {wi : TI} {ai : AI} (hp : PassesOwn (model X.prog X.w) X.A X.env X.xe) (hc : X.calm = true) (hi : PIa K X tge iter wi ai) (hg : PGa K X tge tg ag) (hb : PSsa K X body t1 f1)
    (hs : ∀ x, foldedSetIterable iter X.env x = pure x := by intro _; rfl) : PSa K X (.For tge iter body [] pos) (tFor wi tg t1) (aFor ai ag f1) :=
  ⟨ps_for hp hc hi.pi hg.pg hb.ps hs, fun B ρ δ κ σ H A D s g l hh im => hi.sd B ρ δ κ σ H _ _ s g hh fun B1 ρ1 κ1 H1 J Ja w1 g1 ri ⟨W, ⟨m0, w0⟩, turn⟩ => by
    have l1 : A.n ≤ κ1.length := Nat.le_trans l (w1.len g g1)
    have im1 := im.later w1.n
    refine ⟨fun i m σ' H' => Later K B1 ρ1 H1 κ1.length (W i m) σ' H', ⟨m0, B1, ρ1, δ, κ1, UpN.refl, s.up w1.g, g1, Nat.le_refl _, w0⟩, fun i m σ' H' hW => ?_⟩
    obtain ⟨B2, ρ2, δ2, κ2, w2, s2, g2, l2, hw⟩ := hW
    have full : Up B1 ρ1 H1 B2 ρ2 H' := w2.full (by rw [g1.len]; exact Nat.le_refl _)
    have r := ri B2 ρ2 κ2 H' full g2 i
    rcases turn i m δ2 κ2 hw l2 with ⟨h1, h2⟩ | ⟨h1, N, hN, h2⟩
    · exact .inl ⟨r.1 h1, im1.nx _ _ _ _ _ _ (w2.mono l1) g2 s2 (Nat.le_trans l1 l2) h2⟩
    · obtain ⟨hgo, hy⟩ := r.2 h1
      refine .inr ⟨hgo, fun σ3 H3 => Later K B1 ρ1 H1 κ1.length N σ3 H3, ?_, fun x H3 hx => ?_⟩
      · rintro σ3 H3 ⟨B3, ρ3, δ3, κ3, w3, s3, g3, l3, hn⟩
        obtain ⟨m', hm, hw'⟩ := hN _ _ hn
        exact ⟨m', hm, B3, ρ3, δ3, κ3, w3, s3, g3, l3, hw'⟩
      · obtain ⟨B3, a, w3, g3, ra, ya⟩ := hy x H3 hx
        refine hg.sd _ _ _ _ _ _ _ _ _ _ (s2.up w3.g) g3 ra (h2 a ya) fun B4 ρ4 δ4 κ4 σ4 H4 w4 s4 g4 h4 => ?_
        have wa : UpN κ1.length B1 ρ1 H1 B4 ρ4 H4 := w2.trans (w3.trans w4).n
        refine hb.sd _ _ _ _ _ _ _ _ s4 g4 (Nat.le_trans l2 (w4.len g3 g4)) h4 ⟨?_, ?_, ?_, ?_⟩
        · exact fun B5 ρ5 κ5 H5 δ5 σ5 w5 g5 s5 l5 h5 => ⟨B5, ρ5, δ5, κ5, wa.trans w5, s5, g5, l5, h5⟩
        · exact fun B5 ρ5 κ5 H5 a v w5 g5 r5 l5 h5 => im1.rt _ _ _ _ _ _ ((wa.trans w5).mono l1) g5 r5 (Nat.le_trans l1 l5) h5
        · exact fun B5 ρ5 κ5 H5 δ5 σ5 w5 g5 s5 l5 h5 => im1.nx _ _ _ _ _ _ ((wa.trans w5).mono l1) g5 s5 (Nat.le_trans l1 l5) h5
        · exact fun B5 ρ5 κ5 H5 δ5 σ5 w5 g5 s5 l5 h5 => ⟨B5, ρ5, δ5, κ5, wa.trans w5, s5, g5, l5, h5⟩⟩
/-! helpers for loops: over known items, over a range, over a text, over the cell at k -/
abbrev ForW (J : AIt) (ag : AG) (f : AS) (A : AEnds) (n : Nat) (δ : AD) (κ1 : AK) : Prop := ∃ W : Nat → Nat → AD → AK → Prop, (∃ m, W 0 m δ κ1) ∧ ∀ i m δ' κ', W i m δ' κ' → n ≤ κ'.length →
  (J.stop i κ' ∧ A.nx δ' κ') ∨ (J.go i κ' ∧ ∃ N : AD → AK → Prop, (∀ δ3 κ3, N δ3 κ3 → ∃ m', m' < m ∧ W (i + 1) m' δ3 κ3) ∧ ∀ a, J.yld i κ' a → ag a δ' κ' fun δ2 κ2 => f { n := n, nx := N, ct := N, bk := A.nx, rt := A.rt } δ2 κ2)
variable {ag : AG} {f : AS} {A : AEnds} {n : Nat} {κ1 : AK}
theorem for_d {xs : List PyData} (Pv : Nat → AD → AK → Prop) (h0 : Pv 0 δ κ1) (hd : ∀ δ' κ', Pv xs.length δ' κ' → n ≤ κ'.length → A.nx δ' κ')
    (hs : ∀ i x δ' κ', xs[i]? = some x → Pv i δ' κ' → n ≤ κ'.length → ag (.d x) δ' κ' fun δ2 κ2 => f { n := n, nx := Pv (i + 1), ct := Pv (i + 1), bk := A.nx, rt := A.rt } δ2 κ2) : ForW (itD xs) ag f A n δ κ1 := by
  refine ⟨fun i m δ' κ' => m = xs.length - i ∧ i ≤ xs.length ∧ Pv i δ' κ', ⟨_, rfl, Nat.zero_le _, h0⟩, ?_⟩
  rintro i m δ' κ' ⟨rfl, hi, p⟩ ln
  by_cases hlt : i < xs.length
  · refine .inr ⟨hlt, Pv (i + 1), fun _ _ q => ⟨xs.length - (i + 1), by omega, rfl, hlt, q⟩, ?_⟩
    rintro a ⟨x, hx, rfl⟩
    exact hs i x δ' κ' hx p ln
  · have e : i = xs.length := by omega
    subst e
    exact .inl ⟨Nat.le_refl _, hd _ _ p ln⟩
theorem for_r {lo : Int} {N : Nat} (Pv : Nat → AD → AK → Prop) (h0 : Pv 0 δ κ1) (hd : ∀ δ' κ', Pv N δ' κ' → n ≤ κ'.length → A.nx δ' κ')
    (hs : ∀ i δ' κ', i < N → Pv i δ' κ' → n ≤ κ'.length → ag (.d (.int (lo + i))) δ' κ' fun δ2 κ2 => f { n := n, nx := Pv (i + 1), ct := Pv (i + 1), bk := A.nx, rt := A.rt } δ2 κ2) : ForW (itR lo N) ag f A n δ κ1 := by
  refine ⟨fun i m δ' κ' => m = N - i ∧ i ≤ N ∧ Pv i δ' κ', ⟨_, rfl, Nat.zero_le _, h0⟩, ?_⟩
  rintro i m δ' κ' ⟨rfl, hi, p⟩ ln
  by_cases hlt : i < N
  · refine .inr ⟨hlt, Pv (i + 1), fun _ _ q => ⟨N - (i + 1), by omega, rfl, hlt, q⟩, ?_⟩
    rintro a rfl
    exact hs i δ' κ' hlt p ln
  · have e : i = N := by omega
    subst e
    exact .inl ⟨Nat.le_refl _, hd _ _ p ln⟩
theorem for_s {s : Str} (Pv : Nat → AD → AK → Prop) (h0 : Pv 0 δ κ1) (hd : ∀ δ' κ', Pv s.cps.size δ' κ' → n ≤ κ'.length → A.nx δ' κ')
    (hs : ∀ (i : Nat) (c : Nat) δ' κ', s.cps[i]? = some c → Pv i δ' κ' → n ≤ κ'.length → ag (.d (.str ⟨#[c]⟩)) δ' κ' fun δ2 κ2 => f { n := n, nx := Pv (i + 1), ct := Pv (i + 1), bk := A.nx, rt := A.rt } δ2 κ2) : ForW (itS s) ag f A n δ κ1 := by
  refine ⟨fun i m δ' κ' => m = s.cps.size - i ∧ i ≤ s.cps.size ∧ Pv i δ' κ', ⟨_, rfl, Nat.zero_le _, h0⟩, ?_⟩
  rintro i m δ' κ' ⟨rfl, hi, p⟩ ln
  by_cases hlt : i < s.cps.size
  · refine .inr ⟨hlt, Pv (i + 1), fun _ _ q => ⟨s.cps.size - (i + 1), by omega, rfl, hlt, q⟩, ?_⟩
    rintro a ⟨c, hc, rfl⟩
    exact hs i c δ' κ' hc p ln
  · have e : i = s.cps.size := by omega
    subst e
    exact .inl ⟨Nat.le_refl _, hd _ _ p ln⟩
/-- the list at k stays as it is while it is walked -/
theorem for_c {k : Nat} {xs : List PyData} (Pv : Nat → AD → AK → Prop) (h0 : Pv 0 δ κ1) (hk : ∀ i δ' κ', Pv i δ' κ' → κ'[k]? = some (.ld xs)) (hd : ∀ δ' κ', Pv xs.length δ' κ' → n ≤ κ'.length → A.nx δ' κ')
    (hs : ∀ i x δ' κ', xs[i]? = some x → Pv i δ' κ' → n ≤ κ'.length → ag (.d x) δ' κ' fun δ2 κ2 => f { n := n, nx := Pv (i + 1), ct := Pv (i + 1), bk := A.nx, rt := A.rt } δ2 κ2) : ForW (itC k) ag f A n δ κ1 := by
  refine ⟨fun i m δ' κ' => m = xs.length - i ∧ i ≤ xs.length ∧ Pv i δ' κ', ⟨_, rfl, Nat.zero_le _, h0⟩, ?_⟩
  rintro i m δ' κ' ⟨rfl, hi, p⟩ ln
  by_cases hlt : i < xs.length
  · refine .inr ⟨⟨xs, hk _ _ _ p, hlt⟩, Pv (i + 1), fun _ _ q => ⟨xs.length - (i + 1), by omega, rfl, hlt, q⟩, ?_⟩
    rintro a ⟨ys, x, hy, hx, rfl⟩
    rw [hk _ _ _ p] at hy; cases hy
    exact hs i x δ' κ' hx p ln
  · have e : i = xs.length := by omega
    subst e
    exact .inl ⟨⟨xs, hk _ _ _ p, Nat.le_refl _⟩, hd _ _ p ln⟩
/-- while by a measure -/
theorem while_m {p : AT} {f : AS} {A : AEnds} (Pv : AD → AK → Prop) (μ : AD → AK → Nat) (h0 : Pv δ κ)
    (hs : ∀ δ' κ', Pv δ' κ' → κ.length ≤ κ'.length → p δ' κ' fun b κ1 => bsel b (f { n := κ.length, nx := fun δ2 κ2 => Pv δ2 κ2 ∧ μ δ2 κ2 < μ δ' κ', ct := fun δ2 κ2 => Pv δ2 κ2 ∧ μ δ2 κ2 < μ δ' κ', bk := A.nx, rt := A.rt } δ' κ1) (A.nx δ' κ1))
    (mono : ∀ δ' κ' (Q Q' : Bool → AK → Prop), (∀ b κ1, Q b κ1 → Q' b κ1) → p δ' κ' Q → p δ' κ' Q') : aWhile p f A δ κ := by
  refine ⟨fun m δ' κ' => m = μ δ' κ' ∧ Pv δ' κ', ⟨_, rfl, h0⟩, ?_⟩
  rintro m δ' κ' ⟨rfl, hp⟩ l
  refine mono δ' κ' _ _ (fun b κ1 q => ?_) (hs δ' κ' hp l)
  cases b with
  | true => exact ⟨_, fun δ2 κ2 h => ⟨_, h.2, rfl, h.1⟩, q⟩
  | false => exact q
end Ab
set_option Elab.async false
set_option linter.all false
set_option maxRecDepth 100000
set_option maxHeartbeats 4000000
/-! Ab6: list comprehensions; defs, their promises, their calls -/
namespace Ab
open PySem L2
open PyProof.Rows (envOfC)
variable {K : PySem.W.Frag} {B B' B2 H H' H2 : Hp} {ρ ρ' ρ2 : List Addr} {κ κ' : AK} {δ : AD} {σ : L2.St} {p : Addr} {k : Nat} {v x y z : V} {a b c : AV}
variable {X : Cx} {e e2 : Expr} {t u : TE} {f f2 : AE} {pos : Pos}

def wipeA (δ : AD) : List Nat → AD
  | [] => δ
  | v :: vs => (wipeA δ vs).set v none
theorem S.wipe (s : S K B ρ δ σ) : ∀ vs : List Nat, S K B ρ (wipeA δ vs) (L2.wipe σ vs)
  | [] => s
  | v :: vs => (S.wipe s vs).clr
theorem wipe_get (σ : L2.St) (i : Nat) : ∀ vs : List Nat, (L2.wipe σ vs)[i]? = if i ∈ vs then σ[i]?.map fun _ => none else σ[i]?
  | [] => by simp [L2.wipe]
  | v :: vs => by
    show ((L2.wipe σ vs).set v none)[i]? = _
    rw [List.getElem?_set, wipe_get σ i vs, wipe_length]
    by_cases h : v = i
    · subst h
      rw [if_pos rfl]
      by_cases hv : v < σ.length
      · rw [if_pos hv, if_pos (List.mem_cons_self ..), List.getElem?_eq_getElem hv]; rfl
      · rw [if_neg hv, if_pos (List.mem_cons_self ..), List.getElem?_eq_none (by omega)]; rfl
    · rw [if_neg h]
      have : (i ∈ v :: vs) = (i ∈ vs) := by
        apply propext
        rw [List.mem_cons]
        exact ⟨fun z => z.elim (fun w => absurd w.symm h) id, Or.inr⟩
      simp only [this]
theorem wipe_set {σ : L2.St} {vs : List Nat} {j : Nat} {w : Option V} (h : j ∈ vs) : L2.wipe (σ.set j w) vs = L2.wipe σ vs := by
  apply List.ext_getElem?
  intro i
  rw [wipe_get, wipe_get]
  by_cases hi : i ∈ vs
  · rw [if_pos hi, if_pos hi, List.getElem?_set]
    by_cases e : j = i
    · subst e
      rw [if_pos rfl]
      by_cases hl : j < σ.length
      · rw [if_pos hl, List.getElem?_eq_getElem hl]; rfl
      · rw [if_neg hl, List.getElem?_eq_none (by omega)]
    · rw [if_neg e]
  · rw [if_neg hi, if_neg hi, List.getElem?_set_ne (fun (e : j = i) => hi (e ▸ h))]
theorem wipe_wipe (σ : L2.St) (vs : List Nat) : L2.wipe (L2.wipe σ vs) vs = L2.wipe σ vs := by
  apply List.ext_getElem?
  intro i
  rw [wipe_get, wipe_get]
  by_cases hi : i ∈ vs
  · rw [if_pos hi, if_pos hi]
    cases σ[i]? <;> rfl
  · rw [if_neg hi, if_neg hi]
/-! targets within a comprehension: the own names alone -/
def SGw (K : PySem.W.Frag) (t : TG) (g : AG) (vs : List Nat) : Prop := ∀ B ρ δ κ σ H a v (R : AD → AK → Prop) (Q : L2.St → Hp → Prop), S K B ρ δ σ → G K B ρ κ H → Rep K B ρ a v → g a δ κ R →
  (∀ B' ρ' δ' κ' σ' H', Up B ρ H B' ρ' H' → S K B' ρ' δ' σ' → G K B' ρ' κ' H' → R δ' κ' → L2.wipe σ' vs = L2.wipe σ vs → Q σ' H') → t v σ H Q
def SGsw (K : PySem.W.Frag) (t : TGs) (g : AGs) (vs : List Nat) : Prop := ∀ B ρ δ κ σ H as ws (R : AD → AK → Prop) (Q : L2.St → Hp → Prop), S K B ρ δ σ → G K B ρ κ H → Reps K B ρ as ws → g as δ κ R →
  (∀ B' ρ' δ' κ' σ' H', Up B ρ H B' ρ' H' → S K B' ρ' δ' σ' → G K B' ρ' κ' H' → R δ' κ' → L2.wipe σ' vs = L2.wipe σ vs → Q σ' H') → t ws σ H Q
theorem sgw_name {i : Nat} {vs : List Nat} (h : i ∈ vs) : SGw K (gName i) (aName i) vs := fun B ρ δ κ σ H a v R Q s g r hh q => q _ _ _ _ _ _ Up.refl (s.set r) g hh (wipe_set h)
theorem sgsw_nil {vs : List Nat} : SGsw K gNil aGNil vs := fun B ρ δ κ σ H as ws R Q s g r h q => by
  unfold aGNil at h
  split at h
  · cases r; exact ⟨rfl, q _ _ _ _ _ _ Up.refl s g h rfl⟩
  · exact h.elim
theorem sgsw_cons {tg : TG} {tgs : TGs} {ag : AG} {ags : AGs} {vs : List Nat} (h1 : SGw K tg ag vs) (h2 : SGsw K tgs ags vs) : SGsw K (gCons tg tgs) (aGCons ag ags) vs := fun B ρ δ κ σ H as ws R Q s g r h q => by
  unfold aGCons at h
  split at h
  · cases r with
    | cons r1 r2 =>
      exact ⟨_, _, rfl, h1 _ _ _ _ _ _ _ _ _ _ s g r1 h fun B' ρ' δ' κ' σ' H' w s' g' h' e1 => h2 _ _ _ _ _ _ _ _ _ _ s' g' (Reps.up w.g r2) h' fun _ _ _ _ _ _ w2 s2 g2 k2 e2 => q _ _ _ _ _ _ (w.trans w2) s2 g2 k2 (e2.trans e1)⟩
  · exact h.elim
theorem sgw_tup {tgs : TGs} {ags : AGs} {vs : List Nat} {n : Nat} (h : SGsw K tgs ags vs) : SGw K (gTup K n tgs) (aGTup n ags) vs := fun B ρ δ κ σ H a v R Q s g r hh q => by
  unfold aGTup at hh
  split at hh
  · obtain ⟨p, vs, rfl, s1, d1⟩ := of_tupG g r
    exact ⟨p, vs, rfl, s1, by rw [dpa_len d1]; exact hh.1, h _ _ _ _ _ _ _ _ _ _ s g (Reps.all d1) hh.2 q⟩
  · obtain ⟨p, hp, rfl⟩ := r
    split at hh
    · rename_i xs ek
      obtain ⟨p', hp', _, vs, r, eH⟩ := g.cell ek
      rw [hp] at hp'; cases hp'
      exact ⟨p, vs, rfl, .inl (.inl eH), by rw [← r.len]; exact hh.1, h _ _ _ _ _ _ _ _ _ _ s g r hh.2 q⟩
    · exact hh.elim
  · exact hh.elim
structure PTsa (K : PySem.W.Frag) (X : Cx) (ifs : List Expr) (t : TT) (f : AT) : Prop where
  pt : PTs X ifs t
  sd : ST K t f
def aYes : AT := fun _ κ R => R true κ
theorem tsa_nil : PTsa K X [] tYes aYes := ⟨pts_nil, fun B ρ δ κ σ H R Q s g h q => q _ _ _ _ _ Up.refl g h⟩
theorem tsa_one {tc : TT} {pc : AT} (h : PTa K X e tc pc) : PTsa K X [e] tc pc := ⟨pts_one h.pt, h.sd⟩
/-- [elt for target in iter if ..], its items data: a list that never changes -/
def LcWd (J : AIt) (ag : AG) (p : AT) (f : AE) (vs : List Nat) (δ : AD) (κ1 : AK) (R : AR) : Prop := ∃ W : Nat → Nat → List PyData → AK → Prop, (∃ m, W 0 m [] κ1) ∧ ∀ i m acc κ', W i m acc κ' →
  (J.stop i κ' ∧ R (.d (.list acc)) κ') ∨ (J.go i κ' ∧ ∃ N : List PyData → AK → Prop, (∀ acc2 κ2, N acc2 κ2 → ∃ m', m' < m ∧ W (i + 1) m' acc2 κ2) ∧ ∀ a, J.yld i κ' a → ag a (wipeA δ vs) κ' fun δ2 κ2 => p δ2 κ2 fun b κ3 =>
    bsel b (f δ2 κ3 fun y κ4 => ∃ d, y = .d d ∧ acc.length < sizeLine ∧ N (acc ++ [d]) κ4) (N acc κ3))
@[irreducible] def LcW (J : AIt) (ag : AG) (p : AT) (f : AE) (vs : List Nat) (δ : AD) (κ1 : AK) (R : AR) : Prop := LcWd J ag p f vs δ κ1 R
theorem lcw {J : AIt} {ag : AG} {p : AT} {f : AE} {vs : List Nat} {δ : AD} {κ1 : AK} {R : AR} : LcW J ag p f vs δ κ1 R ↔ LcWd J ag p f vs δ κ1 R := by
  unfold LcW; exact Iff.rfl
def aLc (ai : AI) (ag : AG) (p : AT) (f : AE) (vs : List Nat) : AE := fun δ κ R => ai δ κ fun J κ1 => LcW J ag p f vs δ κ1 R
theorem G.off (g : G K B ρ κ H) {D : Addr} {o : HO} (hb : B D = none) (hr : D ∉ ρ) : G K B ρ κ (upd H D o) := by
  refine ⟨fun b x e => ?_, g.len, g.inj, fun i q c h1 h2 => ?_⟩
  · rw [upd_ne (ne_of_none e hb)]; exact g.ex b x e
  · have hq : q ≠ D := fun z => hr (z ▸ mem_of_get h1)
    exact (g.at' i q c h1 h2).up Ug.refl id fun o' e => by rw [upd_ne hq]; exact e
theorem Up.off {D : Addr} {o : HO} (w : Up B ρ H B' ρ' H') (hD : H D = none) : Up B ρ H B' ρ' (upd H' D o) := ⟨w.s, w.p, fun p x h1 h2 h3 => by
  have hp := ne_of_none h1 hD
  rw [upd_ne hp]; exact w.f p x h1 h2 h3⟩
theorem se_lc {wi : TI} {ai : AI} {tg : TG} {ag : AG} {tt : TT} {pt : AT} {vs : List Nat} (hi : SI K wi ai) (hg : SGw K tg ag vs) (ht : ST K tt pt) (he : SE K t f) : SE K (tLc wi tg tt t vs) (aLc ai ag pt f vs) := fun B ρ δ κ σ H R Q s g hh q =>
  hi B ρ δ κ σ H _ _ s g hh fun B1 ρ1 κ1 H1 J Ja w1 g1 ri hlc => by
    obtain ⟨W, ⟨m0, w0⟩, turn⟩ := lcw.mp hlc
    intro D hD
    have q1 := q.later w1
    refine ⟨fun i m H' => ∃ B' ρ' κ' accV acc, Up B1 ρ1 H1 B' ρ' H' ∧ G K B' ρ' κ' H' ∧ H' D = some (.lst accV) ∧ B' D = none ∧ D ∉ ρ' ∧ DpAll K B' accV acc ∧ W i m acc κ', ⟨m0, B1, ρ1, κ1, [], [], Up.refl.off hD, g1.off (g1.fresh hD) (fun z => ?_), upd_same, g1.fresh hD, fun z => ?_, .nil, w0⟩, ?_⟩
    · obtain ⟨i, hi⟩ := List.mem_iff_getElem?.mp z
      exact g1.nin hD hi rfl
    · obtain ⟨i, hi⟩ := List.mem_iff_getElem?.mp z
      exact g1.nin hD hi rfl
    rintro i m H2 ⟨B2, ρ2, κ2, accV, acc, w2, g2, eD, bD, rD, da, hw⟩
    have r := ri B2 ρ2 κ2 H2 w2 g2 i
    rcases turn i m acc κ2 hw with ⟨h1, h2⟩ | ⟨h1, N, hN, h2⟩
    · refine .inl ⟨r.1 h1, ?_⟩
      have hs : Same B2 (upd B2 D (.lst accV)) := same_upd bD
      have hBD : (upd B2 D (.lst accV)) D = some (.lst accV) := upd_same
      refine q1 (upd B2 D (.lst accV)) ρ2 κ2 H2 (.d (.list acc)) (.ref D) ⟨w2.s.trans hs, w2.p, fun p o z1 z2 z3 => ?_⟩ ⟨fun b x e => ?_, g2.len, g2.inj, fun j p cl z1 z2 => ?_⟩ (.lst (.inl (.inl hBD)) (dpa_up hs _ _ da)) h2
      · obtain ⟨y1, y2, y3⟩ := w2.f p o z1 z2 z3
        exact ⟨y1, by rw [upd_ne (ne_of_none z1 hD)]; exact y2, y3⟩
      · by_cases hb : b = D
        · subst hb; rw [hBD] at e; rw [eD]; exact e
        · rw [upd_ne hb] at e; exact g2.ex b x e
      · have hq : p ≠ D := fun z => rD (z ▸ mem_of_get z1)
        exact (g2.at' j p cl z1 z2).up ⟨hs, fun _ _ h => h⟩ (fun z => by rw [upd_ne hq]; exact z) fun _ e => e
    · obtain ⟨hgo, hy⟩ := r.2 h1
      -- a turn's end
      refine .inr ⟨hgo, fun H' => ∃ B' ρ' κ' accV acc, Up B1 ρ1 H1 B' ρ' H' ∧ G K B' ρ' κ' H' ∧ H' D = some (.lst accV) ∧ B' D = none ∧ D ∉ ρ' ∧ DpAll K B' accV acc ∧ N acc κ', ?_, fun x H3 hx => ?_⟩
      · rintro H' ⟨B', ρ', κ', accV', acc', z1, z2, z3, z4, z5, z6, hn⟩
        obtain ⟨m', hm, hw'⟩ := hN _ _ hn
        exact ⟨m', hm, B', ρ', κ', accV', acc', z1, z2, z3, z4, z5, z6, hw'⟩
      · obtain ⟨B3, a, w3, g3, ra, ya⟩ := hy x H3 hx
        have sw : S K B3 ρ2 (wipeA δ vs) (L2.wipe σ vs) := (s.up ((w1.trans w2).trans w3).g).wipe vs
        refine hg _ _ _ _ _ _ _ _ _ _ sw g3 ra (h2 a ya) fun B4 ρ4 δ4 κ4 σ4 H4 w4 s4 g4 h4 e4 => ⟨by rw [e4, wipe_wipe], ?_⟩
        refine ht _ _ _ _ _ _ _ _ s4 g4 h4 fun B5 ρ5 κ5 H5 b w5 g5 h5 => ?_
        have w25 := (w3.trans w4).trans w5
        obtain ⟨e5, b5, r5⟩ := w25.f D _ eD bD rD
        cases b with
        | false =>
          refine iteF ⟨B5, ρ5, κ5, accV, acc, w2.trans w25, g5, e5, b5, r5, dpa_up w25.s _ _ da, h5⟩
        | true =>
          refine iteT (he _ _ _ _ _ _ _ _ (s4.up w5.g) g5 h5 fun B6 ρ6 κ6 H6 a6 v6 w6 g6 r6 h6 => ?_)
          obtain ⟨d, rfl, hl, hn⟩ := h6
          obtain ⟨e6, b6, r6'⟩ := w6.f D _ e5 b5 r5
          have w26 := w25.trans w6
          have da6 := dpa_up w26.s _ _ da
          refine ⟨accV, e6, by rw [dpa_len da6]; exact hl, B6, ρ6, κ6, accV ++ [v6], acc ++ [d], (w2.trans w26).off hD, g6.off b6 r6', upd_same, b6, r6', dpa_app da6 (.cons r6 .nil), hn⟩
section
variable {elt tge iter : Expr} {ifs : List Expr} {scope : Scope} {own : List (Str × Nat)} {wi : TI} {ai : AI} {tg : TG} {ag : AG} {tt : TT} {pt : AT} {te : TE} {fe : AE}
theorem ea_lc (hc : X.calm = true) (hN : X.N.Nodup) (hi : PIa K X tge iter wi ai) (ok : BlkOk X.N X.env.scope scope own)
    (hg : ∀ (s : Shared) (H : Hp) (C : Addr) (cl : List (Str × Addr)) (fp : List Addr), PG (X.blk s H scope (compEnvC scope cl C X.env) fp) tge tg) (hgw : SGw K tg ag (own.map (·.2)))
    (ht : ∀ (s : Shared) (H : Hp) (C : Addr) (cl : List (Str × Addr)) (fp : List Addr), PTsa K (X.blk s H scope (compEnvC scope cl C X.env) fp) ifs tt pt)
    (he : ∀ (s : Shared) (H : Hp) (C : Addr) (cl : List (Str × Addr)) (fp : List Addr), PEa K (X.blk s H scope (compEnvC scope cl C X.env) fp) elt te fe) (hs : ∀ x, foldedSetIterable iter X.env x = pure x := by intro _; rfl) :
    PEa K X (.ListComp elt [⟨tge, iter, ifs, 0⟩] scope pos) (tLc wi tg tt te (own.map (·.2))) (aLc ai ag pt fe (own.map (·.2))) :=
  ⟨pe_lc hc hN hi.pi ok hg (fun s H C cl fp => (ht s H C cl fp).pt) (fun s H C cl fp => (he s H C cl fp).pe) hs, se_lc hi.sd hgw (ht ({} : Shared) (fun _ => none) 0 [] []).sd (he ({} : Shared) (fun _ => none) 0 [] []).sd⟩
theorem sa_setLc {i : Nat} {y : Str} {py spos : Pos} (hc : X.calm = true) (hN : X.N.Nodup) (hy : X.N[i]? = some y) (hyl : X.env.scope.names.lookup y = some .local)
    (hsw : swapsWith (.ListComp elt [⟨tge, iter, ifs, 0⟩] scope pos) (some (.Name y py)) spos.line X.env = pure true) (hi : PIa K X tge iter wi ai) (ok : BlkOk X.N X.env.scope scope own)
    (hg : ∀ (s : Shared) (H : Hp) (C : Addr) (cl : List (Str × Addr)) (fp : List Addr), PG (X.blk s H scope (compEnvC scope cl C X.env) fp) tge tg) (hgw : SGw K tg ag (own.map (·.2)))
    (ht : ∀ (s : Shared) (H : Hp) (C : Addr) (cl : List (Str × Addr)) (fp : List Addr), PTsa K (X.blk s H scope (compEnvC scope cl C X.env) fp) ifs tt pt)
    (he : ∀ (s : Shared) (H : Hp) (C : Addr) (cl : List (Str × Addr)) (fp : List Addr), PEa K (X.blk s H scope (compEnvC scope cl C X.env) fp) elt te fe) (hs : ∀ x, foldedSetIterable iter X.env x = pure x := by intro _; rfl) :
    PSa K X (.Assign [.Name y py] (.ListComp elt [⟨tge, iter, ifs, 0⟩] scope pos) spos) (tAsg (tLc wi tg tt te (own.map (·.2))) (gName i)) (aSet i (aLc ai ag pt fe (own.map (·.2)))) :=
  ⟨ps_setLc hc hN hy hyl hsw hi.pi ok hg (fun s H C cl fp => (ht s H C cl fp).pt) (fun s H C cl fp => (he s H C cl fp).pe) hs, ss_asg (se_lc hi.sd hgw (ht ({} : Shared) (fun _ => none) 0 [] []).sd (he ({} : Shared) (fun _ => none) 0 [] []).sd) sg_name⟩
end

/-! ### defs -/
/-- what leaves a def: the error's class and its fields -/
structure AX where
  cls : Value
  fs : List (Str × PyData)
/-- a promise: the arguments, the cells, what is wanted of the result, of an error -/
abbrev FSp := List AV → AK → AR → (AX → AK → Prop) → Prop
def RepX (K : PySem.W.Frag) (B : Hp) (H : Hp) (x : AX) (cls : Value) (d : Option Addr) : Prop := cls = x.cls ∧ match x.fs with
  | [] => True
  | fs => ∃ dd ws, d = some dd ∧ H dd = some (.xd ws) ∧ DpKs K B fs ws
def spA (K : PySem.W.Frag) (F : FSp) : Sp := fun vs H Q E => ∃ B ρ κ as R E', G K B ρ κ H ∧ Reps K B ρ as vs ∧ F as κ R E' ∧
  (∀ B' ρ' κ' H' a v, Up B ρ H B' ρ' H' → G K B' ρ' κ' H' → Rep K B' ρ' a v → R a κ' → Q v H') ∧
  (∀ B' ρ' κ' H' xa cls d, Up B ρ H B' ρ' H' → G K B' ρ' κ' H' → RepX K B' H' xa cls d → E' xa κ' → E cls d H')
def startA (N : List Str) (as : List AV) : AD := as.map some ++ List.replicate (N.length - as.length) none
theorem s_start {N : List Str} {as : List AV} {vs : List V} (r : Reps K B ρ as vs) : S K B ρ (startA N as) (L2.start N vs) := by
  have hl := r.len
  refine ⟨by unfold startA L2.start; simp [hl], fun i a h => ?_⟩
  unfold startA at h
  by_cases hi : i < as.length
  · rw [List.getElem?_append_left (by simpa using hi), List.getElem?_map, List.getElem?_eq_getElem hi] at h
    simp at h
    obtain ⟨w, e, rw'⟩ := r.get (List.getElem?_eq_getElem hi)
    rw [h] at rw'
    refine ⟨w, ?_, rw'⟩
    unfold L2.start
    rw [List.getElem?_append_left (by simp; omega), List.getElem?_map, e]
    rfl
  · rw [List.getElem?_append_right (by simpa using hi)] at h
    have := mem_of_get h
    rw [List.mem_replicate] at this
    exact absurd this.2 (by simp)
/-- the end of a body: the result may be told anew -/
def endsA (K : PySem.W.Frag) (n : Nat) (R : AR) : AEnds := ⟨n, fun _ κ => ∃ a' κ', GhR K n (.d .none) κ a' κ' ∧ R a' κ', fun a κ => ∃ a' κ', GhR K n a κ a' κ' ∧ R a' κ', fun _ _ => False, fun _ _ => False⟩
theorem body_ok {F : FSp} {N : List Str} {t : TS} {f : AS} {vs : List V} {H : Hp} {Q : VK} {E : XK} (hs : SS K t f) (hF : ∀ as κ R E', F as κ R E' → f (endsA K κ.length R) (startA N as) κ) (h : spA K F vs H Q E) :
    t { nx := fun _ H' => Q .non H', rt := Q } (L2.start N vs) H := by
  obtain ⟨B, ρ, κ, as, R, E', g, r, hf, q, _⟩ := h
  have fin : ∀ B' ρ' κ' H' a v, UpN κ.length B ρ H B' ρ' H' → G K B' ρ' κ' H' → Rep K B' ρ' a v → (∃ a' κ2, GhR K κ.length a κ' a' κ2 ∧ R a' κ2) → Q v H' := fun B' ρ' κ' H' a v w g' ra ⟨a', κ2, gh, hR⟩ => by
    obtain ⟨B2, ρ2, w2, r2, g2⟩ := gh.2 B' ρ' H' v g' ra
    exact q _ _ _ _ _ _ ((w.trans w2).full (by rw [g.len]; exact Nat.le_refl _)) g2 r2 hR
  refine hs B ρ (startA N as) κ (L2.start N vs) H (endsA K κ.length R) _ (s_start r) g (Nat.le_refl _) (hF as κ R E' hf) ⟨?_, ?_, ?_, ?_⟩
  · exact fun B' ρ' κ' H' δ' σ' w g' s' l h' => fin _ _ _ _ _ _ w g' rp_non h'
  · exact fun B' ρ' κ' H' a v w g' ra l h' => fin _ _ _ _ _ _ w g' ra h'
  · exact fun _ _ _ _ _ _ _ _ _ _ h' => h'.elim
  · exact fun _ _ _ _ _ _ _ _ _ _ h' => h'.elim
theorem spA_len {F : FSp} {ps : List Str} (hl : ∀ as κ R E', F as κ R E' → as.length = ps.length) : ∀ vs H Q E, spA K F vs H Q E → vs.length = ps.length := by
  rintro vs H Q E ⟨B, ρ, κ, as, R, E', g, r, hf, _⟩
  rw [← r.len]; exact hl _ _ _ _ hf
section
variable {P : Program} {w : World} {mg : Str → Option Value} {base : Heap}
/-- THE RULE for a def from which nothing is raised -/
theorem fn_ok {x qual : Str} {st : Stmt} {fa : Addr} {fd : FuncData} {N ps : List Str} {l : Nat} {F : FSp} (Fu : Fun K x qual st fa fd) (Sc : FnScope N ps (defScope st)) (hl : ∀ as κ R E', F as κ R E' → as.length = ps.length)
    (hb : ∀ (cdv : Value) (A : Around) (outer : List Env) (s : Shared) (H : Hp) (E : XK), Room l (A.deeper (envOfC qual (defScope st) s.heap.objs.size fa cdv)) →
      ∃ t f, PSsa K (cxOf CX0 P w K mg base N qual (defScope st) fa cdv A outer s H E).nox (defBody st) t f ∧ ∀ as κ R E', F as κ R E' → f (endsA K κ.length R) (startA N as) κ) : FnOk P w K mg base CX0 (l + 1) fa fd ps (spA K F) :=
  Fu.ok Sc (spA_len hl) fun cdv A outer s H vs Q E hr h => by
    obtain ⟨t, f, hp, hF⟩ := hb cdv A outer s H E hr
    exact ⟨t, hp.ps, body_ok hp.sd hF h⟩
end
/-! ### calls: the callee sees the cells js alone -/
def posIn (k : Nat) : List Nat → Nat → Option Nat
  | [], _ => none
  | j :: js, i => if j = k then some i else posIn k js (i + 1)
def selA (js : List Nat) : AV → Option AV
  | .c k => (posIn k js 0).map .c
  | a => some a
def selAs (js : List Nat) : List AV → Option (List AV)
  | [] => some []
  | a :: r => match selA js a, selAs js r with
    | some x, some xs => some (x :: xs)
    | _, _ => none
/-- no reference within -/
def clC : Cell → Bool
  | .lst xs => xs.all (okA 0)
  | .tup xs => xs.all (okA 0)
  | .ins _ fs => fs.all fun p => okA 0 p.2
  | _ => true
def selK (js : List Nat) (κ : AK) : Option AK := match js with
  | [] => some []
  | j :: r => match κ[j]?, selK r κ with
    | some c, some cs => if clC c = true then some (c :: cs) else none
    | _, _ => none
/-- back: the callee's cells at their places, its new ones behind -/
def putK : List Nat → AK → AK → AK
  | j :: js, c :: cs, κ => putK js cs (κ.set j c)
  | _, _, κ => κ
def liveC : Cell → Bool
  | .dead => false
  | _ => true
def backA (js : List Nat) (n : Nat) : AV → AV
  | .c j => match js[j]? with
    | some k => .c k
    | none => .c (n + (j - js.length))
  | a => a
def backK (js : List Nat) (κ κ' : AK) : AK := match κ'.drop js.length with
  | [] => putK js κ' κ
  | c :: l => putK js κ' κ ++ c :: l
theorem backK_eq (js : List Nat) (κ κ' : AK) : backK js κ κ' = putK js κ' κ ++ κ'.drop js.length := by
  unfold backK
  split
  · rename_i e; rw [e, List.append_nil]
  · rename_i e; rw [e]
@[irreducible] def callW (F : FSp) (E : AX → AK → Prop) (as : List AV) (κ1 : AK) (R : AR) : Prop := ∃ js asl κl, js.Nodup ∧ selAs js as = some asl ∧ selK js κ1 = some κl ∧
  F asl κl (fun a κ' => js.length ≤ κ'.length ∧ κ'.all clC = true ∧ (κ'.drop js.length).all liveC = true ∧ R (backA js κ1.length a) (backK js κ1 κ')) (fun x κ' => js.length ≤ κ'.length ∧ κ'.all clC = true ∧ (κ'.drop js.length).all liveC = true ∧ E x (backK js κ1 κ'))
theorem callW_i {F : FSp} {E : AX → AK → Prop} {as : List AV} {κ1 : AK} {R : AR} (h : ∃ js asl κl, js.Nodup ∧ selAs js as = some asl ∧ selK js κ1 = some κl ∧
  F asl κl (fun a κ' => js.length ≤ κ'.length ∧ κ'.all clC = true ∧ (κ'.drop js.length).all liveC = true ∧ R (backA js κ1.length a) (backK js κ1 κ')) (fun x κ' => js.length ≤ κ'.length ∧ κ'.all clC = true ∧ (κ'.drop js.length).all liveC = true ∧ E x (backK js κ1 κ'))) : callW F E as κ1 R := by
  unfold callW; exact h
theorem callW_e {F : FSp} {E : AX → AK → Prop} {as : List AV} {κ1 : AK} {R : AR} (h : callW F E as κ1 R) : ∃ js asl κl, js.Nodup ∧ selAs js as = some asl ∧ selK js κ1 = some κl ∧
  F asl κl (fun a κ' => js.length ≤ κ'.length ∧ κ'.all clC = true ∧ (κ'.drop js.length).all liveC = true ∧ R (backA js κ1.length a) (backK js κ1 κ')) (fun x κ' => js.length ≤ κ'.length ∧ κ'.all clC = true ∧ (κ'.drop js.length).all liveC = true ∧ E x (backK js κ1 κ')) := by
  unfold callW at h; exact h
def aCall (F : FSp) (E : AX → AK → Prop) (fa : AA) : AE := fun δ κ R => fa δ κ fun as κ1 => callW F E as κ1 R

theorem rep_cl (h : okA 0 a = true) (r : Rep K B ρ a v) : Rep K B ρ' a v := by
  cases a with
  | d x => exact r
  | r w => exact r
  | c j => exact absurd (of_decide_eq_true (p := j < 0) h) (Nat.not_lt_zero _)
theorem reps_cl : ∀ {as : List AV} {vs : List V}, as.all (okA 0) = true → Reps K B ρ as vs → Reps K B ρ' as vs
  | _, _, _, .nil => .nil
  | _, _, h, .cons h1 h2 => by
    rw [List.all_cons, Bool.and_eq_true] at h
    exact .cons (rep_cl h.1 h1) (reps_cl h.2 h2)
theorem repks_cl {ι : Type} : ∀ {as : List (ι × AV)} {vs : List (ι × V)}, (as.all fun p => okA 0 p.2) = true → RepKs K B ρ as vs → RepKs K B ρ' as vs
  | _, _, _, .nil => .nil
  | _, _, h, .cons h1 h2 => by
    rw [List.all_cons, Bool.and_eq_true] at h
    exact .cons ⟨h1.1, rep_cl h.1 h1.2⟩ (repks_cl h.2 h2)
theorem CellOk.cl {cl : Cell} (h : clC cl = true) (ok : CellOk K B ρ H p cl) : CellOk K B ρ' H p cl := by
  cases cl with
  | dead => exact ok
  | ld ys => exact ok
  | lst ys => obtain ⟨n, ws, r, e⟩ := ok; exact ⟨n, ws, reps_cl h r, e⟩
  | tup ys => obtain ⟨n, ws, r, e⟩ := ok; exact ⟨n, ws, reps_cl h r, e⟩
  | dK ys => exact ok
  | dT ys => exact ok
  | ins C ys => obtain ⟨n, dx, ws, r, e⟩ := ok; exact ⟨n, dx, ws, repks_cl h r, e⟩
theorem posIn_get : ∀ {k : Nat} {js : List Nat} {i r : Nat}, posIn k js i = some r → ∃ m, r = i + m ∧ js[m]? = some k
  | _, [], _, _, h => by cases h
  | k, j :: js, i, r, h => by
    unfold posIn at h
    by_cases e : j = k
    · rw [if_pos e] at h
      cases h
      exact ⟨0, rfl, by rw [e]; rfl⟩
    · rw [if_neg e] at h
      obtain ⟨m, e1, e2⟩ := posIn_get h
      exact ⟨m + 1, by omega, by simpa using e2⟩
/-- the addresses of the cells js -/
def selR (js : List Nat) (ρ : List Addr) : List Addr := js.map fun j => ρ.getD j 0
theorem selR_get {js : List Nat} {i j : Nat} {p : Addr} (h : js[i]? = some j) (hp : ρ[j]? = some p) : (selR js ρ)[i]? = some p := by
  unfold selR
  rw [List.getElem?_map, h]
  show some (ρ.getD j 0) = some p
  rw [List.getD_eq_getElem?_getD, hp]; rfl
theorem selK_get : ∀ {js : List Nat} {κ κl : AK}, selK js κ = some κl → κl.length = js.length ∧ ∀ (i j : Nat), js[i]? = some j → ∃ c, κ[j]? = some c ∧ κl[i]? = some c ∧ clC c = true
  | [], κ, κl, h => by cases h; exact ⟨rfl, fun i j e => by simp at e⟩
  | j :: js, κ, κl, h => by
    unfold selK at h
    split at h
    · rename_i c cs e1 e2
      split at h
      · rename_i hc
        cases h
        obtain ⟨l, f⟩ := selK_get e2
        refine ⟨by simp [l], fun i j' e => ?_⟩
        cases i with
        | zero => simp at e; subst e; exact ⟨c, e1, rfl, hc⟩
        | succ i => obtain ⟨c', y1, y2, y3⟩ := f i j' (by simpa using e); exact ⟨c', y1, by simpa using y2, y3⟩
      · cases h
    · cases h
theorem selAs_ok {js : List Nat} (hr : ∀ (i j : Nat) (p : Addr), js[i]? = some j → ρ[j]? = some p → ρ'[i]? = some p) : ∀ {as asl : List AV} {vs : List V}, selAs js as = some asl → Reps K B ρ as vs → Reps K B ρ' asl vs
  | [], _, _, h, r => by cases h; cases r; exact .nil
  | a :: as, _, _, h, r => by
    unfold selAs at h
    split at h
    · rename_i x xs e1 e2
      cases h
      cases r with
      | cons r1 r2 =>
        refine .cons ?_ (selAs_ok hr e2 r2)
        cases a with
        | d y => cases e1; exact r1
        | r y => cases e1; exact r1
        | c k =>
          obtain ⟨i, hi, rfl⟩ := Option.map_eq_some_iff.mp e1
          obtain ⟨m, rfl, hm⟩ := posIn_get hi
          obtain ⟨p, hp, rfl⟩ := r1
          exact ⟨p, by simpa using hr m k p hm hp, rfl⟩
    · cases h
theorem putK_len : ∀ (js : List Nat) (κ' κ : AK), (putK js κ' κ).length = κ.length
  | [], _, _ => by cases ‹AK› <;> rfl
  | j :: js, [], κ => rfl
  | j :: js, c :: cs, κ => by
    show (putK js cs (κ.set j c)).length = _
    rw [putK_len, List.length_set]
theorem putK_ne : ∀ {js : List Nat} {κ' κ : AK} {i : Nat}, i ∉ js → (putK js κ' κ)[i]? = κ[i]?
  | [], _, _, _, _ => by cases ‹AK› <;> rfl
  | j :: js, [], κ, i, _ => rfl
  | j :: js, c :: cs, κ, i, h => by
    show (putK js cs (κ.set j c))[i]? = _
    rw [putK_ne (fun z => h (List.mem_cons_of_mem _ z)), List.getElem?_set_ne (fun (e : j = i) => h (e ▸ List.mem_cons_self ..))]
theorem putK_at : ∀ {js : List Nat} {κ' κ : AK} {i j : Nat} {c : Cell}, js.Nodup → js[i]? = some j → κ'[i]? = some c → j < κ.length → (putK js κ' κ)[j]? = some c
  | [], _, _, _, _, _, _, h, _, _ => by simp at h
  | j' :: js, [], κ, i, j, c, _, _, h, _ => by simp at h
  | j' :: js, c' :: cs, κ, i, j, c, nd, h, h2, hl => by
    rw [List.nodup_cons] at nd
    show (putK js cs (κ.set j' c'))[j]? = _
    cases i with
    | zero =>
      simp at h h2
      subst h; subst h2
      rw [putK_ne nd.1, List.getElem?_set_self hl]
    | succ i => exact putK_at nd.2 (by simpa using h) (by simpa using h2) (by rw [List.length_set]; exact hl)
/-- from the callee's end back to the caller -/
theorem back_ok (g : G K B ρ κ H) {js : List Nat} {κl : AK} (nd : js.Nodup) (hk : selK js κ = some κl) {ρl' : List Addr} (w : Up B (selR js ρ) H B' ρl' H') (g' : G K B' ρl' κ' H') (l : js.length ≤ κ'.length) (cl : κ'.all clC = true) (lv : (κ'.drop js.length).all liveC = true) :
    Up B ρ H B' (ρ ++ ρl'.drop js.length) H' ∧ G K B' (ρ ++ ρl'.drop js.length) (backK js κ κ') H' ∧ ∀ {a : AV} {v : V}, Rep K B' ρl' a v → Rep K B' (ρ ++ ρl'.drop js.length) (backA js κ.length a) v := by
  obtain ⟨lk, sel⟩ := selK_get hk
  have jlt : ∀ {i j : Nat}, js[i]? = some j → j < κ.length := fun h => by
    obtain ⟨c, e, _⟩ := sel _ _ h
    exact (List.getElem?_eq_some_iff.mp e).1
  have rl : ∀ {i j : Nat} {p : Addr}, js[i]? = some j → ρ[j]? = some p → ρl'[i]? = some p := fun h hp => w.p _ _ (selR_get h hp)
  have memsel : ∀ {i : Nat} {p : Addr}, ρ[i]? = some p → p ∈ selR js ρ → i ∈ js := fun {i p} hp hm => by
    unfold selR at hm
    obtain ⟨j, hj, e⟩ := List.mem_map.mp hm
    obtain ⟨m, hm⟩ := List.mem_iff_getElem?.mp hj
    have lt := jlt hm
    rw [← g.len] at lt
    rw [List.getD_eq_getElem?_getD, List.getElem?_eq_getElem lt] at e
    have : ρ[j]? = some p := by rw [List.getElem?_eq_getElem lt]; exact congrArg some e
    rw [g.inj i j p hp this]; exact hj
  have newne : ∀ {i m : Nat} {p : Addr}, ρ[i]? = some p → (ρl'.drop js.length)[m]? = some p → False := fun {i m p} h1 h2 => by
    rw [List.getElem?_drop] at h2
    by_cases hj : i ∈ js
    · obtain ⟨q, hq⟩ := List.mem_iff_getElem?.mp hj
      have := g'.inj q _ p (rl hq h1) h2
      have := (List.getElem?_eq_some_iff.mp hq).1
      omega
    · have hm : js.length + m < κ'.length := by rw [← g'.len]; exact (List.getElem?_eq_some_iff.mp h2).1
      have ok := g'.at' _ p _ h2 (List.getElem?_eq_getElem hm)
      have live : liveC κ'[js.length + m] = true := List.all_eq_true.mp lv _ (mem_of_get (by rw [List.getElem?_drop]; exact List.getElem?_eq_getElem hm))
      have bn : B' p = none := by
        cases hc : κ'[js.length + m] with
        | dead => rw [hc] at live; cases live
        | ld ys => rw [hc] at ok; exact ok.1
        | lst ys => rw [hc] at ok; exact ok.1
        | tup ys => rw [hc] at ok; exact ok.1
        | dK ys => rw [hc] at ok; exact ok.1
        | dT ys => rw [hc] at ok; exact ok.1
        | ins C ys => rw [hc] at ok; exact ok.1
      have hi : i < κ.length := by rw [← g.len]; exact (List.getElem?_eq_some_iff.mp h1).1
      have hn := (g.at' i p _ h1 (List.getElem?_eq_getElem hi)).nn
      cases hH : H p with
      | none => exact hn hH
      | some o =>
        exact (w.f p o hH (w.s.free bn) fun z => hj (memsel h1 z)).2.2 (mem_of_get h2)
  have w2 : Up B ρ H B' (ρ ++ ρl'.drop js.length) H' := ⟨w.s, fun _ _ h => get_app h, fun p o h1 h2 h3 => by
    have hp : p ∉ selR js ρ := fun z => by
      unfold selR at z
      obtain ⟨j, hj, e⟩ := List.mem_map.mp z
      obtain ⟨m, hm⟩ := List.mem_iff_getElem?.mp hj
      have lt := jlt hm
      rw [← g.len] at lt
      rw [List.getD_eq_getElem?_getD, List.getElem?_eq_getElem lt] at e
      exact h3 (by rw [← e]; exact List.getElem_mem lt)
    obtain ⟨y1, y2, y3⟩ := w.f p o h1 h2 hp
    refine ⟨y1, y2, fun z => ?_⟩
    rcases List.mem_append.mp z with z | z
    · exact h3 z
    · exact y3 (List.mem_of_mem_drop z)⟩
  have lb : (putK js κ' κ).length = ρ.length := by rw [putK_len, g.len]
  refine ⟨w2, ⟨g'.ex, ?_, fun i j p h1 h2 => ?_, fun i p c h1 h2 => ?_⟩, fun {a v} r => ?_⟩
  · rw [backK_eq, List.length_append, List.length_append, lb, List.length_drop, List.length_drop, g'.len]
  · by_cases hi : i < ρ.length
    · rw [List.getElem?_append_left hi] at h1
      by_cases hj : j < ρ.length
      · rw [List.getElem?_append_left hj] at h2
        exact g.inj i j p h1 h2
      · rw [List.getElem?_append_right (by omega)] at h2
        exact (newne h1 h2).elim
    · rw [List.getElem?_append_right (by omega)] at h1
      by_cases hj : j < ρ.length
      · rw [List.getElem?_append_left hj] at h2
        exact (newne h2 h1).elim
      · rw [List.getElem?_append_right (by omega)] at h2
        rw [List.getElem?_drop] at h1 h2
        have := g'.inj _ _ p h1 h2
        omega
  · rw [backK_eq] at h2
    by_cases hi : i < ρ.length
    · rw [List.getElem?_append_left hi] at h1
      rw [List.getElem?_append_left (by omega)] at h2
      by_cases hj : i ∈ js
      · obtain ⟨q, hq⟩ := List.mem_iff_getElem?.mp hj
        have hq' : q < κ'.length := Nat.lt_of_lt_of_le (List.getElem?_eq_some_iff.mp hq).1 l
        rw [putK_at nd hq (List.getElem?_eq_getElem hq') (jlt hq)] at h2
        cases h2
        exact (g'.at' q p _ (rl hq h1) (List.getElem?_eq_getElem hq')).cl (List.all_eq_true.mp cl _ (List.getElem_mem hq'))
      · rw [putK_ne hj] at h2
        have ok := g.at' i p c h1 h2
        have hp : p ∉ selR js ρ := fun z => hj (memsel h1 z)
        refine ok.up w2.g (fun bn => ?_) fun o ho => ?_
        · obtain ⟨o, ho⟩ := Option.ne_none_iff_exists'.mp ok.nn
          exact (w.f p o ho bn hp).2.1
        · cases bp : B p with
          | none => exact (w.f p o ho bp hp).1
          | some u =>
            have e1 := g.ex p u bp
            rw [ho] at e1; cases e1
            exact g'.ex p o (w.s p o bp)
    · rw [List.getElem?_append_right (by omega), List.getElem?_drop] at h1
      rw [List.getElem?_append_right (by omega), lb, List.getElem?_drop] at h2
      exact (g'.at' _ p c h1 h2).cl (List.all_eq_true.mp cl _ (mem_of_get h2))
  · cases a with
    | d y => exact r
    | r y => exact r
    | c j =>
      obtain ⟨p, hp, rfl⟩ := r
      show Rep K B' _ (match js[j]? with | some k => .c k | none => .c (κ.length + (j - js.length))) _
      cases e : js[j]? with
      | some k =>
        have lt := jlt e
        rw [← g.len] at lt
        have e2 := rl e (List.getElem?_eq_getElem lt)
        rw [hp] at e2; cases e2
        exact ⟨_, get_app (List.getElem?_eq_getElem lt), rfl⟩
      | none =>
        have hj : js.length ≤ j := List.getElem?_eq_none_iff.mp e
        refine ⟨p, ?_, rfl⟩
        rw [← g.len, List.getElem?_append_right (by omega), List.getElem?_drop]
        have : js.length + (ρ.length + (j - js.length) - ρ.length) = j := by omega
        rw [this]; exact hp
theorem sel_ok (g : G K B ρ κ H) {js : List Nat} {κl : AK} (nd : js.Nodup) (hk : selK js κ = some κl) : G K B (selR js ρ) κl H := by
  obtain ⟨lk, sel⟩ := selK_get hk
  have get : ∀ {i : Nat} {p : Addr}, (selR js ρ)[i]? = some p → ∃ j c, js[i]? = some j ∧ ρ[j]? = some p ∧ κ[j]? = some c ∧ κl[i]? = some c ∧ clC c = true := fun {i p} h => by
    unfold selR at h
    rw [List.getElem?_map] at h
    obtain ⟨j, hj, e⟩ := Option.map_eq_some_iff.mp h
    obtain ⟨c, e1, e2, e3⟩ := sel i j hj
    have lt : j < ρ.length := by rw [g.len]; exact (List.getElem?_eq_some_iff.mp e1).1
    rw [List.getD_eq_getElem?_getD, List.getElem?_eq_getElem lt] at e
    exact ⟨j, c, hj, by rw [List.getElem?_eq_getElem lt]; exact congrArg some e, e1, e2, e3⟩
  refine ⟨g.ex, by unfold selR; rw [List.length_map, lk], fun i i' p h1 h2 => ?_, fun i p c h1 h2 => ?_⟩
  · obtain ⟨j, _, y1, y2, _⟩ := get h1
    obtain ⟨j', _, z1, z2, _⟩ := get h2
    have e := g.inj j j' p y2 z2
    subst e
    have l1 := (List.getElem?_eq_some_iff.mp y1)
    have l2 := (List.getElem?_eq_some_iff.mp z1)
    obtain ⟨a1, b1⟩ := l1
    obtain ⟨a2, b2⟩ := l2
    exact (List.getElem_inj nd).mp (b1.trans b2.symm)
  · obtain ⟨j, c', y1, y2, y3, y4, y5⟩ := get h1
    rw [h2] at y4; cases y4
    exact (g.at' j p c y2 y3).cl y5
theorem se_call {F : FSp} {ta : TA} {fa : AA} {E : XK} {E' : AX → AK → Prop} (ha : SA K ta fa) (hE : ∀ κ' x cls d H', E' x κ' → E cls d H' → True) (hx : ∀ B' H' x κ' cls d, E' x κ' → RepX K B' H' x cls d → E cls d H') : SE K (tCall (spA K F) [] E ta) (aCall F E' fa) := fun B ρ δ κ σ H R Q s g h q =>
  ha B ρ δ κ σ H _ _ s g h fun B1 ρ1 κ1 H1 as vs w1 g1 r1 hcw => by
    obtain ⟨js, asl, κl, nd, e1, e2, hF⟩ := callW_e hcw
    show spA K F (vs ++ []) H1 Q E
    rw [List.append_nil]
    refine ⟨B1, selR js ρ1, κl, asl, _, _, sel_ok g1 nd e2, selAs_ok (fun i j p h1 h2 => selR_get h1 h2) e1 r1, hF, ?_, ?_⟩
    · rintro B' ρ' κ' H' a v w2 g2 r2 ⟨l, cl, lv, hR⟩
      obtain ⟨w3, g3, r3⟩ := back_ok g1 nd e2 w2 g2 l cl lv
      exact q _ _ _ _ _ _ (w1.trans w3) g3 (r3 r2) hR
    · rintro B' ρ' κ' H' x cls d w2 g2 r2 ⟨l, cl, lv, hR⟩
      exact hx _ _ _ _ _ _ hR r2
section
variable {l : Nat} {fa : Addr} {fd : FuncData} {ps : List Str} {F : FSp} {x : Str} {q pos : Pos} {es : List Expr} {ta : TA} {ga : AA}
/-- f(..) of a def from which nothing is raised -/
theorem ea_call (Fo : FnOk X.prog X.w X.K X.mg X.base CX0 l fa fd ps (spA K F)) (hr : Room l X.A) (hg : Gl X x) (hm : X.mg x = some (.ref fa)) (hk : PySem.W.keepIn X.K (.ref fa) = true) (hb : Binds X.K fd ps []) (ha : PAa K X (e :: es) ta ga)
    (hdb : (x == ("__debug__" : Str)) = false := by decide) (he : starEach (e :: es) X.env = (false, eval e X.env) :: starEach es X.env := by rfl) (hpl : (backTo pos (starEach es X.env)).any (·.1) = false := by rfl) (hK : X.K = K := by rfl) :
    PEa K X (.Call (.Name x q) (e :: es) [] pos) (tCall (spA K F) [] E0 ta) (aCall F (fun _ _ => False) ga) := by
  subst hK
  exact ⟨pe_call Fo hr hg hm hk hb .nil pass0 ha.pa hdb he hpl, se_call ha.sd (fun _ _ _ _ _ _ _ => trivial) fun _ _ _ _ _ _ h => h.elim⟩
end
end Ab
set_option Elab.async false
set_option linter.all false
set_option maxRecDepth 100000
set_option maxHeartbeats 4000000
/-! Ab7: the law's own promise, constants of the top, small things -/
namespace Ab
open PySem L2
variable {K : PySem.W.Frag} {B B' H H' : Hp} {ρ ρ' : List Addr} {κ κ' : AK} {X : Cx}
/-- the law: True at every script -/
def F_law : FSp := fun as κ R _ => ∃ ns : List Int, as = [.d (.list (ns.map .int))] ∧ κ = [] ∧ ns.length ≤ 63 ∧ R (.d (.bool true)) []
theorem dpa_ints : ∀ ns : List Int, DpAll K B (ns.map V.int) (ns.map .int)
  | [] => .nil
  | n :: ns => .cons (.int n) (dpa_ints ns)
theorem law_start {H : Hp} {a : Addr} {ns : List Int} (hl : ns.length ≤ 63) (hS : SqL K H a (ns.map V.int)) : spA K F_law [.ref a] H (fun v _ => v = .bl true) (fun _ _ _ => False) :=
  ⟨H, [], [], [.d (.list (ns.map .int))], fun a _ => a = .d (.bool true), fun _ _ => False, ⟨Same.refl H, rfl, fun i j p h => by simp at h, fun k p c h => by simp at h⟩, .cons (.lst hS (dpa_ints ns)) .nil, ⟨ns, rfl, rfl, hl, rfl⟩,
    fun B' ρ' κ' H' a v w g r e => by subst e; exact r.bool, fun _ _ _ _ _ _ _ _ _ _ h => h.elim⟩
theorem len_law : ∀ as κ R E', F_law as κ R E' → as.length = (["script"] : List Str).length := by
  rintro as κ R E' ⟨ns, rfl, _⟩; rfl
theorem fd_all {P : Program} {w : World} {mg : Str → Option Value} {l : Nat} {fa : Addr} {sp : Sp} (h : ∃ fd : FuncData, (∀ (s : Shared) (v : Value), BindsTo s fd ⟨[v], []⟩ [("script", v)]) ∧ ∀ (P : Program) (w : World) (base : Heap), FnOk P w K mg base CX0 l fa fd ["script"] sp) :
    ∃ fd : FuncData, (∀ (s : Shared) (v : Value), BindsTo s fd ⟨[v], []⟩ [("script", v)]) ∧ ∀ base : Heap, K.In base → base.Ns mainGlobals mg → FnOk P w K mg base CX0 l fa fd ["script"] sp := by
  obtain ⟨fd, h1, h2⟩ := h
  exact ⟨fd, h1, fun base _ _ => h2 P w base⟩
theorem sp_imp {F F' : FSp} (h : ∀ as κ R E', F as κ R E' → F' as κ R E') {vs : List V} {Q : VK} {E : XK} (s : spA K F vs H Q E) : spA K F' vs H Q E := by
  obtain ⟨B, ρ, κ, as, R, E', g, r, f, q⟩ := s
  exact ⟨B, ρ, κ, as, R, E', g, r, h _ _ _ _ f, q⟩
/-- a tuple of texts of the top -/
inductive StrVals : List Value → List PyData → Prop where
  | nil : StrVals [] []
  | cons (x : Str) (t : Tok) {vs : List Value} {ds : List PyData} : StrVals vs ds → StrVals (.str x t :: vs) (.str x :: ds)
theorem strVals_v {vs : List Value} {ds : List PyData} (h : StrVals vs ds) : ∃ xs : List V, Vals xs vs ∧ DpAll K B xs ds := by
  induction h with
  | nil => exact ⟨[], .nil, .nil⟩
  | cons x t _ ih => obtain ⟨xs, h1, h2⟩ := ih; exact ⟨.str x :: xs, .cons ⟨t, rfl⟩ h1, .cons (.str x) h2⟩
theorem dp_strs {a : Addr} {o : Obj} {n : Nat} {vs : Array Value} {ds : List PyData} (h : K.lookup a = some o) (hc : o.cls = .type "tuple") (hd : o.data = .seq vs n) (hz : vs.size ≤ sizeLine) (hs : StrVals vs.toList ds) : Dp K B (.ref a) (.tuple ds) := by
  obtain ⟨xs, h1, h2⟩ := strVals_v (K := K) (B := B) hs
  exact .tup (.inr ⟨o, vs, n, h, hc, hd, hz, h1⟩) h2
/-- min of two numbers -/
def aMin2 : List AV → AK → AR → Prop := fun as κ R => match as with
  | [.d (.int i), .d (.int j)] => R (.d (.int (if j < i then j else i))) κ
  | _ => False
theorem ca_min (hc : X.calm = true) : CallA K X (.builtin "min") (fun xs H Q => ∃ i j, xs = [.int i, .int j] ∧ Q (.int (if j < i then j else i)) H) aMin2 := ⟨call_min2 hc, fun B ρ κ H xs as R Q g rs h q => by
  unfold aMin2 at h
  split at h
  · obtain ⟨x, y, rfl, r1, r2⟩ := reps2 rs
    exact ⟨_, _, by rw [r1.int, r2.int], q.at0 g (rp_int _) h⟩
  · exact h.elim⟩
/-- isinstance's answers -/
theorem kit_b (a b : String) (r : Bool) (h : kitB a b = some r) : kitB a b = some r := h

/-! comprehensions: over known items, over a range, over a text, over the cell at k -/
variable {ag : AG} {pt : AT} {f : AE} {vs : List Nat} {δ : AD} {κ1 : AK} {R : AR}
theorem lc_d {xs : List PyData} (Pv : Nat → List PyData → AK → Prop) (h0 : Pv 0 [] κ1) (hd : ∀ acc κ', Pv xs.length acc κ' → R (.d (.list acc)) κ')
    (hs : ∀ i x acc κ', xs[i]? = some x → Pv i acc κ' → ag (.d x) (wipeA δ vs) κ' fun δ2 κ2 => pt δ2 κ2 fun b κ3 => bsel b (f δ2 κ3 fun y κ4 => ∃ d, y = .d d ∧ acc.length < sizeLine ∧ Pv (i + 1) (acc ++ [d]) κ4) (Pv (i + 1) acc κ3)) : LcW (itD xs) ag pt f vs δ κ1 R := by
  refine lcw.mpr ⟨fun i m acc κ' => m = xs.length - i ∧ i ≤ xs.length ∧ Pv i acc κ', ⟨_, rfl, Nat.zero_le _, h0⟩, ?_⟩
  rintro i m acc κ' ⟨rfl, hi, p⟩
  by_cases hlt : i < xs.length
  · refine .inr ⟨hlt, Pv (i + 1), fun _ _ q => ⟨xs.length - (i + 1), by omega, rfl, hlt, q⟩, ?_⟩
    rintro a ⟨x, hx, rfl⟩
    exact hs i x acc κ' hx p
  · have e : i = xs.length := by omega
    subst e
    exact .inl ⟨Nat.le_refl _, hd _ _ p⟩
theorem lc_r {lo : Int} {N : Nat} (Pv : Nat → List PyData → AK → Prop) (h0 : Pv 0 [] κ1) (hd : ∀ acc κ', Pv N acc κ' → R (.d (.list acc)) κ')
    (hs : ∀ i acc κ', i < N → Pv i acc κ' → ag (.d (.int (lo + i))) (wipeA δ vs) κ' fun δ2 κ2 => pt δ2 κ2 fun b κ3 => bsel b (f δ2 κ3 fun y κ4 => ∃ d, y = .d d ∧ acc.length < sizeLine ∧ Pv (i + 1) (acc ++ [d]) κ4) (Pv (i + 1) acc κ3)) : LcW (itR lo N) ag pt f vs δ κ1 R := by
  refine lcw.mpr ⟨fun i m acc κ' => m = N - i ∧ i ≤ N ∧ Pv i acc κ', ⟨_, rfl, Nat.zero_le _, h0⟩, ?_⟩
  rintro i m acc κ' ⟨rfl, hi, p⟩
  by_cases hlt : i < N
  · refine .inr ⟨hlt, Pv (i + 1), fun _ _ q => ⟨N - (i + 1), by omega, rfl, hlt, q⟩, ?_⟩
    rintro a rfl
    exact hs i acc κ' hlt p
  · have e : i = N := by omega
    subst e
    exact .inl ⟨Nat.le_refl _, hd _ _ p⟩
theorem lc_c {k : Nat} {xs : List PyData} (Pv : Nat → List PyData → AK → Prop) (h0 : Pv 0 [] κ1) (hk : ∀ i acc κ', Pv i acc κ' → κ'[k]? = some (.ld xs)) (hd : ∀ acc κ', Pv xs.length acc κ' → R (.d (.list acc)) κ')
    (hs : ∀ i x acc κ', xs[i]? = some x → Pv i acc κ' → ag (.d x) (wipeA δ vs) κ' fun δ2 κ2 => pt δ2 κ2 fun b κ3 => bsel b (f δ2 κ3 fun y κ4 => ∃ d, y = .d d ∧ acc.length < sizeLine ∧ Pv (i + 1) (acc ++ [d]) κ4) (Pv (i + 1) acc κ3)) : LcW (itC k) ag pt f vs δ κ1 R := by
  refine lcw.mpr ⟨fun i m acc κ' => m = xs.length - i ∧ i ≤ xs.length ∧ Pv i acc κ', ⟨_, rfl, Nat.zero_le _, h0⟩, ?_⟩
  rintro i m acc κ' ⟨rfl, hi, p⟩
  by_cases hlt : i < xs.length
  · refine .inr ⟨⟨xs, hk _ _ _ p, hlt⟩, Pv (i + 1), fun _ _ q => ⟨xs.length - (i + 1), by omega, rfl, hlt, q⟩, ?_⟩
    rintro a ⟨ys, x, hy, hx, rfl⟩
    rw [hk _ _ _ p] at hy; cases hy
    exact hs i x acc κ' hx p
  · have e : i = xs.length := by omega
    subst e
    exact .inl ⟨⟨xs, hk _ _ _ p, Nat.le_refl _⟩, hd _ _ p⟩
/-! items at places -/
theorem at_mem {α : Type} {xs : List α} {i : Int} (h0 : 0 ≤ i) (h : i < xs.length) : ∃ w, atI xs i = some w ∧ w ∈ xs ∧ xs[i.toNat]? = some w := by
  obtain ⟨j, rfl⟩ := Int.eq_ofNat_of_zero_le h0
  have hj : j < xs.length := by omega
  exact ⟨xs[j], atI_nat (List.getElem?_eq_getElem hj), List.getElem_mem hj, by simpa using List.getElem?_eq_getElem hj⟩
theorem at_nat {α : Type} {xs : List α} {j : Nat} {w : α} (h : xs[j]? = some w) : atI xs (j : Int) = some w := atI_nat h
/-! texts -/
abbrev tl (x : Str) : List Nat := x.cps.toList
theorem tl_app (a b : Str) : tl (a ++ b) = tl a ++ tl b := by
  show (a.cps ++ b.cps).toList = _
  rw [Array.toList_append]
theorem tl_len (a : Str) : a.length = (tl a).length := by
  show a.cps.size = a.cps.toList.length
  rw [Array.length_toList]
theorem tl_inj {a b : Str} (h : tl a = tl b) : a = b := by
  obtain ⟨x⟩ := a
  obtain ⟨y⟩ := b
  congr 1
  exact Array.toList_inj.mp h
theorem tl_one (c : Nat) : tl ⟨#[c]⟩ = [c] := rfl
theorem inD_str (z : Str) (xs : List Str) : inD (.str z) (xs.map .str) = decide (z ∈ xs) := by
  induction xs with
  | nil => rfl
  | cons x xs ih =>
    show (x == z || inD (.str z) (xs.map .str)) = _
    rw [ih, Bool.eq_iff_iff]
    simp only [Bool.or_eq_true, beq_iff_eq, decide_eq_true_eq, List.mem_cons]
    constructor
    · rintro (h | h)
      · exact .inl h.symm
      · exact .inr h
    · rintro (h | h)
      · exact .inl h.symm
      · exact .inr h
theorem flat_strs (xs : List Str) : (xs.map PyData.str).all flatD = true := by
  induction xs with
  | nil => rfl
  | cons x xs ih => exact ih
/-! slots forgotten -/
theorem wipeA_some {δ : AD} : ∀ {vs : List Nat} {i : Nat} {a : AV}, (wipeA δ vs)[i]? = some (some a) → δ[i]? = some (some a)
  | [], _, _, h => h
  | v :: vs, i, a, h => by
    have h : ((wipeA δ vs).set v none)[i]? = some (some a) := h
    rw [List.getElem?_set] at h
    split at h
    · split at h <;> cases h
    · exact wipeA_some h
theorem wipeA_len (δ : AD) : ∀ vs : List Nat, (wipeA δ vs).length = δ.length
  | [] => rfl
  | v :: vs => by
    show ((wipeA δ vs).set v none).length = _
    rw [List.length_set, wipeA_len]
theorem GhS.wipe {n : Nat} {δ : AD} (vs : List Nat) (l : n ≤ κ.length) : GhS K n δ κ (wipeA δ vs) κ := GhS.forget l (wipeA_len δ vs) fun _ _ h => wipeA_some h
end Ab
set_option Elab.async false
set_option linter.all false
set_option maxRecDepth 100000
set_option maxHeartbeats 4000000
/-! Ab8: lists one behind the other, pop, insert, tuple(x), join, f-strings, dicts -/
namespace Ab
open PySem L2
variable {K : PySem.W.Frag} {B B' B2 H H' H2 : Hp} {ρ ρ' ρ2 : List Addr} {κ κ' : AK} {δ : AD} {σ : L2.St} {p : Addr} {k : Nat} {v x y z : V} {a b c : AV}
variable {X : Cx} {e e2 : Expr} {t u : TE} {f f2 : AE} {pos : Pos}

/-! ### items -/
/-- the items of a list of data -/
def ldOf (κ : AK) : AV → Option (List PyData)
  | .d (.list xs) => some xs
  | .c k => match κ[k]? with
    | some (.ld xs) => some xs
    | _ => none
  | _ => none
theorem ldOf_ok (g : G K B ρ κ H) (r : Rep K B ρ a v) {xs : List PyData} (h : ldOf κ a = some xs) : ∃ p vs, v = .ref p ∧ SqL K H p vs ∧ DpAll K B vs xs := by
  unfold ldOf at h
  split at h
  · cases h; exact of_listG g r
  · obtain ⟨p, hp, rfl⟩ := r
    split at h
    · rename_i ys ek
      cases h
      obtain ⟨p', hp', _, vs, d1, eH⟩ := g.cell ek
      rw [hp] at hp'; cases hp'
      exact ⟨p, vs, rfl, .inl (.inl eH), d1⟩
    · cases h
  · cases h
def rCatS (K : PySem.W.Frag) : R2 := fun x y H Q => ∃ l b xs zs, x = .ref l ∧ y = .ref b ∧ SqL K H l xs ∧ SqL K H b zs ∧ xs.length + zs.length ≤ sizeLine ∧ ∀ p, H p = none → Q (.ref p) (upd H p (.lst (xs ++ zs)))
theorem op_catS : OpR X (binaryOp .Add) (rCatS X.K) := by
  intro pins s σ H x y v u Q I rx ry h
  obtain ⟨l, b, xs, zs, rfl, rfl, hx, hy, hz, q⟩ := h
  cases rx
  cases ry
  obtain ⟨its, r1, ⟨⟨cls, dd, data, sl⟩, n, ho, hc, hdn, hd⟩, _⟩ := I.list hx
  obtain ⟨its2, r2, ⟨⟨cls2, dd2, data2, sl2⟩, n2, ho2, hc2, hdn2, hd2⟩, _⟩ := I.list hy
  simp only at hc hd hc2 hd2
  subst hc hd hc2 hd2
  have e1 := r1.length
  have e2 := r2.length
  have e : its.toArray ++ its2.toArray = (its ++ its2).toArray := by simp
  refine concat_meets ⟨_, ho, rfl⟩ ⟨_, ho2, rfl⟩ noFill_list_add seq_list_add PySem.F.slot_list_add PySem.F.entry_list_add (PySem.F.args_list_add_2 _ _) (PyProof.Rows.list_addW l b its.toArray its2.toArray n n2 dd dd2 sl sl2 (by simp only [List.size_toArray]; omega)) ⟨ho, ho2, ?_⟩
  rw [e]
  exact ⟨.ref _, _, I.lnew (t' := s.toks) (r1.append r2) (by rw [List.length_append]; omega), rfl, q _ I.fresh⟩
/-- lists one behind the other: a new list as data, as a cell -/
def aCat (m : Bool) : AO := fun a b κ R => ∃ xs ys, ldOf κ a = some xs ∧ ldOf κ b = some ys ∧ xs.length + ys.length ≤ sizeLine ∧ (match m with
  | true => R (.c κ.length) (κ ++ [.ld (xs ++ ys)])
  | false => R (.d (.list (xs ++ ys))) κ)
theorem oa_cat (m : Bool) (hK : X.K = K := by rfl) : OpA K X (binaryOp .Add) (rCatS K) (aCat m) := by
  subst hK
  refine ⟨op_catS, ?_⟩
  intro B ρ κ H x y a b R Q g rx ry h q
  obtain ⟨xs, ys, h1, h2, hz, h⟩ := h
  obtain ⟨p, vs, rfl, s1, d1⟩ := ldOf_ok g rx h1
  obtain ⟨p', vs', rfl, s2, d2⟩ := ldOf_ok g ry h2
  refine ⟨_, _, vs, vs', rfl, rfl, s1, s2, by rw [dpa_len d1, dpa_len d2]; exact hz, fun p hp => ?_⟩
  cases m with
  | true =>
    obtain ⟨u4, g4, r4⟩ := new_ld g hp (dpa_app d1 d2)
    exact q _ _ _ _ _ _ u4 g4 r4 h
  | false =>
    obtain ⟨u4, g4, r4⟩ := new_lst g hp (dpa_app d1 d2)
    exact q _ _ _ _ _ _ u4 g4 r4 h
/-- a text none or one times -/
def aMulS : AO := fun a b κ R => match a, b with
  | .d (.str s), .d (.int n) => (n = 0 ∧ R (.d (.str Str.empty)) κ) ∨ (n = 1 ∧ R (.d (.str s)) κ)
  | _, _ => False
def rMulS : R2 := fun x y H Q => ∃ s n, x = .str s ∧ y = .int n ∧ ((n = 0 ∧ Q (.str Str.empty) H) ∨ (n = 1 ∧ Q (.str s) H))
theorem op_mulS : OpR X (binaryOp .Mult) rMulS := by
  intro pins s σ H x y v u Q I rx ry h
  obtain ⟨z, n, rfl, rfl, h⟩ := h
  obtain ⟨t, rfl⟩ := rx
  obtain ⟨t2, rfl⟩ := ry
  rcases h with ⟨rfl, q⟩ | ⟨rfl, q⟩
  · exact PySem.SB.mul ⟨by decide, fun h => absurd (by decide) h, fun h => absurd (by decide) h⟩ fun t' k => ⟨.str _, H, I.tok k, ⟨t', rfl⟩, q⟩
  · exact PySem.SB.mul ⟨by decide, fun _ h => (by simp at h), fun _ h => (by simp at h)⟩ fun t' k => ⟨.str z, H, I.tok k, ⟨t', rfl⟩, q⟩
theorem oa_mulS : OpA K X (binaryOp .Mult) rMulS aMulS := by
  refine ⟨op_mulS, ?_⟩
  intro B ρ κ H x y a b R Q g rx ry h q
  unfold aMulS at h
  split at h
  · refine ⟨_, _, rx.str, ry.int, ?_⟩
    rcases h with ⟨e, h⟩ | ⟨e, h⟩
    · exact .inl ⟨e, q.at0 g (rp_str _) h⟩
    · exact .inr ⟨e, q.at0 g (rp_str _) h⟩
  · exact h.elim

/-! ### tuple(x) -/
def aTupOf : List AV → AK → AR → Prop := fun as κ R => match as with
  | [.d (.tuple ds)] => R (.d (.tuple ds)) κ
  | [a] => ∃ ds, ldOf κ a = some ds ∧ R (.d (.tuple ds)) κ
  | _ => False
theorem ca_tuple (hK : X.K = K := by rfl) : CallA K X (.type "tuple") (fun xs H Q => ∃ p ys, xs = [.ref p] ∧ ((SqL K H p ys ∧ ∀ l, H l = none → Q (.ref l) (upd H l (.tup ys))) ∨ (SqT K H p ys ∧ Q (.ref p) H))) aTupOf := by
  subst hK
  refine ⟨call_tuple_of, fun B ρ κ H xs as R Q g rs h q => ?_⟩
  unfold aTupOf at h
  split at h
  · obtain ⟨x, rfl, r⟩ := reps1 rs
    have r' := r
    obtain ⟨p, vs, rfl, s1, d1⟩ := of_tupG g r
    exact ⟨p, vs, rfl, .inr ⟨s1, q.at0 g r' h⟩⟩
  · obtain ⟨x, rfl, r⟩ := reps1 rs
    obtain ⟨ds, hd, h⟩ := h
    obtain ⟨p, vs, rfl, s1, d1⟩ := ldOf_ok g r hd
    refine ⟨p, vs, rfl, .inl ⟨s1, fun l hl => ?_⟩⟩
    obtain ⟨u4, g4, r4⟩ := new_tup g hl d1
    exact q _ _ _ _ _ _ u4 g4 r4 h
  · exact h.elim

/-! ### methods -/
theorem dpa_erase : ∀ {ds : List PyData} {vs : List V} (n : Nat), DpAll K B vs ds → DpAll K B (vs.eraseIdx n) (ds.eraseIdx n)
  | [], _, n, h => by cases h; simp; exact .nil
  | d :: ds, _, n, h => by
    cases h with
    | cons h1 h2 =>
      cases n with
      | zero => exact h2
      | succ n => exact .cons h1 (dpa_erase n h2)
/-- xs.pop(i), i not below 0 -/
def aPopAt : AV → List AV → AK → AR → Prop := fun a as κ R => match a, as with
  | .c k, [.d (.int i)] => ∃ xs w, κ[k]? = some (.ld xs) ∧ 0 ≤ i ∧ i < 2 ^ 63 ∧ xs[i.toNat]? = some w ∧ R (.d w) (κ.set k (.ld (xs.eraseIdx i.toNat)))
  | _, _ => False
theorem ma_popAt : MtA K X "list.pop" rPopAt aPopAt := by
  refine ⟨mt_popAt, fun B ρ κ H x xs a as R Q g rx rs h q => ?_⟩
  unfold aPopAt at h
  split at h
  · rename_i k i
    obtain ⟨p, hp, rfl⟩ := rx
    obtain ⟨y, rfl, ry⟩ := reps1 rs
    obtain ⟨ys, w, ek, h0, h63, hw, h⟩ := h
    obtain ⟨vs, r, eH, wr⟩ := g.ldAt hp ek
    obtain ⟨v, hv, rv⟩ := dpa_get r hw
    obtain ⟨u2, g2⟩ := wr _ _ (dpa_erase i.toNat r)
    have hl : i.toNat < vs.length := (List.getElem?_eq_some_iff.mp hv).1
    refine ⟨p, vs, i, i.toNat, v, rfl, by rw [ry.int], eH, by omega, h63, ?_, hv, q _ _ _ _ (.d w) _ u2 g2 (dp_up u2.s _ _ rv) h⟩
    have hneg : ¬ i < 0 := by omega
    have hpos : (decide (0 ≤ i) && decide (i < (vs.length : Int))) = true := by rw [Bool.and_eq_true]; exact ⟨decide_eq_true h0, decide_eq_true (by omega)⟩
    simp [seqIndex?, hneg, h0]
    omega
  · exact h.elim
/-- xs.pop() -/
def aPop : AV → List AV → AK → AR → Prop := fun a as κ R => match a, as with
  | .c k, [] => ∃ xs w, κ[k]? = some (.ld (xs ++ [w])) ∧ R (.d w) (κ.set k (.ld xs))
  | _, _ => False
theorem ma_pop : MtA K X "list.pop" rPop aPop := by
  refine ⟨mt_pop, fun B ρ κ H x xs a as R Q g rx rs h q => ?_⟩
  unfold aPop at h
  split at h
  · rename_i k
    obtain ⟨p, hp, rfl⟩ := rx
    cases rs
    obtain ⟨ys, w, ek, h⟩ := h
    obtain ⟨vs, r, eH, wr⟩ := g.ldAt hp ek
    have hl := dpa_len r
    rw [List.length_append, List.length_singleton] at hl
    obtain ⟨v, hv, rv⟩ := dpa_get r (i := ys.length) (d := w) (by simp)
    have r2 : DpAll K B vs.dropLast ys := by
      have := dpa_take (vs.length - 1) r
      rw [← List.dropLast_eq_take, List.take_append_of_le_length (by omega), List.take_of_length_le (by omega)] at this
      exact this
    obtain ⟨u2, g2⟩ := wr _ _ r2
    refine ⟨p, vs, v, rfl, rfl, eH, by rw [hl]; exact hv, q _ _ _ _ (.d w) _ u2 g2 (dp_up u2.s _ _ rv) h⟩
  · exact h.elim
/-- xs.insert(i, y), i not below 0 -/
def aInsert : AV → List AV → AK → AR → Prop := fun a as κ R => match a, as with
  | .c k, [.d (.int i), .d z] => ∃ xs, κ[k]? = some (.ld xs) ∧ xs.length < sizeLine ∧ 0 ≤ i ∧ i < 2 ^ 63 ∧ R (.d .none) (κ.set k (.ld (xs.take i.toNat ++ [z] ++ xs.drop i.toNat)))
  | _, _ => False
theorem ma_insert : MtA K X "list.insert" (fun x vs H Q => ∃ (l : Addr) (xs : List V) (i : Int) (y : V), x = .ref l ∧ vs = [.int i, y] ∧ H l = some (.lst xs) ∧ xs.length < sizeLine ∧ 0 ≤ i ∧ i < 2 ^ 63 ∧
    Q .non (upd H l (.lst (xs.take i.toNat ++ [y] ++ xs.drop i.toNat)))) aInsert := by
  refine ⟨mt_insert, fun B ρ κ H x xs a as R Q g rx rs h q => ?_⟩
  unfold aInsert at h
  split at h
  · obtain ⟨p, hp, rfl⟩ := rx
    obtain ⟨y, z, rfl, r1, r2⟩ := reps2 rs
    obtain ⟨ys, ek, hl, h0, h1, h⟩ := h
    obtain ⟨vs, r, eH, wr⟩ := g.ldAt hp ek
    obtain ⟨u2, g2⟩ := wr _ _ (dpa_app (dpa_app (dpa_take _ r) (.cons r2 .nil)) (dpa_drop _ r))
    exact ⟨p, vs, _, z, rfl, by rw [r1.int], eH, by rw [dpa_len r]; exact hl, h0, h1, q _ _ _ _ _ _ u2 g2 rp_non h⟩
  · exact h.elim
theorem dpa_strs : ∀ {ys : List Str} {vs : List V}, DpAll K B vs (ys.map .str) → vs = ys.map V.str
  | [], _, h => by cases h; rfl
  | y :: ys, _, h => by
    cases h with
    | cons h1 h2 =>
      cases h1
      rw [dpa_strs h2]; rfl
/-- s.join(x) -/
def aJoin : AV → List AV → AK → AR → Prop := fun a as κ R => match a, as with
  | .d (.str s), [.d (.tuple ds)] => ∃ ys : List Str, ds = ys.map .str ∧ (ys.map (·.length)).sum + ys.length * s.length ≤ 16777216 ∧ R (.d (.str (Txt.join s ys))) κ
  | .d (.str s), [b] => ∃ ys : List Str, ldOf κ b = some (ys.map .str) ∧ (ys.map (·.length)).sum + ys.length * s.length ≤ 16777216 ∧ R (.d (.str (Txt.join s ys))) κ
  | _, _ => False
theorem ma_join (hK : X.K = K := by rfl) : MtA K X "str.join" (fun x xs H Q => ∃ a p, ∃ ys : List Str, x = .str a ∧ xs = [.ref p] ∧ (SqL K H p (ys.map V.str) ∨ SqT K H p (ys.map V.str)) ∧
    (ys.map (·.length)).sum + ys.length * a.length ≤ 16777216 ∧ Q (.str (Txt.join a ys)) H) aJoin := by
  subst hK
  refine ⟨mt_join, fun B ρ κ H x xs a as R Q g rx rs h q => ?_⟩
  unfold aJoin at h
  split at h
  · obtain ⟨y, rfl, ry⟩ := reps1 rs
    cases rx.str
    obtain ⟨ys, rfl, hz, h⟩ := h
    obtain ⟨p, vs, rfl, s1, d1⟩ := of_tupG g ry
    obtain rfl := dpa_strs d1
    exact ⟨_, p, ys, rfl, rfl, .inr s1, hz, q.at0 g (rp_str _) h⟩
  · obtain ⟨y, rfl, ry⟩ := reps1 rs
    cases rx.str
    obtain ⟨ys, hl, hz, h⟩ := h
    obtain ⟨p, vs, rfl, s1, d1⟩ := ldOf_ok g ry hl
    obtain rfl := dpa_strs d1
    exact ⟨_, p, ys, rfl, rfl, .inl s1, hz, q.at0 g (rp_str _) h⟩
  · exact h.elim

/-! ### f-strings -/
def aFmt (f : AE) : AE := fun δ κ R => f δ κ fun a κ1 => match a with
  | .d (.str y) => y.length ≤ sizeLine ∧ R (.d (.str y)) κ1
  | .d (.int i) => i.natAbs.log2 < 1920 ∧ R (.d (.str (toString i))) κ1
  | _ => False
theorem ea_fmt (h : PEa K X e t f) : PEa K X (.FormattedValue e (-1) none pos) (tFmt t) (aFmt f) :=
  ⟨pe_fmt h.pe, fun B ρ δ κ σ H R Q s g hh q => h.sd B ρ δ κ σ H _ _ s g hh fun B1 ρ1 κ1 H1 a x u1 g1 r1 h1 => by
    split at h1
    · exact .inl ⟨_, r1.str, h1.1, q _ _ _ _ _ _ u1 g1 (rp_str _) h1.2⟩
    · exact .inr ⟨_, r1.int, h1.1, q _ _ _ _ _ _ u1 g1 (rp_str _) h1.2⟩
    · exact h1.elim⟩
abbrev AJ := Str → AD → AK → (Str → AK → Prop) → Prop
def aJNil : AJ := fun acc _ κ R => R acc κ
def aJCons (f : AE) (g : AJ) : AJ := fun acc δ κ R => f δ κ fun a κ1 => match a with
  | .d (.str y) => (acc ++ y).length ≤ sizeLine ∧ g (acc ++ y) δ κ1 R
  | _ => False
def SJ (K : PySem.W.Frag) (ts : List TE) (g : AJ) : Prop := ∀ acc B ρ δ κ σ H (R : Str → AK → Prop) (Q : Str → Hp → Prop), S K B ρ δ σ → G K B ρ κ H → g acc δ κ R →
  (∀ B' ρ' κ' H' out, Up B ρ H B' ρ' H' → G K B' ρ' κ' H' → R out κ' → Q out H') → tJs ts acc σ H Q
structure PJa (K : PySem.W.Frag) (X : Cx) (es : List Expr) (ts : List TE) (g : AJ) : Prop where
  pj : PJ X es ts
  sd : SJ K ts g
variable {es : List Expr} {ts : List TE} {gj : AJ}
theorem ja_nil : PJa K X [] [] aJNil := ⟨.nil, fun acc B ρ δ κ σ H R Q s g h q => q _ _ _ _ _ Up.refl g h⟩
theorem ja_cons (h1 : PEa K X e t f) (h2 : PJa K X es ts gj) : PJa K X (e :: es) (t :: ts) (aJCons f gj) :=
  ⟨.cons h1.pe h2.pj, fun acc B ρ δ κ σ H R Q s g hh q => h1.sd B ρ δ κ σ H _ _ s g hh fun B1 ρ1 κ1 H1 a x u1 g1 r1 k1 => by
    split at k1
    · exact ⟨_, r1.str, k1.1, h2.sd _ _ _ _ _ _ _ _ _ (s.up u1.g) g1 k1.2 fun B2 ρ2 κ2 H2 out u2 g2 h2 => q _ _ _ _ _ (u1.trans u2) g2 h2⟩
    · exact k1.elim⟩
def aJoined (g : AJ) : AE := fun δ κ R => g Str.empty δ κ fun out κ1 => R (.d (.str out)) κ1
theorem ea_joined {v1 v2 : Expr} {rest : List Expr} (h : PJa K X (v1 :: v2 :: rest) ts gj) : PEa K X (.JoinedStr (v1 :: v2 :: rest) pos) (fun σ H Q => tJs ts Str.empty σ H fun out H1 => Q (.str out) H1) (aJoined gj) :=
  ⟨pe_joined h.pj, fun B ρ δ κ σ H R Q s g hh q => h.sd _ _ _ _ _ _ _ _ _ s g hh fun B1 ρ1 κ1 H1 out u1 g1 h1 => q _ _ _ _ _ _ u1 g1 (rp_str _) h1⟩

/-! ### dicts with texts and numbers as keys, data as values -/
def keyD : L2.Key → PyData
  | .inl i => .int i
  | .inr s => .str s
theorem rep_key {k : L2.Key} (h : Rep K B ρ (.d (keyD k)) v) : v = kV k := by
  cases k with
  | inl i => exact h.int
  | inr s => exact h.str
def valD (kvs : List (L2.Key × PyData)) (k : L2.Key) : Option PyData := (kvs.find? fun kv => decide (kv.1 = k)).map (·.2)
def putD (kvs : List (L2.Key × PyData)) (k : L2.Key) (v : PyData) : List (L2.Key × PyData) :=
  if (kvs.any fun kv => decide (kv.1 = k)) = true then kvs.map (fun kv => if kv.1 = k then (kv.1, v) else kv) else kvs ++ [(k, v)]
def mergeD (kvs more : List (L2.Key × PyData)) : List (L2.Key × PyData) := more.foldl (fun acc kv => putD acc kv.1 kv.2) kvs
theorem valD_pos {k k' : L2.Key} {d : PyData} {r : List (L2.Key × PyData)} (h : k' = k) : valD ((k', d) :: r) k = some d := by simp [valD, List.find?_cons, h]
theorem valD_neg {k k' : L2.Key} {d : PyData} {r : List (L2.Key × PyData)} (h : k' ≠ k) : valD ((k', d) :: r) k = valD r k := by simp [valD, List.find?_cons, h]
theorem dpks_val {kvs : List (L2.Key × PyData)} {ws : List (L2.Key × V)} {k : L2.Key} {d : PyData} (h : DpKs K B kvs ws) : valD kvs k = some d → ∃ v, valV ws k = some v ∧ Dp K B v d := by
  unfold DpKs at h
  induction h with
  | nil => intro e; cases e
  | @cons p q ps qs h1 h2 ih =>
    obtain ⟨k1, d1⟩ := p
    obtain ⟨k2, v2⟩ := q
    obtain ⟨e, r⟩ := h1
    have e : k1 = k2 := e
    subst e
    intro hd
    by_cases hk : k1 = k
    · rw [valD_pos hk] at hd
      cases hd
      exact ⟨v2, valV_pos hk, r⟩
    · rw [valD_neg hk] at hd
      obtain ⟨v, h3, h4⟩ := ih hd
      exact ⟨v, by rw [valV_neg (p := (k1, v2)) hk]; exact h3, h4⟩
theorem dpks_any {kvs : List (L2.Key × PyData)} {ws : List (L2.Key × V)} {k : L2.Key} (h : DpKs K B kvs ws) : (kvs.any fun kv => decide (kv.1 = k)) = ws.any fun kv => decide (kv.1 = k) := by
  unfold DpKs at h
  induction h with
  | nil => rfl
  | @cons p q ps qs h1 h2 ih => rw [List.any_cons, List.any_cons, ih, h1.1]
theorem dpks_app {kvs kvs2 : List (L2.Key × PyData)} {ws ws2 : List (L2.Key × V)} (h : DpKs K B kvs ws) (h2 : DpKs K B kvs2 ws2) : DpKs K B (kvs ++ kvs2) (ws ++ ws2) := by
  unfold DpKs at h
  induction h with
  | nil => exact h2
  | cons h1 _ ih => exact .cons h1 ih
theorem dpks_put {kvs : List (L2.Key × PyData)} {ws : List (L2.Key × V)} {k : L2.Key} {d : PyData} (h : DpKs K B kvs ws) (r : Dp K B v d) : DpKs K B (putD kvs k d) (L2.putK ws k v) := by
  unfold putD L2.putK
  rw [dpks_any h]
  split
  · unfold DpKs at h
    induction h with
    | nil => exact .nil
    | @cons p q ps qs h1 h2 ih =>
      rw [List.map_cons, List.map_cons]
      refine .cons ?_ ?_
      · rw [h1.1]
        by_cases hk : q.1 = k
        · rw [if_pos hk, if_pos hk]; exact ⟨rfl, r⟩
        · rw [if_neg hk, if_neg hk]; exact h1
      · rename_i hany
        by_cases ha : (qs.any fun kv => decide (kv.1 = k)) = true
        · exact ih ha
        · have none : ∀ q ∈ qs, q.1 ≠ k := fun q hq e => ha (List.any_eq_true.mpr ⟨q, hq, decide_eq_true e⟩)
          have : ∀ {ps : List (L2.Key × PyData)} {qs : List (L2.Key × V)}, Paired (fun (p : L2.Key × PyData) (q : L2.Key × V) => p.1 = q.1 ∧ Dp K B q.2 p.2) ps qs → (∀ q ∈ qs, q.1 ≠ k) →
              Paired (fun (p : L2.Key × PyData) (q : L2.Key × V) => p.1 = q.1 ∧ Dp K B q.2 p.2) (ps.map fun kv => if kv.1 = k then (kv.1, d) else kv) (qs.map fun kv => if kv.1 = k then (kv.1, v) else kv) := by
            intro ps qs hp
            induction hp with
            | nil => intro _; exact .nil
            | @cons p q ps qs h1 h2 ih =>
              intro hn
              have hq := hn q (List.mem_cons_self ..)
              rw [List.map_cons, List.map_cons, h1.1, if_neg hq, if_neg hq]
              exact .cons h1 (ih fun z hz => hn z (List.mem_cons_of_mem _ hz))
          exact this h2 none
  · exact dpks_app h (.cons ⟨rfl, r⟩ .nil)
theorem dpks_merge : ∀ {more : List (L2.Key × PyData)} {rs : List (L2.Key × V)} {kvs : List (L2.Key × PyData)} {ws : List (L2.Key × V)}, DpKs K B more rs → DpKs K B kvs ws → DpKs K B (mergeD kvs more) (mergeK ws rs) := by
  intro more rs kvs ws r
  unfold DpKs at r
  induction r generalizing kvs ws with
  | nil => intro q; exact q
  | @cons p q ps qs h t ih =>
    intro r0
    refine ih (kvs := putD kvs p.1 p.2) (ws := L2.putK ws q.1 q.2) ?_
    rw [h.1]
    exact dpks_put r0 h.2
/-- a dict cell -/
theorem G.dkAt (g : G K B ρ κ H) {xs : List (L2.Key × PyData)} (hp : ρ[k]? = some p) (ek : κ[k]? = some (.dK xs)) : ∃ vs, DpKs K B xs vs ∧ H p = some (.dK vs) ∧
    ∀ xs' vs', DpKs K B xs' vs' → Up B ρ H B ρ (upd H p (.dK vs')) ∧ G K B ρ (κ.set k (.dK xs')) (upd H p (.dK vs')) := by
  obtain ⟨p', hp', hb, vs, r, eH⟩ := g.cell ek
  rw [hp] at hp'; cases hp'
  refine ⟨vs, r, eH, fun xs' vs' r' => ⟨G.writeUp hp, ?_⟩⟩
  have hc : CellOk K B ρ (upd H p (.dK vs')) p (.dK xs') := ⟨hb, vs', r', upd_same⟩
  exact g.write hp hb hc
/-- d[y] -/
def aDGet (f f2 : AE) : AE := fun δ κ R => f δ κ fun a κ1 => f2 δ κ1 fun b κ2 => match a with
  | .c k => ∃ kvs key d, κ2[k]? = some (.dK kvs) ∧ b = .d (keyD key) ∧ valD kvs key = some d ∧ R (.d d) κ2
  | _ => False
theorem ea_dget {l : Nat} (hr : Room l X.A) (h1 : PEa K X e t f) (h2 : PEa K X e2 u f2) (hs : NoSl e2 := by exact fun _ _ => rfl) : PEa K X (.Subscript e e2 pos) (tDGet t u) (aDGet f f2) :=
  ⟨pe_dget (Nat.lt_of_le_of_lt (by omega) hr.units) h1.pe h2.pe hs, fun B ρ δ κ σ H R Q s g hh q => h1.sd B ρ δ κ σ H _ _ s g hh fun B1 ρ1 κ1 H1 a x u1 g1 r1 k1 => h2.sd _ _ _ _ _ _ _ _ (s.up u1.g) g1 k1 fun B2 ρ2 κ2 H2 b y u2 g2 r2 k2 => by
    split at k2
    · obtain ⟨kvs, key, d, ek, rfl, hv, k2⟩ := k2
      obtain ⟨p, hp, rfl⟩ := r1.up u2.g
      obtain ⟨vs, r, eH, _⟩ := g2.dkAt hp ek
      obtain ⟨v, hv', rv⟩ := dpks_val r hv
      have := rep_key r2
      subst this
      exact ⟨p, v, rfl, by rw [← hv']; exact DGet.k eH, q _ _ _ _ (.d d) _ (u1.trans u2) g2 rv k2⟩
    · exact k2.elim⟩
/-- d[y] = v -/
def aDPut (fo fi fv : AE) : AS := fun A δ κ => fv δ κ fun v κ1 => fo δ κ1 fun a κ2 => fi δ κ2 fun b κ3 => match a with
  | .c k => ∃ kvs key d, κ3[k]? = some (.dK kvs) ∧ b = .d (keyD key) ∧ v = .d d ∧ kvs.length < sizeLine ∧ A.nx δ (κ3.set k (.dK (putD kvs key d)))
  | _ => False
variable {o i val : Expr} {to' ti tv : TE} {fo fi fv : AE} {pos' : Pos}
theorem sa_dput {l : Nat} (hr : Room l X.A) (ho : PEa K X o to' fo) (hi : PEa K X i ti fi) (hv : PEa K X val tv fv) (hs : swapsWith val (some (.Subscript o i pos')) pos.line X.env = pure false := by rfl) :
    PSa K X (.Assign [.Subscript o i pos'] val pos) (sDPut to' ti tv) (aDPut fo fi fv) :=
  ⟨ps_dput (Nat.lt_of_le_of_lt (by omega) hr.units) ho.pe hi.pe hv.pe hs, fun B ρ δ κ σ H A D s g l hh im => hv.sd B ρ δ κ σ H _ _ s g hh fun B1 ρ1 κ1 H1 vv xv u1 g1 r1 k1 => ho.sd _ _ _ _ _ _ _ _ (s.up u1.g) g1 k1 fun B2 ρ2 κ2 H2 a xo u2 g2 r2 k2 => hi.sd _ _ _ _ _ _ _ _ (s.up (u1.trans u2).g) g2 k2 fun B3 ρ3 κ3 H3 b xi u3 g3 r3 k3 => by
    split at k3
    · obtain ⟨kvs, key, d, ek, rfl, rfl, hl, k3⟩ := k3
      obtain ⟨p, hp, rfl⟩ := r2.up u3.g
      obtain ⟨vs, r, eH, wr⟩ := g3.dkAt hp ek
      have := rep_key r3
      subst this
      have rd : Dp K B3 xv d := dp_up (u2.trans u3).s _ _ r1
      obtain ⟨u4, g4⟩ := wr _ _ (dpks_put (k := key) r rd)
      have w := ((u1.trans u2).trans u3).trans u4
      refine ⟨p, _, rfl, DPut.k eH (by rw [← Paired.length r]; exact hl), im.nx _ _ _ _ _ _ w.n g4 (s.up w.g) (Nat.le_trans l (w.len g g4)) k3⟩
    · exact k3.elim⟩
/-- {k: v, ..} -/
abbrev APs := AD → AK → (List (AV × AV) → AK → Prop) → Prop
def aPNil : APs := fun _ κ R => R [] κ
def aPCons (fk fv : AE) (g : APs) : APs := fun δ κ R => fk δ κ fun a κ1 => fv δ κ1 fun b κ2 => g δ κ2 fun ps κ3 => R ((a, b) :: ps) κ3
abbrev RepP (K : PySem.W.Frag) (B : Hp) (ρ : List Addr) : List (AV × AV) → List (V × V) → Prop := Paired fun p q => Rep K B ρ p.1 q.1 ∧ Rep K B ρ p.2 q.2
theorem RepP.up (w : Ug B ρ B' ρ') {as : List (AV × AV)} {vs : List (V × V)} (h : RepP K B ρ as vs) : RepP K B' ρ' as vs := Paired.mapP h fun _ _ r => ⟨r.1.up w, r.2.up w⟩
def SP (K : PySem.W.Frag) (ts : List (TE × TE)) (g : APs) : Prop := ∀ B ρ δ κ σ H (R : List (AV × AV) → AK → Prop) (Q : List (V × V) → Hp → Prop), S K B ρ δ σ → G K B ρ κ H → g δ κ R →
  (∀ B' ρ' κ' H' as vs, Up B ρ H B' ρ' H' → G K B' ρ' κ' H' → RepP K B' ρ' as vs → R as κ' → Q vs H') → tPairs ts σ H Q
structure PPa (K : PySem.W.Frag) (X : Cx) (pos : Pos) (keys : List (Option Expr)) (values : List Expr) (ts : List (TE × TE)) (g : APs) : Prop where
  pp : PPs X pos keys values ts
  sd : SP K ts g
variable {ks : List (Option Expr)} {vs : List Expr} {tps : List (TE × TE)} {gp : APs}
theorem pa_pnil : PPa K X pos [] [] [] aPNil := ⟨pps_nil, fun B ρ δ κ σ H R Q s g h q => q _ _ _ _ _ _ Up.refl g .nil h⟩
theorem pa_pcons (h1 : PEa K X e t f) (h2 : PEa K X e2 u f2) (h3 : PPa K X pos ks vs tps gp) : PPa K X pos (some e :: ks) (e2 :: vs) ((t, u) :: tps) (aPCons f f2 gp) :=
  ⟨pps_cons h1.pe h2.pe h3.pp, fun B ρ δ κ σ H R Q s g hh q => h1.sd B ρ δ κ σ H _ _ s g hh fun B1 ρ1 κ1 H1 a x u1 g1 r1 k1 => h2.sd _ _ _ _ _ _ _ _ (s.up u1.g) g1 k1 fun B2 ρ2 κ2 H2 b y u2 g2 r2 k2 =>
    h3.sd _ _ _ _ _ _ _ _ (s.up (u1.trans u2).g) g2 k2 fun B3 ρ3 κ3 H3 as ws u3 g3 r3 k3 => q _ _ _ _ _ _ ((u1.trans u2).trans u3) g3 (.cons ⟨r1.up (u2.trans u3).g, r2.up u3.g⟩ r3) k3⟩
def aDisp (g : APs) : AE := fun δ κ R => g δ κ fun ps κ1 => ∃ kvs : List (L2.Key × PyData), ps = kvs.map (fun p => (.d (keyD p.1), .d p.2)) ∧ kvs.length ≤ 15 ∧ R (.c κ1.length) (κ1 ++ [.dK (mergeD [] kvs)])
theorem repP_kvs : ∀ {kvs : List (L2.Key × PyData)} {ps : List (V × V)}, RepP K B ρ (kvs.map (fun p => (.d (keyD p.1), .d p.2))) ps → ∃ ws : List (L2.Key × V), ps = ws.map (fun p => (kV p.1, p.2)) ∧ DpKs K B kvs ws
  | [], _, h => by cases h; exact ⟨[], rfl, .nil⟩
  | p :: kvs, _, h => by
    rw [List.map_cons] at h
    cases h with
    | @cons _ b _ bs h1 h2 =>
      obtain ⟨ws, rfl, r⟩ := repP_kvs h2
      obtain ⟨b1, b2⟩ := b
      have e : b1 = kV p.1 := rep_key h1.1
      subst e
      exact ⟨(p.1, b2) :: ws, rfl, .cons ⟨rfl, h1.2⟩ r⟩
theorem ea_disp {keys : List (Option Expr)} {values : List Expr} (h : PPa K X pos keys values tps gp) (hall : keys.all (·.isSome) = true := by rfl) (hl : keys.length = values.length := by rfl) (h0 : keys ≠ [] := by exact List.cons_ne_nil _ _)
    (h15 : keys.length ≤ 15 := by decide) : PEa K X (.Dict keys values pos) (tDisp tps) (aDisp gp) :=
  ⟨pe_disp h.pp hall hl h0 h15, fun B ρ δ κ σ H R Q s g hh q => by
    intro p hp
    have hb := g.fresh hp
    have hr : p ∉ ρ := fun z => by
      obtain ⟨i, hi⟩ := List.mem_iff_getElem?.mp z
      exact g.nin hp hi rfl
    refine h.sd B ρ δ κ σ _ _ _ s (g.off hb hr) hh fun B1 ρ1 κ1 H1 as vs u1 g1 r1 h1 => ?_
    obtain ⟨kvs, rfl, h15, h1⟩ := h1
    obtain ⟨ws, rfl, rd⟩ := repP_kvs r1
    obtain ⟨eD, b1, n1⟩ := u1.f p (.dK []) upd_same hb hr
    refine ⟨eD, ws, rfl, by rw [← Paired.length rd]; exact h15, ?_⟩
    -- the dict becomes a cell
    have g2 : G K B1 (ρ1 ++ [p]) (κ1 ++ [.dK (mergeD [] kvs)]) (upd H1 p (.dK (mergeK [] ws))) := by
      have hc : CellOk K B1 ρ1 (upd H1 p (.dK (mergeK [] ws))) p (.dK (mergeD [] kvs)) := ⟨b1, _, dpks_merge rd .nil, upd_same⟩
      refine ⟨fun b u e => ?_, by rw [List.length_append, List.length_append, g1.len] <;> rfl, fun i j r h1 h2 => ?_, fun i r c h1 h2 => ?_⟩
      · rw [upd_ne (ne_of_none e b1)]; exact g1.ex b u e
      · rcases get_snoc h1 with ⟨l1, e1⟩ | ⟨l1, e1⟩
        · rcases get_snoc h2 with ⟨l2, e2⟩ | ⟨l2, e2⟩
          · exact g1.inj i j r e1 e2
          · subst e2; exact absurd (mem_of_get e1) n1
        · rcases get_snoc h2 with ⟨l2, e2⟩ | ⟨l2, e2⟩
          · subst e1; exact absurd (mem_of_get e2) n1
          · rw [l1, l2]
      · rcases get_snoc h1 with ⟨l1, e1⟩ | ⟨l1, e1⟩
        · rw [List.getElem?_append_left (g1.len ▸ l1)] at h2
          have hq : r ≠ p := fun z => n1 (z ▸ mem_of_get e1)
          exact (g1.at' i r c e1 h2).up up_snoc (fun z => z) fun o' e => by rw [upd_ne hq]; exact e
        · subst e1
          rcases get_snoc h2 with ⟨l2, e2⟩ | ⟨l2, e2⟩
          · rw [l1, g1.len] at l2; exact absurd l2 (Nat.lt_irrefl _)
          · subst e2; exact hc.up up_snoc (fun z => z) fun _ e => e
    refine q B1 (ρ1 ++ [p]) _ _ _ _ ⟨u1.s, fun i a h => get_app (u1.p i a h), fun r o h1 h2 h3 => ?_⟩ g2 (rep_new g1) h1
    have hq := ne_of_none h1 hp
    obtain ⟨y1, y2, y3⟩ := u1.f r o (by rw [upd_ne hq]; exact h1) h2 h3
    refine ⟨by rw [upd_ne hq]; exact y1, y2, fun z => ?_⟩
    rcases List.mem_append.mp z with z | z
    · exact y3 z
    · exact hq (by simpa using z)⟩
end Ab
set_option Elab.async false
set_option linter.all false
set_option maxRecDepth 100000
set_option maxHeartbeats 4000000
/-! Ab9: objects: attributes, methods, new ones; a try from whose body nothing is raised -/
namespace Ab
open PySem L2
variable {K : PySem.W.Frag} {B B' B2 H H' H2 : Hp} {ρ ρ' ρ2 : List Addr} {κ κ' : AK} {δ : AD} {σ : L2.St} {p : Addr} {k : Nat} {v x y z : V} {a b c : AV}
variable {X : Cx} {e e2 : Expr} {t u : TE} {f f2 : AE} {pos : Pos}
/-! ### attributes -/
def lookA (g : Str) : List (Str × AV) → Option AV
  | [] => none
  | (h, x) :: r => if h = g then some x else lookA g r
def putA (g : Str) (v : AV) : List (Str × AV) → List (Str × AV)
  | [] => [(g, v)]
  | (h, x) :: r => if h = g then (h, v) :: r else (h, x) :: putA g v r
theorem look_cons_eq {g : Str} {v : V} {r : List (Str × V)} : List.lookup g ((g, v) :: r) = some v := by simp
theorem look_cons_ne {g h : Str} {v : V} {r : List (Str × V)} (n : h ≠ g) : List.lookup g ((h, v) :: r) = List.lookup g r := by
  have : (g == h) = false := by simpa using fun e => n (Eq.symm e)
  simp [List.lookup, this]
theorem repKs_look {g : Str} : ∀ {fs : List (Str × AV)} {ws : List (Str × V)} {b : AV}, RepKs K B ρ fs ws → lookA g fs = some b → ∃ v, ws.lookup g = some v ∧ Rep K B ρ b v
  | _, _, _, .nil, e => by cases e
  | (h, x) :: r, (h', w) :: ws, b, .cons h1 h2, e => by
    obtain ⟨e1, r1⟩ := h1
    have e1 : h = h' := e1
    subst e1
    unfold lookA at e
    by_cases hg : h = g
    · rw [if_pos hg] at e; cases e
      subst hg
      exact ⟨w, look_cons_eq, r1⟩
    · rw [if_neg hg] at e
      obtain ⟨v, h3, h4⟩ := repKs_look h2 e
      exact ⟨v, by rw [look_cons_ne hg]; exact h3, h4⟩
theorem repKs_none {g : Str} : ∀ {fs : List (Str × AV)} {ws : List (Str × V)}, RepKs K B ρ fs ws → lookA g fs = none → ws.lookup g = none
  | _, _, .nil, _ => rfl
  | (h, x) :: r, (h', w) :: ws, .cons h1 h2, e => by
    obtain ⟨e1, r1⟩ := h1
    have e1 : h = h' := e1
    subst e1
    unfold lookA at e
    by_cases hg : h = g
    · rw [if_pos hg] at e; cases e
    · rw [if_neg hg] at e
      rw [look_cons_ne hg]
      exact repKs_none h2 e
theorem repKs_put {g : Str} {b : AV} {v : V} (rb : Rep K B ρ b v) : ∀ {fs : List (Str × AV)} {ws : List (Str × V)}, RepKs K B ρ fs ws → RepKs K B ρ (putA g b fs) (putF g v ws)
  | _, _, .nil => .cons ⟨rfl, rb⟩ .nil
  | (h, x) :: r, (h', w) :: ws, .cons h1 h2 => by
    obtain ⟨e1, r1⟩ := h1
    have e1 : h = h' := e1
    subst e1
    show RepKs K B ρ (if h = g then (h, b) :: r else (h, x) :: putA g b r) (if h = g then (h, v) :: ws else (h, w) :: putF g v ws)
    by_cases hg : h = g
    · rw [if_pos hg, if_pos hg]; exact .cons ⟨rfl, rb⟩ h2
    · rw [if_neg hg, if_neg hg]; exact .cons ⟨rfl, r1⟩ (repKs_put rb h2)
theorem repKs_len : ∀ {fs : List (Str × AV)} {ws : List (Str × V)}, RepKs K B ρ fs ws → ws.length = fs.length
  | _, _, .nil => rfl
  | _ :: _, _ :: _, .cons _ h2 => congrArg (· + 1) (repKs_len h2)
theorem G.insAt (g : G K B ρ κ H) {C : Addr} {fs : List (Str × AV)} (hp : ρ[k]? = some p) (ek : κ[k]? = some (.ins C fs)) : ∃ dx ws, RepKs K B ρ fs ws ∧ H p = some (.ins C dx ws) ∧
    ∀ fs' ws', RepKs K B ρ fs' ws' → Up B ρ H B ρ (upd H p (.ins C dx ws')) ∧ G K B ρ (κ.set k (.ins C fs')) (upd H p (.ins C dx ws')) := by
  obtain ⟨p', hp', hb, dx, ws, r, eH⟩ := g.cell ek
  rw [hp] at hp'; cases hp'
  refine ⟨dx, ws, r, eH, fun fs' ws' r' => ⟨G.writeUp hp, ?_⟩⟩
  have hc : CellOk K B ρ (upd H p (.ins C dx ws')) p (.ins C fs') := ⟨hb, dx, ws', r', upd_same⟩
  exact g.write hp hb hc
/-- o.g -/
def aFld (C : Addr) (g : Str) (fo : AE) : AE := fun δ κ R => fo δ κ fun a κ1 => match a with
  | .c k => ∃ fs b, κ1[k]? = some (.ins C fs) ∧ lookA g fs = some b ∧ R b κ1
  | _ => False
theorem ea_fld {C : Addr} {g : Str} (hc : Cls K C) (hn : NoAttr K C g) (h : PEa K X e t f) (hb : attributeBase e g X.env (eval e X.env) = eval e X.env := by rfl) (hK : X.K = K := by rfl) : PEa K X (.Attribute e g pos) (tFld K t g) (aFld C g f) := by
  subst hK
  exact ⟨pe_fld h.pe hb, fun B ρ δ κ σ H R Q s gg hh q => h.sd B ρ δ κ σ H _ _ s gg hh fun B1 ρ1 κ1 H1 a x u1 g1 r1 h1 => by
    split at h1
    · obtain ⟨fs, b, ek, lb, h1⟩ := h1
      obtain ⟨p, hp, rfl⟩ := r1
      obtain ⟨dx, ws, r, eH, _⟩ := g1.insAt hp ek
      obtain ⟨v, lv, rv⟩ := repKs_look r lb
      exact ⟨p, C, dx, ws, v, rfl, eH, hc, hn, lv, q _ _ _ _ _ _ u1 g1 rv h1⟩
    · exact h1.elim⟩
/-- o.g = v -/
def aFldSet (C : Addr) (g : Str) (fo fv : AE) : AS := fun A δ κ => fv δ κ fun v κ1 => fo δ κ1 fun a κ2 => match a with
  | .c k => ∃ fs, κ2[k]? = some (.ins C fs) ∧ fs.length < 1000 ∧ A.nx δ (κ2.set k (.ins C (putA g v fs)))
  | _ => False
variable {o val : Expr} {to' tv : TE} {fo fv : AE} {pos' : Pos}
theorem sa_fld {C : Addr} {g : Str} (hc : Cls K C) (hn : NoAttr K C g) (ho : PEa K X o to' fo) (hv : PEa K X val tv fv) (hs : swapsWith val (some (.Attribute o g pos')) pos.line X.env = pure false := by rfl) (hK : X.K = K := by rfl) :
    PSa K X (.Assign [.Attribute o g pos'] val pos) (sFld K to' tv g) (aFldSet C g fo fv) := by
  subst hK
  exact ⟨ps_fld ho.pe hv.pe hs, fun B ρ δ κ σ H A D s gg l hh im => hv.sd B ρ δ κ σ H _ _ s gg hh fun B1 ρ1 κ1 H1 vv xv u1 g1 r1 k1 => ho.sd _ _ _ _ _ _ _ _ (s.up u1.g) g1 k1 fun B2 ρ2 κ2 H2 a xo u2 g2 r2 k2 => by
    split at k2
    · obtain ⟨fs, ek, hl, k2⟩ := k2
      obtain ⟨p, hp, rfl⟩ := r2
      obtain ⟨dx, ws, r, eH, wr⟩ := g2.insAt hp ek
      obtain ⟨u3, g3⟩ := wr _ _ (repKs_put (g := g) (r1.up u2.g) r)
      have w := (u1.trans u2).trans u3
      exact ⟨p, C, dx, ws, rfl, eH, hc, hn, by rw [repKs_len r]; exact hl, im.nx _ _ _ _ _ _ w.n g3 (s.up w.g) (Nat.le_trans l (w.len gg g3)) k2⟩
    · exact k2.elim⟩
/-- o.g op= v, numbers -/
def aFldAug (C : Addr) (g : Str) (h : Int → Int → Int) (fo fv : AE) : AS := fun A δ κ => fo δ κ fun a κ1 => match a with
  | .c k => ∃ fs i, κ1[k]? = some (.ins C fs) ∧ lookA g fs = some (.d (.int i)) ∧ fv δ κ1 fun b κ2 => match b with
    | .d (.int j) => ∃ fs', κ2[k]? = some (.ins C fs') ∧ fs'.length < 1000 ∧ A.nx δ (κ2.set k (.ins C (putA g (.d (.int (h i j))) fs')))
    | _ => False
  | _ => False
theorem sa_fldaug {C : Addr} {g : Str} {op : Operator} {h : Int → Int → Int} (hc : Cls K C) (hn : NoAttr K C g) (hop : InOp X op (fun x y H Q => ∃ i j, x = .int i ∧ y = .int j ∧ Q (.int (h i j)) H)) (ho : PEa K X o to' fo) (hv : PEa K X val tv fv) (hK : X.K = K := by rfl) :
    PSa K X (.AugAssign (.Attribute o g pos') op val pos) (sFldAug K to' tv (fun x y H Q => ∃ i j, x = .int i ∧ y = .int j ∧ Q (.int (h i j)) H) g) (aFldAug C g h fo fv) := by
  subst hK
  exact ⟨ps_fldaug ho.pe hv.pe hop, fun B ρ δ κ σ H A D s gg l hh im => ho.sd _ _ _ _ _ _ _ _ s gg hh fun B1 ρ1 κ1 H1 a xo u1 g1 r1 k1 => by
    split at k1
    · obtain ⟨fs, i, ek, lb, k1⟩ := k1
      obtain ⟨p, hp, rfl⟩ := r1
      obtain ⟨dx, ws, r, eH, wr⟩ := g1.insAt hp ek
      obtain ⟨v, lv, rv⟩ := repKs_look r lb
      refine ⟨p, C, dx, ws, v, rfl, eH, hc, hn, lv, hv.sd _ _ _ _ _ _ _ _ (s.up u1.g) g1 k1 fun B2 ρ2 κ2 H2 b xv u2 g2 r2 k2 => ?_⟩
      split at k2
      · rename_i j
        obtain ⟨fs', ek', hl, k2⟩ := k2
        have hp2 := u2.p _ _ hp
        obtain ⟨dx', ws', r', eH', wr'⟩ := g2.insAt hp2 ek'
        obtain ⟨u3, g3⟩ := wr' _ _ (repKs_put (g := g) (rp_int (h i j)) r')
        have w := (u1.trans u2).trans u3
        exact ⟨i, j, rv.int, r2.int, dx', ws', eH', by rw [repKs_len r']; exact hl, im.nx _ _ _ _ _ _ w.n g3 (s.up w.g) (Nat.le_trans l (w.len gg g3)) k2⟩
      · exact k2.elim
    · exact k1.elim⟩
/-! ### methods -/
def aMeth (C : Addr) (m : Str) (F : FSp) (fo : AE) (fa : AA) : AE := fun δ κ R => fo δ κ fun a κ1 => match a with
  | .c k => ∃ fs, κ1[k]? = some (.ins C fs) ∧ lookA m fs = none ∧ fa δ κ1 fun as κ2 => callW F (fun _ _ => False) (.c k :: as) κ2 R
  | _ => False
variable {ta : TA} {fa : AA} {es : List Expr}
theorem callW_sd {F : FSp} {E : XK} {as : List AV} {vs : List V} {R : AR} {Q : VK} (g : G K B ρ κ H) (r : Reps K B ρ as vs) (h : callW F (fun _ _ => False) as κ R) (q : Nx K B ρ H R Q) : spA K F vs H Q E := by
  obtain ⟨js, asl, κl, nd, e1, e2, hF⟩ := callW_e h
  refine ⟨B, selR js ρ, κl, asl, _, _, sel_ok g nd e2, selAs_ok (fun i j p h1 h2 => selR_get h1 h2) e1 r, hF, ?_, ?_⟩
  · rintro B' ρ' κ' H' a v w2 g2 r2 ⟨l, cl, lv, hR⟩
    obtain ⟨w3, g3, r3⟩ := back_ok g nd e2 w2 g2 l cl lv
    exact q _ _ _ _ _ _ w3 g3 (r3 r2) hR
  · rintro B' ρ' κ' H' x cls d w2 g2 r2 ⟨l, cl, lv, hR⟩
    exact hR.elim
theorem se_meth {C : Addr} {m : Str} {F : FSp} {E : XK} (ho : SE K t f) (ha : SA K ta fa) : SE K (tMeth C m (spA K F) [] E t ta) (aMeth C m F f fa) := fun B ρ δ κ σ H R Q s g hh q =>
  ho B ρ δ κ σ H _ _ s g hh fun B1 ρ1 κ1 H1 a x u1 g1 r1 h1 => by
    split at h1
    · rename_i j
      obtain ⟨fs, ek, ln, h1⟩ := h1
      obtain ⟨p, hp, rfl⟩ := id r1
      obtain ⟨dx, ws, r, eH, _⟩ := g1.insAt hp ek
      refine ⟨p, dx, ws, rfl, eH, repKs_none r ln, ha _ _ _ _ _ _ _ _ (s.up u1.g) g1 h1 fun B2 ρ2 κ2 H2 as vs u2 g2 r2 h2 => ?_⟩
      show spA K F (.ref p :: (vs ++ [])) H2 Q E
      rw [List.append_nil]
      exact callW_sd g2 (.cons (r1.up u2.g) r2) h2 (q.later (u1.trans u2))
    · exact h1.elim
section
variable {l : Nat} {fm C : Addr} {fd : FuncData} {ps : List Str} {F : FSp} {m : Str} {apos : Pos} {pl : Sem Bool}
theorem ea_meth (Fo : FnOk X.prog X.w X.K X.mg X.base CX0 l fm fd ps (spA K F)) (hr : Room l X.A) (hc : Cls K C) (hm : Meth K C m fm) (hb : Binds K fd ps []) (ho : PEa K X o t f) (ha : PAa K X (e :: es) ta fa)
    (hst : starEach (e :: es) X.env = (false, eval e X.env) :: starEach es X.env := by rfl) (hpl : (backTo pos (starEach es X.env)).any (·.1) = false := by rfl)
    (ht : eval (.Call (.Attribute o m apos) (e :: es) [] pos) X.env = (do
      let ov ← eval o X.env
      standAt apos.atName
      let (f, first) ← holding [ov] (getMethod ov m pl)
      callWith pos f first (backTo pos (starEach (e :: es) X.env)) (backToKw pos (keywordEach [] X.env))) := by rfl) (hK : X.K = K := by rfl) :
    PEa K X (.Call (.Attribute o m apos) (e :: es) [] pos) (tMeth C m (spA K F) [] E0 t ta) (aMeth C m F f fa) := by
  subst hK
  exact ⟨pe_meth (pl := pl) ho.pe hc hm Fo hr hb .nil pass0 ha.pa hst hpl ht, se_meth ho.sd ha.sd⟩
theorem ea_meth0 (Fo : FnOk X.prog X.w X.K X.mg X.base CX0 l fm fd ps (spA K F)) (hr : Room l X.A) (hc : Cls K C) (hm : Meth K C m fm) (hb : Binds K fd ps []) (ho : PEa K X o t f)
    (ht : eval (.Call (.Attribute o m apos) [] [] pos) X.env = (do
      let ov ← eval o X.env
      standAt apos.atName
      let (f, first) ← holding [ov] (getMethod ov m pl)
      callWith pos f first (backTo pos (starEach [] X.env)) (backToKw pos (keywordEach [] X.env))) := by rfl) (hK : X.K = K := by rfl) :
    PEa K X (.Call (.Attribute o m apos) [] [] pos) (tMeth C m (spA K F) [] E0 t tNil) (aMeth C m F f aNil) := by
  subst hK
  exact ⟨pe_meth0 (pl := pl) ho.pe hc hm Fo hr hb .nil pass0 ht, se_meth ho.sd fun B ρ δ κ σ H R Q s g h q => q _ _ _ _ _ _ Up.refl g .nil h⟩
end
/-! ### a new object -/
def aMake (C : Addr) (F : FSp) (fa : AA) : AE := fun δ κ R => fa δ κ fun as κ1 => callW F (fun _ _ => False) (.c κ1.length :: as) (κ1 ++ [.ins C []]) fun a κ2 => a = .d .none ∧ R (.c κ1.length) κ2
theorem se_make {C : Addr} {F : FSp} {E : XK} (ha : SA K ta fa) : SE K (tMake C (spA K F) [] E ta) (aMake C F fa) := fun B ρ δ κ σ H R Q s g hh q =>
  ha B ρ δ κ σ H _ _ s g hh fun B1 ρ1 κ1 H1 as vs u1 g1 r1 h1 => by
    intro x dx hx hdx hne
    show spA K F (.ref x :: (vs ++ [])) _ _ E
    rw [List.append_nil]
    have nin : ∀ {q : Addr}, H1 q = none → q ∉ ρ1 := fun {q} hq z => by
      obtain ⟨i, hi⟩ := List.mem_iff_getElem?.mp z
      exact g1.nin hq hi rfl
    have g2 : G K B1 ρ1 κ1 (upd H1 dx (.own x)) := g1.off (g1.fresh hdx) (nin hdx)
    have hx2 : (upd H1 dx (.own x)) x = none := by rw [upd_ne (Ne.symm hne)]; exact hx
    have g3 : G K B1 (ρ1 ++ [x]) (κ1 ++ [.ins C []]) (upd (upd H1 dx (.own x)) x (.ins C dx [])) := g2.alloc hx2 (show CellOk K B1 ρ1 _ x (.ins C []) from ⟨g1.fresh hx, dx, [], .nil, upd_same⟩)
    have up3 : Up B1 ρ1 H1 B1 (ρ1 ++ [x]) (upd (upd H1 dx (.own x)) x (.ins C dx [])) := ⟨Same.refl B1, fun _ _ h => get_app h, fun q o' h1 h2 h3 => by
      have n1 := ne_of_none h1 hx
      have n2 := ne_of_none h1 hdx
      rw [upd_ne n1, upd_ne n2]
      refine ⟨h1, h2, fun z => ?_⟩
      rcases List.mem_append.mp z with z | z
      · exact h3 z
      · exact n1 (by simpa using z)⟩
    have rx : Rep K B1 (ρ1 ++ [x]) (.c κ1.length) (.ref x) := rep_new g1
    refine callW_sd g3 (.cons rx (Reps.up up3.g r1)) h1 ?_
    rintro B4 ρ4 κ4 H4 a v w4 g4 r4 ⟨rfl, hR⟩
    exact ⟨r4.non, q _ _ _ _ _ _ ((u1.trans up3).trans w4) g4 (rx.up w4.g) hR⟩
section
variable {l : Nat} {fI C : Addr} {fd : FuncData} {ps : List Str} {F : FSp} {x : Str} {q : Pos}
theorem ea_make (M : Mk K C fI) (Fo : FnOk X.prog X.w X.K X.mg X.base CX0 l fI fd ps (spA K F)) (hr : Room (l + 1) X.A) (hg : Gl X x) (hm : X.mg x = some (.ref C)) (hb : Binds K fd ps []) (ha : PAa K X (e :: es) ta fa)
    (hdb : (x == ("__debug__" : Str)) = false := by decide) (he : starEach (e :: es) X.env = (false, eval e X.env) :: starEach es X.env := by rfl) (hpl : (backTo pos (starEach es X.env)).any (·.1) = false := by rfl) (hK : X.K = K := by rfl) :
    PEa K X (.Call (.Name x q) (e :: es) [] pos) (tMake C (spA K F) [] E0 ta) (aMake C F fa) := by
  subst hK
  exact ⟨pe_make M Fo hr hg hm hb .nil pass0 ha.pa hdb he hpl, se_make ha.sd⟩
end
/-! ### a try from whose body nothing is raised -/
variable {t1 : TS} {f1 : AS}
theorem sa_try0 {x n : Str} {c : Value} {i : Nat} {body suite : List Stmt} {b₀ : Stmt} {np : Pos} (hs : X.stack = X.env :: X.outer) (hf : X.env.frame = some X.env.locals) (hN : X.N.Nodup) (hi : X.N[i]? = some n) (hln : X.env.kindOf n = some .local) (hc : Names X x c)
    (hb : ∀ (pn : List (Addr × Obj)) (xe : Value → Shared → Prop), PSsa K (X.tr pn xe) body t1 f1) : PSa K X (.Try body [.ExceptHandler (some (.Name x np)) (some n) (b₀ :: suite) pos'] [] [] pos) t1 f1 :=
  ⟨ps_try_as (tb := fun _ => t1) (ts := fun _ _ _ => tNever) (Wout := fun _ _ _ _ => False) hs hf hN hi hln hc (fun u s' h => by obtain ⟨a, B, sI, pins, σ, H, cls, d, e, I, nb, up, sky, na, os, ag, w⟩ := h; exact w.elim)
    (fun W pn xe tk hp => (hb pn xe).ps) (fun a oe cls d pn _ _ => pss_never), (hb [] (fun _ _ => True)).sd⟩
end Ab
set_option Elab.async false
set_option linter.all false
set_option maxRecDepth 100000
set_option maxHeartbeats 4000000
/-! Ab10: list * n, slices of tuples, in of a dict, enumerate of a list -/
namespace Ab
open PySem L2
variable {K : PySem.W.Frag} {B B' B2 H H' H2 : Hp} {ρ ρ' ρ2 : List Addr} {κ κ' : AK} {δ : AD} {σ : L2.St} {p : Addr} {k : Nat} {v x y z : V} {a b c : AV}
variable {X : Cx} {e e2 : Expr} {t u : TE} {f f2 : AE} {pos : Pos}
/-! ### list * n -/
theorem q_mul_int (l : Addr) (items : Array Value) (n : Nat) (d : Option Addr) (sl : Array (Option Value)) (x : Int) (u : Tok) (hc0 : ¬(!Builtin.List.listFitsIndex x) = true) (hc1 : ¬items.size * x.toNat > (2 ^ 63 - 1) / 8) (hc2 : ¬Builtin.List.listTooLong (items.size * x.toNat) = true) :
    Meets (Builtin.«list.__mul__» ⟨[.ref l, .int x u], []⟩) (fun _ R s => s.heap.get? l = some { cls := .type "list", dict := d, data := .seq items n, slots := sl } ∧ R (.ok (.ret (Value.ref s.heap.objs.size))) { s with heap := s.heap.push { cls := Value.type "list", data := Data.seq (List.foldl (fun x1 x2 => x1 ++ x2) #[] (List.replicate (if items.isEmpty = true then 0 else x.toNat) items)) }, toks := s.toks }) :=
  .of_wp fun prog w A R s h => by
    obtain ⟨hp, g, d, tk, os⟩ := s; obtain ⟨hl, h⟩ := h
    have hsz := AutoListH.joined_fits hc2
    wp_walk; refine wpAny_ite_false (decide_eq_false (Nat.not_lt.mpr hsz)) ?_; wp_walk; exact ⟨_, rfl, h⟩
theorem q_rmul_int (a : Int) (t : Tok) (l : Addr) (items : Array Value) (n : Nat) (d : Option Addr) (sl : Array (Option Value)) :
    Meets (Builtin.«int.__rmul__» ⟨[.int a t, .ref l], []⟩) (fun _ R s => s.heap.get? l = some { cls := .type "list", dict := d, data := .seq items n, slots := sl } ∧ R (.ok (.ret Value.notImplemented)) s) :=
  .of_wp fun prog w A R s h => by obtain ⟨hp, g, d, tk, os⟩ := s; obtain ⟨hl, h⟩ := h; wp_walk; exact ⟨_, rfl, h⟩
def rMulL (K : PySem.W.Frag) : R2 := fun x y H Q => ∃ a xs n, x = V.ref a ∧ y = V.int n ∧ SqL K H a xs ∧ (n = 0 ∨ n = 1) ∧ ∀ p, H p = none → Q (.ref p) (upd H p (.lst (List.replicate n.toNat xs).flatten))
theorem op_mulL : OpR X (binaryOp .Mult) (rMulL X.K) := by
  intro pins s σ H x y v u Q I rx ry h
  obtain ⟨a, xs, n, rfl, rfl, hs, hn, q⟩ := h
  obtain rfl : v = Value.ref a := rx
  obtain ⟨tk, rfl⟩ := ry
  obtain ⟨its, rv, ⟨⟨cls, dd, data, sl⟩, m, ho, hc, hdn, hd⟩, hlen⟩ := I.list hs
  have hc1 : cls = Value.type "list" := hc
  have hd1 : data = Data.seq its.toArray m := hd
  subst hc1 hd1
  have hz : its.length ≤ sizeLine := by rw [← rv.length]; exact hlen
  have hsl := sizeLine_eq
  have hk : n.toNat ≤ 1 := by rcases hn with rfl | rfl <;> decide
  have hm : its.toArray.size * n.toNat ≤ its.length := by
    rw [List.size_toArray]
    exact Nat.le_trans (Nat.mul_le_mul_left _ hk) (Nat.le_of_eq (Nat.mul_one _))
  refine wpAny_binaryOp_repeat_ref (T := "list") (U := "int") (by decide) ⟨_, ho, rfl⟩ (fun s' => typeIs_int s' n tk) noFill_list_mul PySem.F.fills_int_mul PySem.F.slot_int_rmul repeat_list PySem.F.slot_int_index.lookup
    (call_meets PySem.F.slot_int_rmul (typeIs_int s n tk) PySem.F.entry_int_rmul (PySem.F.args_int_rmul_2 _ _) (q_rmul_int n tk a its.toArray m dd sl)
      ⟨ho, rfl, ⟨_, ho, rfl⟩, call_meets PySem.F.slot_list_mul ⟨_, ho, rfl⟩ PySem.F.entry_list_mul (PySem.F.args_list_mul_2 _ _)
        (q_mul_int a its.toArray m dd sl n tk (by rcases hn with rfl | rfl <;> decide) (by omega) (by simp only [Builtin.List.listTooLong, decide_eq_true_eq]; omega))
        ⟨ho, ?_⟩⟩)
  have e : List.foldl (fun x1 x2 => x1 ++ x2) #[] (List.replicate (if its.toArray.isEmpty = true then 0 else n.toNat) its.toArray) = (List.replicate n.toNat its).flatten.toArray := by
    rw [PyProof.Rows.listMul_foldl_if]
  rw [e]
  refine ⟨.ref _, _, I.lnew (t' := s.toks) (rv.rep n.toNat) ?_, rfl, q _ I.fresh⟩
  rw [PyProof.Rows.lm_len_rep_flat]
  have : n.toNat * xs.length ≤ 1 * xs.length := Nat.mul_le_mul_right _ hk
  omega
theorem dpa_rep {ds : List PyData} {vs : List V} (h : DpAll K B vs ds) : ∀ n : Nat, DpAll K B (List.replicate n vs).flatten (List.replicate n ds).flatten
  | 0 => .nil
  | n + 1 => by
    rw [List.replicate_succ, List.replicate_succ, List.flatten_cons, List.flatten_cons]
    exact dpa_app h (dpa_rep h n)
/-- a list of data none or one times -/
def aMulL : AO := fun a b κ R => match a, b with
  | .d (.list xs), .d (.int n) => (n = 0 ∧ R (.d (.list [])) κ) ∨ (n = 1 ∧ R (.d (.list xs)) κ)
  | _, _ => False
theorem oa_mulL (hK : X.K = K := by rfl) : OpA K X (binaryOp .Mult) (rMulL K) aMulL := by
  subst hK
  refine ⟨op_mulL, ?_⟩
  intro B ρ κ H x y a b R Q g rx ry h q
  unfold aMulL at h
  split at h
  · rename_i xs n
    obtain ⟨p, vs, rfl, s1, d1⟩ := of_listG g rx
    refine ⟨p, vs, n, rfl, ry.int, s1, ?_, fun l hl => ?_⟩
    · rcases h with ⟨e, _⟩ | ⟨e, _⟩
      · exact .inl e
      · exact .inr e
    · obtain ⟨u4, g4, r4⟩ := new_lst g hl (dpa_rep d1 n.toNat)
      rcases h with ⟨rfl, h⟩ | ⟨rfl, h⟩
      · exact q _ _ _ _ _ _ u4 g4 r4 h
      · have e : (List.replicate (1 : Int).toNat xs).flatten = xs := by simp
        rw [e] at r4
        exact q _ _ _ _ _ _ u4 g4 r4 h
  · exact h.elim
/-! ### slices of tuples -/
theorem cut_all {α : Type} (xs : List α) (lo hi : Option Int) (h : HT.sIx xs.length 0 lo = 0 ∧ HT.sIx xs.length xs.length hi = xs.length) : cutD xs lo hi = xs := by
  unfold cutD
  rw [h.1, h.2, List.drop_zero, Nat.sub_zero, List.take_length]
def aSlT (f : AE) (l h : AOp) : AE := fun δ κ R => f δ κ fun a κ1 => l δ κ1 fun lo κ2 => h δ κ2 fun hi κ3 => match a with
  | .d (.tuple xs) => R (.d (.tuple (cutD xs lo hi))) κ3
  | _ => False
theorem ea_sliceT {lo hi : Option Expr} {p2 : Pos} {tl th : TO} {fl fh : AOp} (h1 : PEa K X e t f) (hl : POa K X lo tl fl) (hh : POa K X hi th fh) (hK : X.K = K := by rfl) :
    PEa K X (.Subscript e (.Slice lo hi none p2) pos) (tSl (rSlA K) t tl th) (aSlT f fl fh) := by
  subst hK
  refine ⟨pe_slice sl_tupA h1.pe hl.po hh.po, fun B ρ δ κ σ H R Q s g h q => ?_⟩
  refine h1.sd B ρ δ κ σ H _ _ s g h fun B1 ρ1 κ1 H1 a x u1 g1 r1 h1 => ?_
  refine hl.sd B1 ρ1 δ κ1 σ H1 _ _ (s.up u1.g) g1 h1 fun B2 ρ2 κ2 H2 lo u2 g2 h2 => ?_
  refine hh.sd B2 ρ2 δ κ2 σ H2 _ _ (s.up (u1.trans u2).g) g2 h2 fun B3 ρ3 κ3 H3 hi u3 g3 h3 => ?_
  have r3 := r1.up (u2.trans u3).g
  have q3 := q.later ((u1.trans u2).trans u3)
  split at h3
  · rename_i xs
    have r3' := r3
    obtain ⟨p, vs, rfl, s1, d1⟩ := of_tupG g3 r3
    have hlen := dpa_len d1
    refine ⟨p, vs, rfl, s1, fun hw => ?_, fun _ l hl => ?_⟩
    · rw [hlen] at hw
      rw [cut_all xs lo hi hw] at h3
      exact q3.at0 g3 r3' h3
    · obtain ⟨u4, g4, r4⟩ := new_tup g3 hl (dpa_cut d1 lo hi)
      exact q3 _ _ _ _ _ _ u4 g4 r4 h3
  · exact h3.elim
/-! ### y in d -/
theorem dpks_isSome {kvs : List (L2.Key × PyData)} {ws : List (L2.Key × V)} {k : L2.Key} (h : DpKs K B kvs ws) : (valV ws k).isSome = (valD kvs k).isSome := by
  have h1 := dpks_any (k := k) h
  rw [valV_any] at h1
  rw [← h1]
  unfold valD
  rw [Option.isSome_map, Bool.eq_iff_iff, List.any_eq_true, List.find?_isSome]
/-- y in d, y not in d -/
def aDIn (n : Bool → Bool) (fi fo : AE) : AE := fun δ κ R => fi δ κ fun b κ1 => fo δ κ1 fun a κ2 => match a with
  | .c k => ∃ kvs key, κ2[k]? = some (.dK kvs) ∧ b = .d (keyD key) ∧ R (.d (.bool (n (valD kvs key).isSome))) κ2
  | _ => False
variable {o i : Expr} {to' ti : TE} {fo fi : AE}
theorem se_din {n : Bool → Bool} (hi : SE K ti fi) (ho : SE K to' fo) : SE K (fun σ H Q => ti σ H fun y H1 => to' σ H1 fun x H2 => ∃ a o, x = .ref a ∧ DGet H2 a y o ∧ Q (.bl (n o.isSome)) H2) (aDIn n fi fo) := fun B ρ δ κ σ H R Q s g hh q =>
  hi _ _ _ _ _ _ _ _ s g hh fun B1 ρ1 κ1 H1 b y u1 g1 r1 h1 => ho _ _ _ _ _ _ _ _ (s.up u1.g) g1 h1 fun B2 ρ2 κ2 H2 a x u2 g2 r2 h2 => by
    split at h2
    · obtain ⟨kvs, key, ek, rfl, h2⟩ := h2
      obtain ⟨p, hp, rfl⟩ := r2
      obtain ⟨vs, r, eH, _⟩ := g2.dkAt hp ek
      have := rep_key (r1.up u2.g)
      subst this
      refine ⟨p, valV vs key, rfl, DGet.k eH, ?_⟩
      rw [dpks_isSome r]
      exact q _ _ _ _ _ _ (u1.trans u2) g2 (rp_bl _) h2
    · exact h2.elim
theorem ea_din {l : Nat} (hr : Room l X.A) (hi : PEa K X i ti fi) (ho : PEa K X o to' fo) (hm : behindInMarks .In o = false := by first | exact nomark _ | rfl) : PEa K X (.Compare i [.In] [o] pos) (tDIn ti to') (aDIn id fi fo) := ⟨pe_cmp (pc_din (Nat.lt_of_le_of_lt (by omega) hr.units) hi.pe ho.pe) hm, se_din (n := id) hi.sd ho.sd⟩
theorem ea_dnotin {l : Nat} (hr : Room l X.A) (hi : PEa K X i ti fi) (ho : PEa K X o to' fo) (hm : behindInMarks .NotIn o = false := by first | exact nomark _ | rfl) : PEa K X (.Compare i [.NotIn] [o] pos) (tDNotIn ti to') (aDIn not fi fo) := ⟨pe_cmp (pc_dnotin (Nat.lt_of_le_of_lt (by omega) hr.units) hi.pe ho.pe) hm, se_din (n := not) hi.sd ho.sd⟩
theorem ta_din {l : Nat} (hr : Room l X.A) (hi : PEa K X i ti fi) (ho : PEa K X o to' fo) (hm : behindInMarks .In o = false := by first | exact nomark _ | rfl) : PTa K X (.Compare i [.In] [o] pos) (tTest (tDIn ti to')) (aB (aDIn id fi fo)) := ⟨pt_cmp (pc_din (Nat.lt_of_le_of_lt (by omega) hr.units) hi.pe ho.pe) hm, st_B (se_din (n := id) hi.sd ho.sd)⟩
theorem ta_dnotin {l : Nat} (hr : Room l X.A) (hi : PEa K X i ti fi) (ho : PEa K X o to' fo) (hm : behindInMarks .NotIn o = false := by first | exact nomark _ | rfl) : PTa K X (.Compare i [.NotIn] [o] pos) (tTest (tDNotIn ti to')) (aB (aDIn not fi fo)) := ⟨pt_cmp (pc_dnotin (Nat.lt_of_le_of_lt (by omega) hr.units) hi.pe ho.pe) hm, st_B (se_din (n := not) hi.sd ho.sd)⟩
/-- {} -/
def aDNew : AE := fun _ κ R => R (.c κ.length) (κ ++ [.dK []])
theorem ea_dnew : PEa K X (.Dict [] [] pos) tDNewK aDNew := ⟨pe_dnewK, fun B ρ δ κ σ H R Q s g h q => by
  intro p hp
  refine q _ _ _ _ _ _ (g.allocUp hp) (g.alloc hp (show CellOk K B ρ _ p (.dK []) from ⟨g.fresh hp, [], .nil, upd_same⟩)) (rep_new g) h⟩
/-! ### enumerate of a list of data -/
/-- known items, with their places -/
def itE (xs : List PyData) : AIt := ⟨fun i _ => i < xs.length, fun i _ a => ∃ x, xs[i]? = some x ∧ a = .d (.tuple [.int (i : Nat), x]), fun i _ => xs.length ≤ i⟩
theorem ri_enum {xs : List PyData} {p : Addr} {vs : List V} (hs : SqL K B p vs) (d : DpAll K B vs xs) : RI K B ρ H (Ite K p) (itE xs) := by
  intro B2 ρ2 κ2 H2 w2 g2 i
  have hs2 : SqL K H2 p vs := g2.ex.seq (w2.s.seq hs)
  have hl := dpa_len d
  refine ⟨fun h => ⟨vs, hs2, by rw [hl]; exact h⟩, fun h => ?_⟩
  obtain ⟨w, hw, r⟩ := dpa_get d (getLt h)
  refine ⟨⟨vs, w, hs2, hw⟩, fun x H3 hy => ?_⟩
  obtain ⟨T, x0, rfl, hT, rfl, f⟩ := hy
  have e := (f vs hs2).symm.trans hw
  cases e
  obtain ⟨u4, g4, r4⟩ := new_tup g2 hT (ds := [.int (i : Nat), xs[i]'h]) (.cons (.int _) (.cons (dp_up w2.s _ _ r) .nil))
  exact ⟨_, _, u4, g4, r4, _, getLt h, rfl⟩
def aEnum (fa : AA) : AI := fun δ κ R => fa δ κ fun as κ1 => match as with
  | [.d (.list xs)] => R (itE xs) κ1
  | _ => False
variable {ta : TA} {fa : AA}
theorem ia_enum {a : Expr} {elts : List Expr} {kk : Nat} {tpos q pos : Pos} (hg : Gl X "enumerate") (hm : X.mg "enumerate" = none) (ha : PAa K X [a] ta fa) (hs : starEach [a] X.env = [(false, eval a X.env)] := by rfl) (hK : X.K = K := by rfl) :
    PIa K X (.Tuple elts kk tpos) (.Call (.Name "enumerate" q) [a] [] pos) (iEnum K ta) (aEnum fa) := by
  subst hK
  exact ⟨pi_enum hg hm ha.pa hs, fun B ρ δ κ σ H R Q s g hh q => ha.sd _ _ _ _ _ _ _ _ s g hh fun B1 ρ1 κ1 H1 as vs w1 g1 r1 h1 => by
    split at h1
    · obtain ⟨x, rfl, r⟩ := reps1 r1
      obtain ⟨p, vs, rfl, s1, d1⟩ := r.list
      exact ⟨p, vs, rfl, g1.ex.seq s1, q _ _ _ _ _ _ w1 g1 (ri_enum s1 d1) h1⟩
    · exact h1.elim⟩
end Ab
set_option Elab.async false
set_option linter.all false
set_option maxRecDepth 100000
set_option maxHeartbeats 4000000
/-! Ab11: enumerate of a tuple -/
namespace Ab
open PySem L2 PySem.Spec PyProof.Rows
theorem meets_enumerate_newT (l : Addr) (items : Array Value) (n : Nat) (dct : Option Addr) (sl : Array (Option Value)) :
    Meets (Builtin.«enumerate.__new__» ⟨[.type "enumerate", .ref l], []⟩) (fun _ R s => s.heap.get? l = some { cls := .type "tuple", dict := dct, data := .seq items n, slots := sl } ∧
      R (.ok (.ret (.ref (s.heap.push { cls := .type "tuple_iterator", data := .fields #[.ref l, .int 0 0] }).objs.size)))
        { s with heap := (s.heap.push { cls := .type "tuple_iterator", data := .fields #[.ref l, .int 0 0] }).push { cls := .type "enumerate", data := .fields #[.none, .bool false, .ref s.heap.objs.size, rawInt 0, .none, .none] } }) :=
  .of_wp fun prog w A R s h => by
    obtain ⟨hp, g, d, tk, os⟩ := s; obtain ⟨hl, h⟩ := h
    have hsub := sub_enumerate
    have hL : Heap.IsTuple (Shared.heap ⟨hp, g, d, tk, os⟩) l items := ⟨_, hl, rfl, n, rfl⟩
    wp_walk using wpAny_loadPart' hl
    refine wpAny_stack_any fun st => wpAny_pure ?_
    split
    · rename_i c _ _ _ _ _
      cases (c == Value.type "enumerate")
      · wp_walk using wpAny_loadPart' hl, wpAny_pyIter_tuple hL
        exact ⟨_, rfl, h⟩
      · wp_walk using wpAny_loadPart' hl, wpAny_pyIter_tuple hL
        exact ⟨_, rfl, h⟩
    · wp_walk using wpAny_loadPart' hl, wpAny_pyIter_tuple hL
      exact ⟨_, rfl, h⟩
section
variable {prog : Program} {w : World} {A : Around} {E : Value → Shared → Prop} {s : Shared}
theorem call_enumerate_tuple {l : Addr} {items : Array Value} {Q : Value → Shared → Prop} (hL : s.heap.IsTuple l items)
    (h : ∀ h', IsEnum h' (s.heap.objs.size + 1) s.heap.objs.size 0 .none → h'.IsTupleIter s.heap.objs.size l 0 → h'.objs.size = s.heap.objs.size + 2 →
      (∀ b o, s.heap.get? b = some o → h'.get? b = some o) → Q (.ref (s.heap.objs.size + 1)) { s with heap := h' }) :
    wpAny (model prog w) A (call (.type "enumerate") [.ref l]) Q E s := by
  obtain ⟨⟨c, dct, dt, sl⟩, hl, hc, n, hd⟩ := hL
  replace hc : c = .type "tuple" := hc
  replace hd : dt = .seq items n := hd
  subst hc hd
  refine callType_new PySem.F.called_enumerate (by decide) (PySem.F.typeCall_enumerate_1 _) (PySem.F.newCall_enumerate_1 _) (fun obj => PySem.F.args_object_init_2 obj _) PySem.F.entry_enumerate_new
    (meets_enumerate_newT l items n dct sl) ⟨hl, ?_⟩
  have hz : (s.heap.push { cls := .type "tuple_iterator", data := .fields #[.ref l, .int 0 0] }).objs.size = s.heap.objs.size + 1 := Heap.size_push ..
  show _ ∧ _
  rw [hz]
  have he : IsEnum ((s.heap.push { cls := .type "tuple_iterator", data := .fields #[.ref l, .int 0 0] }).push
      { cls := .type "enumerate", data := .fields #[.none, .bool false, .ref s.heap.objs.size, rawInt 0, .none, .none] }) (s.heap.objs.size + 1) s.heap.objs.size 0 .none := by
    have := Heap.get?_push_size (s.heap.push { cls := .type "tuple_iterator", data := .fields #[.ref l, .int 0 0] })
      (o := { cls := .type "enumerate", data := .fields #[.none, .bool false, .ref s.heap.objs.size, rawInt 0, .none, .none] }) rfl
    rw [hz] at this; exact this
  refine ⟨⟨_, he, rfl⟩, h _ he ⟨_, Heap.get?_push_of_some _ (Heap.get?_push_size _ rfl), rfl, rfl⟩ (by rw [Heap.size_push, hz]) fun b o x => Heap.get?_push_of_some _ (Heap.get?_push_of_some _ x)⟩
theorem draws_tuple (hh : A.handled = none) (it l : Addr) (items : Array Value) : Draws prog w A it [it, l] items.size (fun i x => items[i]? = some x) (fun i h => h.IsTupleIter it l i ∧ h.IsTuple l items ∧ it ≠ l) where
  live := fun i h ⟨⟨o, ho, _⟩, _⟩ => ⟨o, ho⟩
  frame := fun i h h' ⟨⟨o, ho, c, d⟩, ⟨o2, ho2, r⟩, ne⟩ k => ⟨⟨o, k it (by simp) o ho, c, d⟩, ⟨o2, k l (by simp) o2 ho2, r⟩, ne⟩
  item := fun i s Q E hi ⟨hit, ht, ne⟩ hQ => RZ.nextOf_tuple_item hit ht (Array.getElem?_eq_getElem hi) fun h' hit' sb => by
    have := hQ items[i] h' s.toks (Array.getElem?_eq_getElem hi) ⟨hit', ht.extBut sb.extBut (Ne.symm ne), ne⟩ sb
    exact this
  done := fun s Q E ⟨hit, ht, ne⟩ hE => RZ.nextOf_tuple_end hh hit ht (by simp) fun h' e he hc => hE h' e he hc
theorem draws_end (hh : A.handled = none) (it l : Addr) (items : Array Value) (n : Nat) (hn : items[n]? = none) : Draws prog w A it [it, l] n (fun _ _ => False) (fun i h => i = n ∧ h.IsTupleIter it l i ∧ h.IsTuple l items) where
  live := fun i h ⟨_, ⟨o, ho, _⟩, _⟩ => ⟨o, ho⟩
  frame := fun i h h' ⟨e, ⟨o, ho, c, d⟩, ⟨o2, ho2, r⟩⟩ k => ⟨e, ⟨o, k it (by simp) o ho, c, d⟩, ⟨o2, k l (by simp) o2 ho2, r⟩⟩
  item := fun i s Q E hi ⟨e, _⟩ hQ => by omega
  done := fun s Q E ⟨_, hit, ht⟩ hE => RZ.nextOf_tuple_end hh hit ht hn fun h' e he hc => hE h' e he hc
end
/-- the tuple at a, the items in new pairs -/
def Itq (K : PySem.W.Frag) (a : Addr) : It :=
  ⟨fun i H => ∃ (xs : List V) (x : V), SqT K H a xs ∧ xs[i]? = some x, fun i H v H' => ∃ T x, v = .ref T ∧ H T = none ∧ H' = upd H T (.tup [.int (i : Nat), x]) ∧ ∀ xs, SqT K H a xs → xs[i]? = some x, fun i H => ∃ xs : List V, SqT K H a xs ∧ xs.length ≤ i⟩
theorem turn_enumT {P : Program} {w : World} {K : PySem.W.Frag} {elts : List Expr} {kk : Nat} {tpos : Pos} (a e it : Addr) :
    Turn P w K (.Tuple elts kk tpos) (Itq K a) [e, it] e (fun i h => (∃ old, IsEnum h e it ((i : Nat) : Int) old) ∧ h.IsTupleIter it a i ∧ e ≠ it) where
  mem := by simp
  obj := fun i h st b hb => by
    obtain ⟨⟨old, he⟩, ⟨o, ho, hc, hd⟩, _⟩ := st
    have e' : b = e ∨ b = it := by simpa using hb
    rcases e' with z | z
    · rw [z]; exact ⟨_, he, fun v q => nomatch q⟩
    · rw [z]; exact ⟨o, ho, fun v q => by rw [hd] at q; cases q⟩
  keep := fun i h h' st k => let ⟨⟨old, he⟩, hi, hne⟩ := st; ⟨⟨old, k e (by simp) _ he⟩, hi.at fun o q => k it (by simp) o q, hne⟩
  item := by
    intro X hP hw hK hc i pins s σ H E I hf st hg
    subst hP hw hK
    obtain ⟨⟨old, he⟩, hit, hne⟩ := st
    obtain ⟨xs, x, hq, hx⟩ := hg
    obtain ⟨its, rv, p, hz⟩ := I.tuple hq
    obtain ⟨u, hu, ru⟩ := rv.get hx
    have hel : e < s.heap.objs.size := Heap.lt_size he
    have hil : it < s.heap.objs.size := by obtain ⟨_, q, _⟩ := hit; exact Heap.lt_size q
    have hea : e ≠ a := fun z => by
      obtain ⟨o, ho, hcl, _⟩ := p
      rw [← z, he] at ho
      cases ho
      exact absurd (show Value.type "enumerate" = Value.type "tuple" from hcl) (by decide +kernel)
    have hia : it ≠ a := fun z => by
      obtain ⟨o, ho, hcl, _⟩ := p
      obtain ⟨o2, ho2, hc2, _⟩ := id hit
      rw [← z, ho2] at ho
      cases ho
      rw [hc2] at hcl
      exact absurd hcl (by decide +kernel)
    have hlt : i < its.toArray.size := by
      have := (List.getElem?_eq_some_iff.mp hu).1
      simpa using this
    refine wpAny_pyNext_enum_itemD (draws_tuple (A := X.A.in1) (I.ok.hd hc) it a its.toArray) he ⟨hit, p, hia⟩ hlt hne (by simp [hne, hea]) fun x' h' tk hPx ho st' hT hsz hk => ?_
    have hxu : x' = u := by
      have h2 : its[i]? = some x' := by simpa using hPx
      rw [hu] at h2; cases h2; rfl
    subst hxu
    have hit' := st'.1
    refine ⟨_, rfl, wpAny_letOwnedTupleGo_enum (s := { s with heap := h', toks := tk + 1 }) ho fun h'' he' sb => ?_⟩
    have hT2 : h''.get? s.heap.objs.size = some { cls := .type "tuple", data := .seq #[.int i tk, x'] } := (sb.2 _ (Nat.ne_of_gt hel)).trans hT
    have new : ObjOk X.prog X.w (upd H s.heap.objs.size (.tup [.int (i : Nat), x])) h'' s.heap.objs.size (.tup [.int (i : Nat), x]) :=
      ⟨by show 2 ≤ sizeLine; decide, [.int i tk, x'], .cons ⟨_, rfl⟩ (.cons ru .nil), ⟨_, hT2, rfl, _, rfl⟩⟩
    have I1 : Inv X pins σ (upd H s.heap.objs.size (.tup [.int (i : Nat), x])) { s with heap := h'', toks := tk + 1 } :=
      I.turnedNew (ch := [e, it]) (fun b ob hb q => (sb.2 b (fun z => hb (by simp [z]))).trans (hk b ob (fun z => hb (by simp [z])) (fun z => hb (by simp [z])) q)) hf (Nat.le_refl _) new
    refine ⟨.ref s.heap.objs.size, _, I1, rfl, ⟨_, x, rfl, I.hok.fresh (Nat.le_refl _), rfl, fun ys hy => by rw [I.tuple_inj hy hq]; exact hx⟩, ⟨⟨x', ?_⟩, hit'.at fun o q => (sb.2 it (Ne.symm hne)).trans q, hne⟩, fun b hb => ?_⟩
    · have e1 : ((i + 1 : Nat) : Int) = (i : Int) + 1 := by omega
      rw [e1]; exact he'
    · have hb' : b < s.heap.objs.size := by
        have e' : b = e ∨ b = it := by simpa using hb
        rcases e' with z | z
        · rw [z]; exact hel
        · rw [z]; exact hil
      rw [upd_ne (Nat.ne_of_lt hb')]
      exact (hf b hb).1
  done := by
    intro X hP hw hK hc i pins s σ H E I hf st hg
    subst hP hw hK
    obtain ⟨⟨old, he⟩, hit, hne⟩ := st
    obtain ⟨xs, hq, hx⟩ := hg
    obtain ⟨its, rv, p, hz⟩ := I.tuple hq
    obtain ⟨f0, f1, f2, f3, f4, f5⟩ := hf it (by simp)
    have hl := rv.length
    exact wpAny_pyNext_enum_endD (draws_end (A := X.A.in1) (I.ok.hd hc) it a its.toArray i (by simp; omega)) he ⟨rfl, hit, p⟩ fun h' eb => ⟨rfl, I.turned (t' := s.toks) (fun b o hb q => eb b o hb q) f0 f1 f3 f4 f5⟩
  self := fun A i s Q E st h => let ⟨⟨_, he⟩, _⟩ := st; wpAny_pyIter_enum he h
def iEnumT (K : PySem.W.Frag) (ta : TA) : TI := fun σ H R => ta σ H fun vs H1 => ∃ a xs, vs = [.ref a] ∧ SqT K H1 a xs ∧ R (Itq K a) H1
theorem pi_enumT {X : Cx} {e : Expr} {ta : TA} {p pos tpos : Pos} {elts : List Expr} {kk : Nat} (hg : Gl X "enumerate") (hm : X.mg "enumerate" = none) (ha : PA X [e] ta) (hs : starEach [e] X.env = [(false, eval e X.env)] := by rfl) :
    PI X (.Tuple elts kk tpos) (.Call (.Name "enumerate" p) [e] [] pos) (iEnumT X.K ta) := by
  refine ⟨fun pins s σ H R I h => ?_⟩
  refine Call_ (ld_blt I hg hm boot_enumerate (PyProof.Rows.callWith_type1 (thn (ha.run pos pins s σ H _ I h) fun us s1 ⟨vs, H1, I1, r1, q1⟩ => ?_) hs rfl))
  obtain ⟨a, xs, ex, hq, q⟩ := q1
  subst ex
  cases r1 with
  | cons r rr =>
    cases rr
    cases r
    obtain ⟨its, rv, p', hz⟩ := I1.tuple hq
    refine call_enumerate_tuple p' fun h' he hit hsz hk => wpAny_pyIter_enum he ?_
    have I2 : Inv X pins σ H1 { s1 with heap := h' } := I1.kept (t' := s1.toks) hk
    refine ⟨s1.heap.objs.size + 1, [s1.heap.objs.size + 1, s1.heap.objs.size], _, _, H1, rfl, I2, turn_enumT a (s1.heap.objs.size + 1) s1.heap.objs.size, ⟨⟨.none, he⟩, hit, Nat.succ_ne_self _⟩, fun b hb => ?_, q⟩
    have e' : b = s1.heap.objs.size + 1 ∨ b = s1.heap.objs.size := by simpa using hb
    have hle : s1.heap.objs.size ≤ b := by
      rcases e' with z | z
      · rw [z]; exact Nat.le_add_right _ _
      · rw [z]; exact Nat.le_refl _
    exact I1.fpOk hle (I1.hok.fresh hle)
theorem ri_enumT {K : PySem.W.Frag} {B H : Hp} {ρ : List Addr} {xs : List PyData} {p : Addr} {vs : List V} (hs : SqT K B p vs) (d : DpAll K B vs xs) : RI K B ρ H (Itq K p) (itE xs) := by
  intro B2 ρ2 κ2 H2 w2 g2 i
  have hs2 : SqT K H2 p vs := sqt_up g2.ex (sqt_up w2.s hs)
  have hl := dpa_len d
  refine ⟨fun h => ⟨vs, hs2, by rw [hl]; exact h⟩, fun h => ?_⟩
  obtain ⟨w, hw, r⟩ := dpa_get d (getLt h)
  refine ⟨⟨vs, w, hs2, hw⟩, fun x H3 hy => ?_⟩
  obtain ⟨T, x0, rfl, hT, rfl, f⟩ := hy
  have e := (f vs hs2).symm.trans hw
  cases e
  obtain ⟨u4, g4, r4⟩ := new_tup g2 hT (ds := [.int (i : Nat), xs[i]'h]) (.cons (.int _) (.cons (dp_up w2.s _ _ r) .nil))
  exact ⟨_, _, u4, g4, r4, _, getLt h, rfl⟩
/-- enumerate of a tuple of data -/
def aEnumT (fa : AA) : AI := fun δ κ R => fa δ κ fun as κ1 => match as with
  | [.d (.tuple xs)] => R (itE xs) κ1
  | _ => False
theorem ia_enumT {K : PySem.W.Frag} {X : Cx} {ta : TA} {fa : AA} {a : Expr} {elts : List Expr} {kk : Nat} {tpos q pos : Pos} (hg : Gl X "enumerate") (hm : X.mg "enumerate" = none) (ha : PAa K X [a] ta fa) (hs : starEach [a] X.env = [(false, eval a X.env)] := by rfl) (hK : X.K = K := by rfl) :
    PIa K X (.Tuple elts kk tpos) (.Call (.Name "enumerate" q) [a] [] pos) (iEnumT K ta) (aEnumT fa) := by
  subst hK
  exact ⟨pi_enumT hg hm ha.pa hs, fun B ρ δ κ σ H R Q s g hh q => ha.sd _ _ _ _ _ _ _ _ s g hh fun B1 ρ1 κ1 H1 as vs w1 g1 r1 h1 => by
    split at h1
    · obtain ⟨x, rfl, r⟩ := reps1 r1
      obtain ⟨p, vs, rfl, s1, d1⟩ := r.tuple
      exact ⟨p, vs, rfl, sqt_up g1.ex s1, q _ _ _ _ _ _ w1 g1 (ri_enumT s1 d1) h1⟩
    · exact h1.elim⟩
end Ab
set_option Elab.async false
set_option linter.all false
set_option maxRecDepth 100000
set_option maxHeartbeats 4000000
/-! Ab12: calls whose cells may refer to one another -/
namespace Ab
open PySem L2
variable {K : PySem.W.Frag} {B B' B2 H H' H2 : Hp} {ρ ρ' ρ2 : List Addr} {κ κ' : AK} {δ : AD} {σ : L2.St} {p : Addr} {k : Nat} {v x y z : V} {a b c : AV}
def selF (js : List Nat) : List (Str × AV) → Option (List (Str × AV))
  | [] => some []
  | (g, a) :: r => match selA js a, selF js r with
    | some x, some xs => some ((g, x) :: xs)
    | _, _ => none
def selC (js : List Nat) : Cell → Option Cell
  | .lst xs => match selAs js xs with
    | some ys => some (.lst ys)
    | none => none
  | .tup xs => match selAs js xs with
    | some ys => some (.tup ys)
    | none => none
  | .ins C fs => match selF js fs with
    | some ys => some (.ins C ys)
    | none => none
  | c => some c
def selKX (js0 : List Nat) (κ : AK) : List Nat → Option AK
  | [] => some []
  | j :: r => match κ[j]?, selKX js0 κ r with
    | some c, some cs => match selC js0 c with
      | some c' => some (c' :: cs)
      | none => none
    | _, _ => none
def backC (js : List Nat) (n : Nat) : Cell → Cell
  | .lst xs => .lst (xs.map (backA js n))
  | .tup xs => .tup (xs.map (backA js n))
  | .ins C fs => .ins C (fs.map fun p => (p.1, backA js n p.2))
  | c => c
def backKX (js : List Nat) (κ κ' : AK) : AK := backK js κ (κ'.map (backC js κ.length))
@[irreducible] def callX (F : FSp) (E : AX → AK → Prop) (as : List AV) (κ1 : AK) (R : AR) : Prop := ∃ js asl κl, js.Nodup ∧ selAs js as = some asl ∧ selKX js κ1 js = some κl ∧
  F asl κl (fun a κ' => js.length ≤ κ'.length ∧ (κ'.drop js.length).all liveC = true ∧ R (backA js κ1.length a) (backKX js κ1 κ')) (fun x κ' => js.length ≤ κ'.length ∧ (κ'.drop js.length).all liveC = true ∧ E x (backKX js κ1 κ'))
theorem callX_i {F : FSp} {E : AX → AK → Prop} {as : List AV} {κ1 : AK} {R : AR} (h : ∃ js asl κl, js.Nodup ∧ selAs js as = some asl ∧ selKX js κ1 js = some κl ∧
  F asl κl (fun a κ' => js.length ≤ κ'.length ∧ (κ'.drop js.length).all liveC = true ∧ R (backA js κ1.length a) (backKX js κ1 κ')) (fun x κ' => js.length ≤ κ'.length ∧ (κ'.drop js.length).all liveC = true ∧ E x (backKX js κ1 κ'))) : callX F E as κ1 R := by
  unfold callX; exact h
theorem callX_e {F : FSp} {E : AX → AK → Prop} {as : List AV} {κ1 : AK} {R : AR} (h : callX F E as κ1 R) : ∃ js asl κl, js.Nodup ∧ selAs js as = some asl ∧ selKX js κ1 js = some κl ∧
  F asl κl (fun a κ' => js.length ≤ κ'.length ∧ (κ'.drop js.length).all liveC = true ∧ R (backA js κ1.length a) (backKX js κ1 κ')) (fun x κ' => js.length ≤ κ'.length ∧ (κ'.drop js.length).all liveC = true ∧ E x (backKX js κ1 κ')) := by
  unfold callX at h; exact h
theorem selF_ok {js : List Nat} (hr : ∀ (i j : Nat) (p : Addr), js[i]? = some j → ρ[j]? = some p → ρ'[i]? = some p) : ∀ {fs fsl : List (Str × AV)} {ws : List (Str × V)}, selF js fs = some fsl → RepKs K B ρ fs ws → RepKs K B ρ' fsl ws
  | [], _, _, h, r => by cases h; cases r; exact .nil
  | (g, a) :: fs, _, _, h, r => by
    unfold selF at h
    split at h
    · rename_i x xs e1 e2
      cases h
      cases r with
      | @cons _ q _ qs r1 r2 =>
        refine .cons ⟨r1.1, ?_⟩ (selF_ok hr e2 r2)
        have := selAs_ok (K := K) (B := B) (vs := [q.2]) hr (as := [a]) (asl := [x]) (by unfold selAs; rw [e1]; rfl) (.cons r1.2 .nil)
        cases this with
        | cons z _ => exact z
    · cases h
theorem CellOk.sel {js : List Nat} (hr : ∀ (i j : Nat) (p : Addr), js[i]? = some j → ρ[j]? = some p → ρ'[i]? = some p) {cl cl' : Cell} (h : selC js cl = some cl') (ok : CellOk K B ρ H p cl) : CellOk K B ρ' H p cl' := by
  cases cl with
  | dead => cases h; exact ok
  | ld ys => cases h; exact ok
  | dK ys => cases h; exact ok
  | dT ys => cases h; exact ok
  | lst ys =>
    have h : (match selAs js ys with | some zs => some (Cell.lst zs) | none => none) = some cl' := h
    split at h
    · rename_i zs e; cases h
      obtain ⟨n, ws, r, eH⟩ := ok
      exact ⟨n, ws, selAs_ok hr e r, eH⟩
    · cases h
  | tup ys =>
    have h : (match selAs js ys with | some zs => some (Cell.tup zs) | none => none) = some cl' := h
    split at h
    · rename_i zs e; cases h
      obtain ⟨n, ws, r, eH⟩ := ok
      exact ⟨n, ws, selAs_ok hr e r, eH⟩
    · cases h
  | ins C ys =>
    have h : (match selF js ys with | some zs => some (Cell.ins C zs) | none => none) = some cl' := h
    split at h
    · rename_i zs e; cases h
      obtain ⟨n, dx, ws, r, eH⟩ := ok
      exact ⟨n, dx, ws, selF_ok hr e r, eH⟩
    · cases h
theorem selKX_get {js0 : List Nat} : ∀ {js : List Nat} {κ κl : AK}, selKX js0 κ js = some κl → κl.length = js.length ∧ ∀ (i j : Nat), js[i]? = some j → ∃ c c', κ[j]? = some c ∧ selC js0 c = some c' ∧ κl[i]? = some c'
  | [], κ, κl, h => by cases h; exact ⟨rfl, fun i j e => by simp at e⟩
  | j :: js, κ, κl, h => by
    unfold selKX at h
    split at h
    · rename_i c cs e1 e2
      split at h
      · rename_i c' hc
        cases h
        obtain ⟨l, f⟩ := selKX_get e2
        refine ⟨by simp [l], fun i j' e => ?_⟩
        cases i with
        | zero => simp at e; subst e; exact ⟨c, c', e1, hc, rfl⟩
        | succ i => obtain ⟨d, d', y1, y2, y3⟩ := f i j' (by simpa using e); exact ⟨d, d', y1, y2, by simpa using y3⟩
      · cases h
    · cases h
theorem sel_okX (g : G K B ρ κ H) {js : List Nat} {κl : AK} (nd : js.Nodup) (hk : selKX js κ js = some κl) : G K B (selR js ρ) κl H := by
  obtain ⟨lk, sel⟩ := selKX_get hk
  have get : ∀ {i : Nat} {p : Addr}, (selR js ρ)[i]? = some p → ∃ j c c', js[i]? = some j ∧ ρ[j]? = some p ∧ κ[j]? = some c ∧ κl[i]? = some c' ∧ selC js c = some c' := fun {i p} h => by
    unfold selR at h
    rw [List.getElem?_map] at h
    obtain ⟨j, hj, e⟩ := Option.map_eq_some_iff.mp h
    obtain ⟨c, c', e1, e2, e3⟩ := sel i j hj
    have lt : j < ρ.length := by rw [g.len]; exact (List.getElem?_eq_some_iff.mp e1).1
    rw [List.getD_eq_getElem?_getD, List.getElem?_eq_getElem lt] at e
    exact ⟨j, c, c', hj, by rw [List.getElem?_eq_getElem lt]; exact congrArg some e, e1, e3, e2⟩
  refine ⟨g.ex, by unfold selR; rw [List.length_map, lk], fun i i' p h1 h2 => ?_, fun i p c h1 h2 => ?_⟩
  · obtain ⟨j, _, _, y1, y2, _⟩ := get h1
    obtain ⟨j', _, _, z1, z2, _⟩ := get h2
    have e := g.inj j j' p y2 z2
    subst e
    obtain ⟨a1, b1⟩ := List.getElem?_eq_some_iff.mp y1
    obtain ⟨a2, b2⟩ := List.getElem?_eq_some_iff.mp z1
    exact (List.getElem_inj nd).mp (b1.trans b2.symm)
  · obtain ⟨j, c0, c', y1, y2, y3, y4, y5⟩ := get h1
    rw [h2] at y4; cases y4
    exact (g.at' j p c0 y2 y3).sel (fun i j p h1 h2 => selR_get h1 h2) y5
theorem Reps.back {js : List Nat} {n : Nat} (hrep : ∀ {a : AV} {v : V}, Rep K B ρ a v → Rep K B ρ' (backA js n a) v) : ∀ {as : List AV} {vs : List V}, Reps K B ρ as vs → Reps K B ρ' (as.map (backA js n)) vs
  | _, _, .nil => .nil
  | _, _, .cons h1 h2 => .cons (hrep h1) (Reps.back hrep h2)
theorem RepKs.back {ι : Type} {js : List Nat} {n : Nat} (hrep : ∀ {a : AV} {v : V}, Rep K B ρ a v → Rep K B ρ' (backA js n a) v) : ∀ {as : List (ι × AV)} {vs : List (ι × V)}, RepKs K B ρ as vs → RepKs K B ρ' (as.map fun p => (p.1, backA js n p.2)) vs
  | _, _, .nil => .nil
  | _, _, .cons h1 h2 => .cons ⟨h1.1, hrep h1.2⟩ (RepKs.back hrep h2)
theorem CellOk.back {js : List Nat} {n : Nat} (hrep : ∀ {a : AV} {v : V}, Rep K B ρ a v → Rep K B ρ' (backA js n a) v) {cl : Cell} (ok : CellOk K B ρ H p cl) : CellOk K B ρ' H p (backC js n cl) := by
  cases cl with
  | dead => exact ok
  | ld ys => exact ok
  | dK ys => exact ok
  | dT ys => exact ok
  | lst ys => obtain ⟨n, ws, r, e⟩ := ok; exact ⟨n, ws, Reps.back hrep r, e⟩
  | tup ys => obtain ⟨n, ws, r, e⟩ := ok; exact ⟨n, ws, Reps.back hrep r, e⟩
  | ins C ys => obtain ⟨n, dx, ws, r, e⟩ := ok; exact ⟨n, dx, ws, RepKs.back hrep r, e⟩
theorem back_okX (g : G K B ρ κ H) {js : List Nat} {κl : AK} (nd : js.Nodup) (hk : selKX js κ js = some κl) {ρl' : List Addr} (w : Up B (selR js ρ) H B' ρl' H') (g' : G K B' ρl' κ' H') (l : js.length ≤ κ'.length) (lv : (κ'.drop js.length).all liveC = true) :
    Up B ρ H B' (ρ ++ ρl'.drop js.length) H' ∧ G K B' (ρ ++ ρl'.drop js.length) (backKX js κ κ') H' ∧ ∀ {a : AV} {v : V}, Rep K B' ρl' a v → Rep K B' (ρ ++ ρl'.drop js.length) (backA js κ.length a) v := by
  obtain ⟨lk, sel⟩ := selKX_get hk
  have jlt : ∀ {i j : Nat}, js[i]? = some j → j < κ.length := fun h => by
    obtain ⟨c, _, e, _⟩ := sel _ _ h
    exact (List.getElem?_eq_some_iff.mp e).1
  have rl : ∀ {i j : Nat} {p : Addr}, js[i]? = some j → ρ[j]? = some p → ρl'[i]? = some p := fun h hp => w.p _ _ (selR_get h hp)
  have memsel : ∀ {i : Nat} {p : Addr}, ρ[i]? = some p → p ∈ selR js ρ → i ∈ js := fun {i p} hp hm => by
    unfold selR at hm
    obtain ⟨j, hj, e⟩ := List.mem_map.mp hm
    obtain ⟨m, hm⟩ := List.mem_iff_getElem?.mp hj
    have lt := jlt hm
    rw [← g.len] at lt
    rw [List.getD_eq_getElem?_getD, List.getElem?_eq_getElem lt] at e
    have : ρ[j]? = some p := by rw [List.getElem?_eq_getElem lt]; exact congrArg some e
    rw [g.inj i j p hp this]; exact hj
  have newne : ∀ {i m : Nat} {p : Addr}, ρ[i]? = some p → (ρl'.drop js.length)[m]? = some p → False := fun {i m p} h1 h2 => by
    rw [List.getElem?_drop] at h2
    by_cases hj : i ∈ js
    · obtain ⟨q, hq⟩ := List.mem_iff_getElem?.mp hj
      have := g'.inj q _ p (rl hq h1) h2
      have := (List.getElem?_eq_some_iff.mp hq).1
      omega
    · have hm : js.length + m < κ'.length := by rw [← g'.len]; exact (List.getElem?_eq_some_iff.mp h2).1
      have ok := g'.at' _ p _ h2 (List.getElem?_eq_getElem hm)
      have live : liveC κ'[js.length + m] = true := List.all_eq_true.mp lv _ (mem_of_get (by rw [List.getElem?_drop]; exact List.getElem?_eq_getElem hm))
      have bn : B' p = none := by
        cases hc : κ'[js.length + m] with
        | dead => rw [hc] at live; cases live
        | ld ys => rw [hc] at ok; exact ok.1
        | lst ys => rw [hc] at ok; exact ok.1
        | tup ys => rw [hc] at ok; exact ok.1
        | dK ys => rw [hc] at ok; exact ok.1
        | dT ys => rw [hc] at ok; exact ok.1
        | ins C ys => rw [hc] at ok; exact ok.1
      have hi : i < κ.length := by rw [← g.len]; exact (List.getElem?_eq_some_iff.mp h1).1
      have hn := (g.at' i p _ h1 (List.getElem?_eq_getElem hi)).nn
      cases hH : H p with
      | none => exact hn hH
      | some o =>
        exact (w.f p o hH (w.s.free bn) fun z => hj (memsel h1 z)).2.2 (mem_of_get h2)
  have w2 : Up B ρ H B' (ρ ++ ρl'.drop js.length) H' := ⟨w.s, fun _ _ h => get_app h, fun p o h1 h2 h3 => by
    have hp : p ∉ selR js ρ := fun z => by
      unfold selR at z
      obtain ⟨j, hj, e⟩ := List.mem_map.mp z
      obtain ⟨m, hm⟩ := List.mem_iff_getElem?.mp hj
      have lt := jlt hm
      rw [← g.len] at lt
      rw [List.getD_eq_getElem?_getD, List.getElem?_eq_getElem lt] at e
      exact h3 (by rw [← e]; exact List.getElem_mem lt)
    obtain ⟨y1, y2, y3⟩ := w.f p o h1 h2 hp
    refine ⟨y1, y2, fun z => ?_⟩
    rcases List.mem_append.mp z with z | z
    · exact h3 z
    · exact y3 (List.mem_of_mem_drop z)⟩
  have hrep : ∀ {a : AV} {v : V}, Rep K B' ρl' a v → Rep K B' (ρ ++ ρl'.drop js.length) (backA js κ.length a) v := fun {a v} r => by
    cases a with
    | d y => exact r
    | r y => exact r
    | c j =>
      obtain ⟨p, hp, rfl⟩ := r
      show Rep K B' _ (match js[j]? with | some k => .c k | none => .c (κ.length + (j - js.length))) _
      cases e : js[j]? with
      | some k =>
        have lt := jlt e
        rw [← g.len] at lt
        have e2 := rl e (List.getElem?_eq_getElem lt)
        rw [hp] at e2; cases e2
        exact ⟨_, get_app (List.getElem?_eq_getElem lt), rfl⟩
      | none =>
        have hj : js.length ≤ j := List.getElem?_eq_none_iff.mp e
        refine ⟨p, ?_, rfl⟩
        rw [← g.len, List.getElem?_append_right (by omega), List.getElem?_drop]
        have : js.length + (ρ.length + (j - js.length) - ρ.length) = j := by omega
        rw [this]; exact hp
  have lb : (putK js (κ'.map (backC js κ.length)) κ).length = ρ.length := by rw [putK_len, g.len]
  refine ⟨w2, ⟨g'.ex, ?_, fun i j p h1 h2 => ?_, fun i p c h1 h2 => ?_⟩, hrep⟩
  · rw [backKX, backK_eq, List.length_append, List.length_append, lb, List.length_drop, List.length_drop, List.length_map, g'.len]
  · by_cases hi : i < ρ.length
    · rw [List.getElem?_append_left hi] at h1
      by_cases hj : j < ρ.length
      · rw [List.getElem?_append_left hj] at h2
        exact g.inj i j p h1 h2
      · rw [List.getElem?_append_right (by omega)] at h2
        exact (newne h1 h2).elim
    · rw [List.getElem?_append_right (by omega)] at h1
      by_cases hj : j < ρ.length
      · rw [List.getElem?_append_left hj] at h2
        exact (newne h2 h1).elim
      · rw [List.getElem?_append_right (by omega)] at h2
        rw [List.getElem?_drop] at h1 h2
        have := g'.inj _ _ p h1 h2
        omega
  · rw [backKX, backK_eq] at h2
    by_cases hi : i < ρ.length
    · rw [List.getElem?_append_left hi] at h1
      rw [List.getElem?_append_left (by omega)] at h2
      by_cases hj : i ∈ js
      · obtain ⟨q, hq⟩ := List.mem_iff_getElem?.mp hj
        have hq' : q < κ'.length := Nat.lt_of_lt_of_le (List.getElem?_eq_some_iff.mp hq).1 l
        rw [putK_at nd hq (by rw [List.getElem?_map, List.getElem?_eq_getElem hq']; rfl) (jlt hq)] at h2
        cases h2
        exact (g'.at' q p _ (rl hq h1) (List.getElem?_eq_getElem hq')).back hrep
      · rw [putK_ne hj] at h2
        have ok := g.at' i p c h1 h2
        have hp : p ∉ selR js ρ := fun z => hj (memsel h1 z)
        refine ok.up w2.g (fun bn => ?_) fun o ho => ?_
        · obtain ⟨o, ho⟩ := Option.ne_none_iff_exists'.mp ok.nn
          exact (w.f p o ho bn hp).2.1
        · cases bp : B p with
          | none => exact (w.f p o ho bp hp).1
          | some u =>
            have e1 := g.ex p u bp
            rw [ho] at e1; cases e1
            exact g'.ex p o (w.s p o bp)
    · rw [List.getElem?_append_right (by omega), List.getElem?_drop] at h1
      rw [List.getElem?_append_right (by omega), lb, List.getElem?_drop, List.getElem?_map] at h2
      obtain ⟨c0, hc0, rfl⟩ := Option.map_eq_some_iff.mp h2
      exact (g'.at' _ p c0 h1 hc0).back hrep
def aCallX (F : FSp) (E : AX → AK → Prop) (fa : AA) : AE := fun δ κ R => fa δ κ fun as κ1 => callX F E as κ1 R
theorem callX_sd {F : FSp} {E : XK} {E' : AX → AK → Prop} {as : List AV} {vs : List V} {R : AR} {Q : VK} (g : G K B ρ κ H) (r : Reps K B ρ as vs) (h : callX F E' as κ R) (q : Nx K B ρ H R Q) (hx : ∀ B' H' x κ' cls d, E' x κ' → RepX K B' H' x cls d → E cls d H') : spA K F vs H Q E := by
  obtain ⟨js, asl, κl, nd, e1, e2, hF⟩ := callX_e h
  refine ⟨B, selR js ρ, κl, asl, _, _, sel_okX g nd e2, selAs_ok (fun i j p h1 h2 => selR_get h1 h2) e1 r, hF, ?_, ?_⟩
  · rintro B' ρ' κ' H' a v w2 g2 r2 ⟨l, lv, hR⟩
    obtain ⟨w3, g3, r3⟩ := back_okX g nd e2 w2 g2 l lv
    exact q _ _ _ _ _ _ w3 g3 (r3 r2) hR
  · rintro B' ρ' κ' H' x cls d w2 g2 r2 ⟨l, lv, hR⟩
    exact hx _ _ _ _ _ _ hR r2
theorem se_callX {F : FSp} {ta : TA} {fa : AA} {E : XK} {E' : AX → AK → Prop} (ha : SA K ta fa) (hx : ∀ B' H' x κ' cls d, E' x κ' → RepX K B' H' x cls d → E cls d H') : SE K (tCall (spA K F) [] E ta) (aCallX F E' fa) := fun B ρ δ κ σ H R Q s g h q =>
  ha B ρ δ κ σ H _ _ s g h fun B1 ρ1 κ1 H1 as vs w1 g1 r1 hcw => by
    show spA K F (vs ++ []) H1 Q E
    rw [List.append_nil]
    exact callX_sd g1 r1 hcw (q.later w1) hx
section
variable {X : Cx} {e e2 : Expr} {t u : TE} {f f2 : AE} {pos : Pos}
variable {l : Nat} {fa : Addr} {fd : FuncData} {ps : List Str} {F : FSp} {x : Str} {q pos : Pos} {es : List Expr} {ta : TA} {ga : AA}
theorem ea_callX (Fo : FnOk X.prog X.w X.K X.mg X.base CX0 l fa fd ps (spA K F)) (hr : Room l X.A) (hg : Gl X x) (hm : X.mg x = some (.ref fa)) (hk : PySem.W.keepIn X.K (.ref fa) = true) (hb : Binds X.K fd ps []) (ha : PAa K X (e :: es) ta ga)
    (hdb : (x == ("__debug__" : Str)) = false := by decide) (he : starEach (e :: es) X.env = (false, eval e X.env) :: starEach es X.env := by rfl) (hpl : (backTo pos (starEach es X.env)).any (·.1) = false := by rfl) (hK : X.K = K := by rfl) :
    PEa K X (.Call (.Name x q) (e :: es) [] pos) (tCall (spA K F) [] E0 ta) (aCallX F (fun _ _ => False) ga) := by
  subst hK
  exact ⟨pe_call Fo hr hg hm hk hb .nil pass0 ha.pa hdb he hpl, se_callX ha.sd fun _ _ _ _ _ _ h => h.elim⟩
end
end Ab
set_option Elab.async false
set_option linter.all false
set_option maxRecDepth 100000
set_option maxHeartbeats 4000000
/-! Ab13: find, split, all, ord, int of a text, a text several times, a list taken apart -/
namespace Ab
open PySem L2
variable {K : PySem.W.Frag} {B B' B2 H H' H2 : Hp} {ρ ρ' ρ2 : List Addr} {κ κ' : AK} {δ : AD} {σ : L2.St} {p : Addr} {k : Nat} {v x y z : V} {a b c : AV}
variable {X : Cx} {e e2 : Expr} {t u : TE} {f f2 : AE} {pos : Pos}
/-- s.find(x, i) -/
def aFind3 : AV → List AV → AK → AR → Prop := fun a as κ R => match a, as with
  | .d (.str s), [.d (.str t), .d (.int i)] => R (.d (.int (Txt.find3 s t i))) κ
  | _, _ => False
theorem ma_find3 : MtA K X "str.find" (fun x xs H Q => ∃ (a b : Str) (i : Int), x = .str a ∧ xs = [.str b, .int i] ∧ Q (.int (Txt.find3 a b i)) H) aFind3 := by
  refine ⟨mt_find3, fun B ρ κ H x xs a as R Q g rx rs h q => ?_⟩
  unfold aFind3 at h
  split at h
  · obtain ⟨y, z, rfl, r1, r2⟩ := reps2 rs
    cases rx.str; cases r1.str; cases r2.int
    exact ⟨_, _, _, rfl, rfl, q.at0 g (rp_int _) h⟩
  · exact h.elim
theorem dpa_strs_of : ∀ ys : List Str, DpAll K B (ys.map V.str) (ys.map .str)
  | [] => .nil
  | y :: ys => .cons (.str y) (dpa_strs_of ys)
/-- s.split(x): data -/
def aSplit : AV → List AV → AK → AR → Prop := fun a as κ R => match a, as with
  | .d (.str s), [.d (.str t)] => (t.length == 0) = false ∧ s.length + 2 ≤ sizeLine ∧ R (.d (.list ((Txt.split s t).map .str))) κ
  | _, _ => False
theorem ma_split : MtA K X "str.split" (fun x xs H Q => ∃ a b, x = .str a ∧ xs = [.str b] ∧ (b.length == 0) = false ∧ a.length + 2 ≤ sizeLine ∧ rNewStrs (Txt.split a b) H Q) aSplit := by
  refine ⟨mt_split, fun B ρ κ H x xs a as R Q g rx rs h q => ?_⟩
  unfold aSplit at h
  split at h
  · obtain ⟨y, rfl, r1⟩ := reps1 rs
    cases rx.str; cases r1.str
    refine ⟨_, _, rfl, rfl, h.1, h.2.1, fun p hp => ?_⟩
    obtain ⟨u4, g4, r4⟩ := new_lst g hp (dpa_strs_of _)
    exact q _ _ _ _ _ _ u4 g4 r4 h.2.2
  · exact h.elim
theorem dpa_bools : ∀ {bs : List Bool} {vs : List V}, DpAll K B vs (bs.map .bool) → vs = bs.map V.bl
  | [], _, h => by cases h; rfl
  | y :: ys, _, h => by
    cases h with
    | cons h1 h2 =>
      cases h1
      rw [dpa_bools h2]; rfl
/-- all([..]) of truths -/
def aAll : List AV → AK → AR → Prop := fun as κ R => match as with
  | [.d (.list ds)] => ∃ bs : List Bool, ds = bs.map .bool ∧ R (.d (.bool (bs.all id))) κ
  | _ => False
theorem ca_all (hc : X.calm = true) (hK : X.K = K := by rfl) : CallA K X (.builtin "all") (rAll K) aAll := by
  subst hK
  refine ⟨cr_all hc, fun B ρ κ H xs as R Q g rs h q => ?_⟩
  unfold aAll at h
  split at h
  · obtain ⟨x, rfl, r⟩ := reps1 rs
    obtain ⟨bs, rfl, h⟩ := h
    obtain ⟨p, vs, rfl, s1, d1⟩ := of_listG g r
    obtain rfl := dpa_bools d1
    exact ⟨p, bs, rfl, s1, q.at0 g (rp_bl _) h⟩
  · exact h.elim
/-- ord(c) -/
def aOrd : List AV → AK → AR → Prop := fun as κ R => match as with
  | [.d (.str s)] => ∃ c, s.cps.toList = [c] ∧ R (.d (.int (c : Nat))) κ
  | _ => False
theorem ca_ord : CallA K X (.builtin "ord") (fun xs H Q => ∃ x, xs = [.str x] ∧ x.length = 1 ∧ Q (.int (x.cps.getD 0 0 : Nat)) H) aOrd := by
  refine ⟨call_ord, fun B ρ κ H xs as R Q g rs h q => ?_⟩
  unfold aOrd at h
  split at h
  · obtain ⟨x, rfl, r⟩ := reps1 rs
    obtain ⟨c, e, h⟩ := h
    rw [str_one e] at r
    refine ⟨⟨#[c]⟩, by rw [r.str], rfl, q.at0 g (rp_int _) h⟩
  · exact h.elim
/-- int of a text of digits -/
def aIntS : List AV → AK → AR → Prop := fun as κ R => match as with
  | [.d (.str s)] => ∃ n, PySem.intText? s = some n ∧ s.length ≤ 640 ∧ R (.d (.int n)) κ
  | _ => False
theorem ca_intS : CallA K X (.type "int") (fun xs H Q => ∃ a n, xs = [.str a] ∧ PySem.intText? a = some n ∧ a.length ≤ 640 ∧ Q (.int n) H) aIntS := by
  refine ⟨call_int_str, fun B ρ κ H xs as R Q g rs h q => ?_⟩
  unfold aIntS at h
  split at h
  · obtain ⟨x, rfl, r⟩ := reps1 rs
    obtain ⟨n, e, hl, h⟩ := h
    cases r.str
    exact ⟨_, n, rfl, e, hl, q.at0 g (rp_int _) h⟩
  · exact h.elim
/-- a text n times -/
def aMulT : AO := fun a b κ R => match a, b with
  | .d (.str s), .d (.int n) => s.length ≤ 1000 ∧ 1 < n ∧ n ≤ 1000 ∧ R (.d (.str (Txt.mul s n))) κ
  | _, _ => False
def rMulT : R2 := fun x y H Q => ∃ s n, x = .str s ∧ y = .int n ∧ s.length ≤ 1000 ∧ 1 < n ∧ n ≤ 1000 ∧ Q (.str (Txt.mul s n)) H
theorem op_mulT : OpR X (binaryOp .Mult) rMulT := by
  intro pins s σ H x y v u Q I rx ry h
  obtain ⟨z, n, rfl, rfl, h1, h2, h3, q⟩ := h
  obtain ⟨t, rfl⟩ := rx
  obtain ⟨t2, rfl⟩ := ry
  refine PySem.SB.mul ⟨?_, fun _ _ => ?_, fun _ _ => ?_⟩ fun t' k => ⟨.str _, H, I.tok k, ⟨t', rfl⟩, q⟩
  · rw [Bool.or_eq_false_iff]
    exact ⟨decide_eq_false (by omega), decide_eq_false (by omega)⟩
  · have : (1000 : Int) ≤ (2 ^ 63 - 1) / n := by
      rw [Int.le_ediv_iff_mul_le (by omega)]; omega
    omega
  · have : z.length * n.toNat ≤ 1000 * 1000 := Nat.mul_le_mul h1 (by omega)
    have hs : (1000000 : Nat) ≤ sizeLine := by decide
    unfold Builtin.Str.tooLong
    exact decide_eq_false (by omega)
theorem oa_mulT : OpA K X (binaryOp .Mult) rMulT aMulT := by
  refine ⟨op_mulT, ?_⟩
  intro B ρ κ H x y a b R Q g rx ry h q
  unfold aMulT at h
  split at h
  · exact ⟨_, _, rx.str, ry.int, h.1, h.2.1, h.2.2.1, q.at0 g (rp_str _) h.2.2.2⟩
  · exact h.elim
/-- a list is taken apart -/
def aGUnl (n : Nat) (gs : AGs) : AG := fun a δ κ R => match a with
  | .d (.list ds) => ds.length = n ∧ gs (ds.map .d) δ κ R
  | _ => False
theorem ga_unl {es : List Expr} {tgs : TGs} {ags : AGs} {kk : Nat} {n : Nat} (hc : X.calm = true) (h : PGsa K X es tgs ags) (hn : (assignEach es X.env).length = n := by rfl) (hst : (assignEach es X.env).findIdx? (·.1) = none := by rfl) (hK : X.K = K := by rfl) : PGa K X (.Tuple es kk pos) (gUnl K n tgs) (aGUnl n ags) := by
  subst hK
  exact ⟨pg_unl hc h.pg hn hst, fun B ρ δ κ σ H a v R Q s g r hh q => by
    unfold aGUnl at hh
    split at hh
    · obtain ⟨p, vs, rfl, s1, d1⟩ := of_listG g r
      exact ⟨p, vs, rfl, s1, by rw [dpa_len d1]; exact hh.1, h.sd _ _ _ _ _ _ _ _ _ _ s g (Reps.all d1) hh.2 q⟩
    · exact hh.elim⟩
end Ab
set_option Elab.async false
set_option linter.all false
set_option maxRecDepth 100000
set_option maxHeartbeats 4000000
/-! Com: the helpers that the laws share -/
namespace Com
open PySem L2 Ab
variable {K : PySem.W.Frag}
/-! ### the source of numbers -/
def srcK (ns : List Int) (i x y : Int) : Cell := .ld [.list (ns.map .int), .int i, .int x, .int y]
def isSrc (c : Cell) : Prop := ∃ ns i x y, c = srcK ns i x y ∧ 0 ≤ i
theorem isSrc.cl {c : Cell} (h : isSrc c) : clC c = true ∧ liveC c = true := by
  obtain ⟨ns, i, x, y, rfl, _⟩ := h
  exact ⟨rfl, rfl⟩
def F__law_source : FSp := fun as κ R _ => ∃ ns : List Int, as = [.d (.list (ns.map .int))] ∧ κ = [] ∧ ∀ s, isSrc s → R (.c 0) [s]
abbrev N__law_source : List Str := ["script"]
def a__law_source (K : PySem.W.Frag) : AS :=
  (aRet (aLst (aCons (aCB (aListOf false) (aCons (aVar 0) aNil)) (aCons (aC (.d (.int 0))) (aCons (aC (.d (.int 0))) (aCons (aC (.d (.int 7))) aNil))))))
theorem len__law_source : ∀ as κ R E', F__law_source as κ R E' → as.length = (["script"] : List Str).length := by
  rintro as κ R E' ⟨ns, rfl, _⟩; rfl
theorem rd__law_source : ∀ as κ R E', F__law_source as κ R E' → a__law_source K (endsA K κ.length R) (startA N__law_source as) κ := by
  rintro as κ R E' ⟨ns, rfl, rfl, h⟩
  exact ⟨(show 4 ≤ sizeLine by decide), _, _, GhR.refl (Nat.zero_le _), h _ ⟨ns, 0, 0, 7, rfl, by decide⟩⟩
def F__law_pick : FSp := fun as κ R _ => ∃ s m, as = [.c 0, .d (.int m)] ∧ κ = [s] ∧ isSrc s ∧ 0 < m ∧ m < 1000000 ∧ ∀ v s', isSrc s' → 0 ≤ v → v < m → R (.d (.int v)) [s']
abbrev N__law_pick : List Str := ["source", "many", "cell", "picked", "mixed"]
def a__law_pick (K : PySem.W.Frag) : AS :=
  (aCut (aIfS (aAnd (aB (aOp aEq (aOp aIx (aVar 0) (aC (.d (.int 2)))) (aC (.d (.int 0))))) (aB (aOp aLt (aOp aIx (aVar 0) (aC (.d (.int 1)))) (aCB aLen (aCons (aOp aIx (aVar 0) (aC (.d (.int 0)))) aNil))))) (aSeq (aSet 2 (aOp aIx (aOp aIx (aVar 0) (aC (.d (.int 0)))) (aOp aIx (aVar 0) (aC (.d (.int 1)))))) (aSeq (aAsg (aOp aAdd (aOp aIx (aVar 0) (aC (.d (.int 1)))) (aC (.d (.int 1)))) (aGSub (aVar 0) (aC (.d (.int 1))) aSetL)) (aIfS (aB (aOp aGt (aVar 2) (aOp aPow (aC (.d (.int 10))) (aC (.d (.int 18)))))) (aAsg (aOp aSub (aVar 2) (aOp aPow (aC (.d (.int 10))) (aC (.d (.int 18))))) (aGSub (aVar 0) (aC (.d (.int 2))) aSetL)) (aAsg (aOp aMod (aCB aIntOf (aCons (aOp aAdd (aOp aMul (aOp aIx (aVar 0) (aC (.d (.int 3)))) (aC (.d (.int 16807)))) (aVar 2)) aNil)) (aC (.d (.int 2147483647)))) (aGSub (aVar 0) (aC (.d (.int 3))) aSetL))))) aNext) (aSeq (aIfS (aB (aOp aGt (aOp aIx (aVar 0) (aC (.d (.int 2)))) (aC (.d (.int 0))))) (aSeq (aSet 3 (aOp aMod (aCB aIntOf (aCons (aOp aIx (aVar 0) (aC (.d (.int 2)))) aNil)) (aVar 1))) (aSeq (aAsg (aOp aDiv (aOp aIx (aVar 0) (aC (.d (.int 2)))) (aVar 1)) (aGSub (aVar 0) (aC (.d (.int 2))) aSetL)) (aRet (aVar 3)))) aNext) (aSeq (aAsg (aOp aMod (aCB aIntOf (aCons (aOp aAdd (aOp aMul (aOp aIx (aVar 0) (aC (.d (.int 3)))) (aC (.d (.int 48271)))) (aC (.d (.int 12345)))) aNil)) (aC (.d (.int 2147483647)))) (aGSub (aVar 0) (aC (.d (.int 3))) aSetL)) (aSeq (aSet 4 (aOp aMul (aOp aMul (aOp aAdd (aOp aMod (aCB aIntOf (aCons (aOp aIx (aVar 0) (aC (.d (.int 3)))) aNil)) (aC (.d (.int 46337)))) (aC (.d (.int 1)))) (aOp aAdd (aOp aDiv (aOp aIx (aVar 0) (aC (.d (.int 3)))) (aC (.d (.int 46337)))) (aC (.d (.int 7))))) (aC (.d (.int 16807))))) (aRet (aOp aMod (aOp aDiv (aOp aMod (aCB aIntOf (aCons (aVar 4) aNil)) (aC (.d (.int 2147483629)))) (aC (.d (.int 32)))) (aVar 1)))))))
theorem len__law_pick : ∀ as κ R E', F__law_pick as κ R E' → as.length = (["source", "many"] : List Str).length := by
  rintro as κ R E' ⟨s, m, rfl, _⟩; rfl
theorem at_ints {ns : List Int} {i : Int} (h0 : 0 ≤ i) (h : i < ns.length) : ∃ v, atI (ns.map PyData.int) i = some (.int v) := by
  obtain ⟨j, rfl⟩ := Int.eq_ofNat_of_zero_le h0
  have hj : j < ns.length := by omega
  exact ⟨ns[j], atI_nat (by rw [List.getElem?_map, List.getElem?_eq_getElem hj]; rfl)⟩
theorem cp18 : CPow 10 18 := ⟨by decide, by decide, by decide⟩
theorem mod_small (a : Int) : -(2 ^ 64) < a % 46337 + 1 ∧ a % 46337 + 1 < 2 ^ 64 := by omega
theorem rd__law_pick : ∀ as κ R E', F__law_pick as κ R E' → a__law_pick K (endsA K κ.length R) (startA N__law_pick as) κ := by
  rintro as κ R E' ⟨s, m, rfl, rfl, ⟨ns, i, x, y, rfl, hi⟩, h0, h1, h⟩
  have fin : ∀ v ns i x y, 0 ≤ i → 0 ≤ v → v < m → (endsA K [srcK ns i x y].length R).rt (.d (.int v)) [srcK ns i x y] := fun v ns i x y hi hv hm => ⟨_, _, GhR.refl (Nat.le_refl _), h _ _ ⟨ns, i, x, y, rfl, hi⟩ hv hm⟩
  have hd : CDiv 0 m := ⟨h0, by omega⟩
  refine ⟨fun δ κ => ∃ i x y c, δ = [some (.c 0), some (.d (.int m)), c, none, none] ∧ κ = [srcK ns i x y] ∧ 0 ≤ i, ?_, ?_⟩
  · refine ⟨_, rfl, bsel_i (fun hx => ?_) fun _ => ⟨i, x, y, _, rfl, rfl, hi⟩⟩
    refine ⟨_, rfl, _, rfl, bsel_i (fun hl => ?_) fun _ => ⟨i, x, y, _, rfl, rfl, hi⟩⟩
    have hl' : i < ns.length := by have := of_decide_eq_true hl; simpa using this
    obtain ⟨v, hv⟩ := at_ints hi hl'
    refine ⟨_, rfl, _, rfl, _, hv, _, rfl, _, rfl, cp18, bsel_i (fun hb => ?_) fun hb => ?_⟩
    · exact ⟨cp18, _, rfl, _, _, _, _, rfl, rfl, by omega⟩
    · exact ⟨_, rfl, .inr (by decide), (by decide : (0 : Int) < 2147483647), _, rfl, _, _, _, _, rfl, rfl, by omega⟩
  · rintro δ κ ⟨i, x, y, c, rfl, rfl, hi⟩ _
    refine ⟨_, rfl, bsel_i (fun hx => ?_) fun _ => ?_⟩
    · refine ⟨_, rfl, h0, _, rfl, ⟨h0, by omega⟩, _, rfl, fin _ _ _ _ _ hi (Int.emod_nonneg _ (by omega)) (Int.emod_lt_of_pos _ h0)⟩
    · exact ⟨_, rfl, .inr (by decide), (by decide : (0 : Int) < 2147483647), _, rfl, _, rfl, (by decide : (0 : Int) < 46337), _, rfl, ⟨by decide, by decide⟩, .inl (mod_small _), .inr (by decide), (by decide : (0 : Int) < 2147483629), ⟨by decide, by decide⟩, h0, fin _ _ _ _ _ hi (Int.emod_nonneg _ (by omega)) (Int.emod_lt_of_pos _ h0)⟩

theorem sel0 {s : Cell} {κr : AK} (h : isSrc s) : selK [0] (s :: κr) = some [s] := by
  show (if clC s = true then some [s] else none) = _
  rw [if_pos h.cl.1]
theorem isSrc.fz {s : Cell} {k : Nat} {d : PyData} (h : isSrc s) : isSrc (fzC k d s) := by
  obtain ⟨ns, i, x, y, rfl, hi⟩ := h; exact ⟨ns, i, x, y, rfl, hi⟩
theorem cl1_ok {s c : Cell} (h : isSrc s) : (([s, c] : AK).take 1).all (okC 1) = true := by
  obtain ⟨ns, i, x, y, rfl, _⟩ := h; rfl
theorem cl1 {s : Cell} (h : isSrc s) : ([s] : AK).all clC = true := List.all_eq_true.mpr fun c hc => by rw [List.mem_singleton.mp hc]; exact h.cl.1
theorem pick_w {s : Cell} {κr : AK} {m : Int} {E : AX → AK → Prop} {R : AR} (hs : isSrc s) (h0 : 0 < m) (h1 : m < 1000000) (k : ∀ v s', isSrc s' → 0 ≤ v → v < m → R (.d (.int v)) (s' :: κr)) : callW F__law_pick E [.c 0, .d (.int m)] (s :: κr) R :=
  callW_i ⟨[0], _, _, by decide, rfl, sel0 hs, s, m, rfl, rfl, hs, h0, h1, fun v s' hs' hv0 hv => ⟨Nat.le_refl _, cl1 hs', rfl, k v s' hs' hv0 hv⟩⟩
/-! ### signs, names -/
def low (c : Nat) : Prop := 97 ≤ c ∧ c ≤ 122
def dig (c : Nat) : Prop := 48 ≤ c ∧ c ≤ 57
def run (c : Nat) : Prop := low c ∨ dig c
instance (c : Nat) : Decidable (low c) := by unfold low; exact inferInstance
instance (c : Nat) : Decidable (dig c) := by unfold dig; exact inferInstance
instance (c : Nat) : Decidable (run c) := by unfold run; exact inferInstance
def wordsL : List Str := ["pact", "end", "choice", "both", "loop", "use"]
def isName (z : Str) : Prop := (∃ c r, tl z = c :: r ∧ low c ∧ (∀ x ∈ r, run x) ∧ r.length ≤ 11) ∧ z ∉ wordsL
abbrev alnum : Str := "abcdefghijklmnopqrstuvwxyz0123456789"
theorem alnum_len : alnum.length = 36 := by decide +kernel
theorem alnum_mem {c : Nat} : c ∈ tl alnum ↔ run c := by
  have h : tl alnum = (List.range 26).map (97 + ·) ++ (List.range 10).map (48 + ·) := by decide +kernel
  rw [h, List.mem_append, List.mem_map, List.mem_map]
  unfold run low dig
  constructor
  · rintro (⟨i, hi, rfl⟩ | ⟨i, hi, rfl⟩) <;> rw [List.mem_range] at hi <;> omega
  · rintro (h | h)
    · exact .inl ⟨c - 97, by rw [List.mem_range]; omega, by omega⟩
    · exact .inr ⟨c - 48, by rw [List.mem_range]; omega, by omega⟩
theorem alnum_low : ∀ j : Nat, j < 26 → ∀ c, (tl alnum)[j]? = some c → low c := by
  have h : tl alnum = (List.range 26).map (97 + ·) ++ (List.range 10).map (48 + ·) := by decide +kernel
  intro j hj c hc
  rw [h, List.getElem?_append_left (by simpa using hj), List.getElem?_map, List.getElem?_range hj] at hc
  simp at hc
  unfold low; omega
theorem sl100 {n : Nat} (h : n ≤ 100000) : n ≤ sizeLine := Nat.le_trans h (by decide)
theorem al_sl : alnum.length ≤ sizeLine := by rw [alnum_len]; decide
/-- blanks -/
def blankC (c : Nat) : Prop := c = 32 ∨ c = 10
def isBlank (b : Str) : Prop := (∀ c ∈ tl b, blankC c) ∧ b.length ≤ 2
def F__law_blank : FSp := fun as κ R _ => ∃ s least, as = [.c 0, .d (.bool least)] ∧ κ = [s] ∧ isSrc s ∧ ∀ b s', isSrc s' → isBlank b → (least = true → b ≠ "") → R (.d (.str b)) [s']
abbrev N__law_blank : List Str := ["source", "least", "blank"]
def a__law_blank (K : PySem.W.Frag) : AS :=
  (aSeq (aSet 2 (aOp aIx (aLstD (aCons (aC (.d (.str ""))) (aCons (aC (.d (.str ""))) (aCons (aC (.d (.str " "))) (aCons (aC (.d (.str "\n"))) (aCons (aC (.d (.str "  "))) (aCons (aC (.d (.str " \n"))) aNil))))))) (aCall F__law_pick (fun _ _ => False) (aCons (aVar 0) (aCons (aC (.d (.int 6))) aNil))))) (aSeq (aIfS (aAnd (aB (aOp aEq (aVar 2) (aC (.d (.str ""))))) (aTru (aVar 1))) (aRet (aOp aIx (aLstD (aCons (aC (.d (.str " "))) (aCons (aC (.d (.str "\n"))) aNil))) (aCall F__law_pick (fun _ _ => False) (aCons (aVar 0) (aCons (aC (.d (.int 2))) aNil))))) aNext) (aRet (aVar 2))))
theorem len__law_blank : ∀ as κ R E', F__law_blank as κ R E' → as.length = (["source", "least"] : List Str).length := by
  rintro as κ R E' ⟨s, m, rfl, _⟩; rfl
theorem blanks6 {w : PyData} (h : w ∈ ([.str "", .str "", .str " ", .str "\n", .str "  ", .str " \n"] : List PyData)) : ∃ b, w = .str b ∧ isBlank b := by
  simp only [List.mem_cons, List.mem_nil_iff, or_false] at h
  rcases h with rfl | rfl | rfl | rfl | rfl | rfl <;> refine ⟨_, rfl, ?_, ?_⟩ <;> first | decide +kernel | (unfold blankC; decide +kernel)
theorem blanks2 {w : PyData} (h : w ∈ ([.str " ", .str "\n"] : List PyData)) : ∃ b, w = .str b ∧ isBlank b ∧ b ≠ "" := by
  simp only [List.mem_cons, List.mem_nil_iff, or_false] at h
  rcases h with rfl | rfl <;> refine ⟨_, rfl, ⟨?_, ?_⟩, ?_⟩ <;> first | decide +kernel | (unfold blankC; decide +kernel)
theorem rd__law_blank : ∀ as κ R E', F__law_blank as κ R E' → a__law_blank K (endsA K κ.length R) (startA N__law_blank as) κ := by
  rintro as κ R E' ⟨s, least, rfl, rfl, hs, h⟩
  have fin : ∀ s b, isSrc s → isBlank b → (least = true → b ≠ "") → (endsA K [s].length R).rt (.d (.str b)) [s] := fun s b h1 h2 h3 => ⟨_, _, GhR.refl (Nat.le_refl _), h _ _ h1 h2 h3⟩
  refine ⟨(show 6 ≤ sizeLine by decide), ?_⟩
  refine pick_w hs (by decide) (by decide) fun v s' hs' hv0 hv => ?_
  obtain ⟨w, hw, hm, _⟩ := at_mem (xs := ([.str "", .str "", .str " ", .str "\n", .str "  ", .str " \n"] : List PyData)) hv0 hv
  obtain ⟨b, rfl, hb⟩ := blanks6 hm
  refine ⟨_, hw, bsel_i (fun he => ?_) fun he => ?_⟩
  · cases least with
    | false => exact fin _ _ hs' hb (fun z => by cases z)
    | true =>
      refine ⟨(show 2 ≤ sizeLine by decide), ?_⟩
      refine pick_w hs' (by decide) (by decide) fun v s2 hs2 hv0 hv => ?_
      obtain ⟨w, hw, hm, _⟩ := at_mem (xs := ([.str " ", .str "\n"] : List PyData)) hv0 hv
      obtain ⟨b2, rfl, hb2, hn⟩ := blanks2 hm
      exact ⟨_, hw, fin _ _ hs2 hb2 fun _ => hn⟩
  · exact fin _ _ hs' hb fun _ => of_decide_eq_false he

theorem bsel_or {c d : Bool} {S F X : Prop} (h : (c || d) = true → S) (h' : (c || d) = false → F) (k : bsel d S F → X) : bsel c (bsel true S F) X := by
  cases c with
  | true => exact h rfl
  | false => exact k (by cases d with | true => exact h rfl | false => exact h' rfl)
/-! ### a name -/
def spare (i : Nat) : Str := "q" ++ Str.ofString (toString ((i : Nat) : Int))
theorem tl_q : tl "q" = [113] := by decide +kernel
theorem tl_spare (i : Nat) : tl (spare i) = 113 :: TL.numL i := by
  unfold spare
  rw [tl_app, tl_q]
  show [113] ++ TL.tl _ = _
  rw [TL.tl_num]; rfl
theorem spare_inj {i j : Nat} (h : spare i = spare j) : i = j := by
  have e := congrArg tl h
  rw [tl_spare, tl_spare] at e
  exact TL.numL_inj (List.cons.inj e).2
theorem words_heads : ∀ w ∈ wordsL, (tl w).head? ≠ some 113 := by decide +kernel
theorem spare_name {i : Nat} (h : i ≤ 100000) : isName (spare i) := by
  refine ⟨⟨113, TL.numL i, tl_spare i, by decide, fun x hx => ?_, ?_⟩, fun hm => ?_⟩
  · have := TL.numL_digits i x hx
    right; unfold dig; simpa using this
  · have := TL.numL_len (n := i) (k := 6) (by decide) (by omega); omega
  · have := words_heads _ hm
    rw [tl_spare] at this; exact this rfl
theorem spare_free (tk : List Str) : ∃ i, i < tk.length + 1 ∧ spare i ∉ tk := by
  apply Classical.byContradiction
  intro hn
  have all : ∀ i, i < tk.length + 1 → spare i ∈ tk := fun i hi => Classical.byContradiction fun h => hn ⟨i, hi, h⟩
  have nd : ((List.range (tk.length + 1)).map spare).Nodup := by
    rw [List.Nodup, List.pairwise_map]
    exact List.nodup_range.imp fun h e => h (spare_inj e)
  have := List.Nodup.length_le_of_subset nd (l₂ := tk) (fun x hx => by
    obtain ⟨i, hi, rfl⟩ := List.mem_map.mp hx
    exact all i (List.mem_range.mp hi))
  rw [List.length_map, List.length_range] at this
  omega
theorem wordsD : ([.str "pact", .str "end", .str "choice", .str "both", .str "loop", .str "use"] : List PyData) = wordsL.map .str := rfl
def F__law_name : FSp := fun as κ R _ => ∃ (s : Cell) (tk : List Str), as = [.c 0, .d (.list (tk.map .str))] ∧ κ = [s] ∧ isSrc s ∧ tk.length ≤ 10000 ∧ ∀ z s', isSrc s' → isName z → z ∉ tk → R (.d (.str z)) [s']
abbrev N__law_name : List Str := ["source", "taken", "letters", "name", "k", "spare", "one"]
def a__law_name (K : PySem.W.Frag) : AS :=
  (aSeq (aSet 2 (aC (.d (.str "abcdefghijklmnopqrstuvwxyz0123456789")))) (aSeq (aSet 3 (aOp aIx (aVar 2) (aCall F__law_pick (fun _ _ => False) (aCons (aVar 0) (aCons (aC (.d (.int 26))) aNil))))) (aSeq (aFor (aRng1 (aCons (aOp aIx (aLstD (aCons (aC (.d (.int 0))) (aCons (aC (.d (.int 0))) (aCons (aC (.d (.int 1))) (aCons (aC (.d (.int 2))) (aCons (aCall F__law_pick (fun _ _ => False) (aCons (aVar 0) (aCons (aC (.d (.int 12))) aNil))) aNil)))))) (aCall F__law_pick (fun _ _ => False) (aCons (aVar 0) (aCons (aC (.d (.int 5))) aNil)))) aNil)) (aName 4) (aSet 3 (aOp aAdd (aVar 3) (aOp aIx (aVar 2) (aCall F__law_pick (fun _ _ => False) (aCons (aVar 0) (aCons (aC (.d (.int 36))) aNil))))))) (aSeq (aIfS (aOr (aB (aOp (aIn id) (aVar 3) (aVar 1))) (aB (aOp (aIn id) (aVar 3) (aTup (aCons (aC (.d (.str "pact"))) (aCons (aC (.d (.str "end"))) (aCons (aC (.d (.str "choice"))) (aCons (aC (.d (.str "both"))) (aCons (aC (.d (.str "loop"))) (aCons (aC (.d (.str "use"))) aNil)))))))))) (aSeq (aSet 5 (aLc (aRng1 (aCons (aOp aAdd (aCB aLen (aCons (aVar 1) aNil)) (aC (.d (.int 1)))) aNil)) (aName 4) aYes (aOp aAdd (aC (.d (.str "q"))) (aCB aStrOf (aCons (aVar 4) aNil))) [4])) (aRet (aOp aIx (aLc (aIter (aVar 5)) (aName 6) (aB (aOp (aIn not) (aVar 6) (aVar 1))) (aVar 6) [6]) (aC (.d (.int 0)))))) aNext) (aRet (aVar 3))))))
theorem len__law_name : ∀ as κ R E', F__law_name as κ R E' → as.length = (["source", "taken"] : List Str).length := by
  rintro as κ R E' ⟨s, m, rfl, _⟩; rfl
def nmOf (z : Str) (i : Nat) : Prop := ∃ c r, tl z = c :: r ∧ low c ∧ (∀ x ∈ r, run x) ∧ r.length = i
theorem nmOf.len {z : Str} {i : Nat} (h : nmOf z i) : z.length = i + 1 := by
  obtain ⟨c, r, e, _, _, l⟩ := h
  rw [tl_len, e, List.length_cons, l]
theorem nmOf.snoc {z : Str} {i c : Nat} (h : nmOf z i) (hc : run c) : nmOf (z ++ ⟨#[c]⟩) (i + 1) := by
  obtain ⟨d, r, e, h1, h2, l⟩ := h
  refine ⟨d, r ++ [c], by rw [tl_app, e]; rfl, h1, fun x hx => ?_, by simp [l]⟩
  rcases List.mem_append.mp hx with z | z
  · exact h2 x z
  · rw [List.mem_singleton.mp z]; exact hc
theorem five {w : PyData} {v : Int} (h0 : 0 ≤ v) (h1 : v < 12) (h : w ∈ ([.int 0, .int 0, .int 1, .int 2, .int v] : List PyData)) : ∃ n : Int, w = .int n ∧ 0 ≤ n ∧ n ≤ 11 := by
  simp only [List.mem_cons, List.mem_nil_iff, or_false] at h
  rcases h with rfl | rfl | rfl | rfl | rfl <;> exact ⟨_, rfl, by omega, by omega⟩
theorem log_small {n : Int} (h0 : 0 ≤ n) (h : n < 20000) : n.natAbs.log2 < 1920 := by
  by_cases e : n.natAbs = 0
  · rw [e]; decide
  · exact Nat.lt_of_lt_of_le ((Nat.log2_lt e).mpr (show n.natAbs < 2 ^ 15 by omega)) (by decide)
theorem rd__law_name : ∀ as κ R E', F__law_name as κ R E' → a__law_name K (endsA K κ.length R) (startA N__law_name as) κ := by
  rintro as κ R E' ⟨s, tk, rfl, rfl, hs, htk, h⟩
  have fin : ∀ s z, isSrc s → isName z → z ∉ tk → (endsA K [s].length R).rt (.d (.str z)) [s] := fun s z h1 h2 h3 => ⟨_, _, GhR.refl (Nat.le_refl _), h _ _ h1 h2 h3⟩
  refine pick_w hs (by decide) (by decide) fun v s1 hs1 h0 h1 => ?_
  have la : (tl alnum).length = 36 := by rw [← tl_len]; exact alnum_len
  obtain ⟨c, hc, hm, hg⟩ := at_mem (xs := tl alnum) h0 (by omega)
  refine ⟨c, al_sl, hc, ?_⟩
  have hc1 := alnum_low v.toNat (by omega) c hg
  refine pick_w hs1 (by decide) (by decide) fun v2 s2 hs2 h20 h21 => ⟨(show 5 ≤ sizeLine by decide), ?_⟩
  refine pick_w hs2 (by decide) (by decide) fun v3 s3 hs3 h30 h31 => ?_
  obtain ⟨w, hw, hwm, _⟩ := at_mem (xs := ([.int 0, .int 0, .int 1, .int 2, .int v2] : List PyData)) h30 h31
  obtain ⟨n, rfl, hn0, hn1⟩ := five h20 h21 hwm
  refine ⟨_, hw, by omega, by omega, ?_⟩
  refine for_r (fun i δ κ => ∃ z k s, δ = [some (.c 0), some (.d (.list (tk.map .str))), some (.d (.str alnum)), some (.d (.str z)), k, none, none] ∧ κ = [s] ∧ isSrc s ∧ nmOf z i)
    ⟨_, _, s3, rfl, rfl, hs3, c, [], rfl, hc1, fun x hx => (by cases hx), rfl⟩ ?_ ?_
  · rintro δ κ ⟨z, k, s, rfl, rfl, hs, hz⟩ _
    refine ⟨rfl, flat_strs _, bsel_or (d := id (inD (.str z) (wordsL.map .str))) (fun ht => ?_) (fun ht => ?_) fun q => ⟨(show 6 ≤ sizeLine by decide), rfl, rfl, q⟩⟩
    · -- a spare name
      have ltk : (tk.map PyData.str).length = tk.length := List.length_map ..
      refine ⟨by omega, by omega, lc_r (fun i acc κ' => κ' = [s] ∧ acc = (List.range i).map fun i => .str (spare i)) ⟨rfl, rfl⟩ ?_ ?_⟩
      · rintro acc κ' ⟨rfl, rfl⟩
        rw [ltk]
        have e : ((tk.length : Int) + 1).toNat = tk.length + 1 := by omega
        rw [e]
        refine lc_d (fun i acc κ' => κ' = [s] ∧ ∃ l : List Str, acc = l.map .str ∧ l = (((List.range (tk.length + 1)).map spare).take i).filter fun x => decide (x ∉ tk)) ⟨rfl, [], rfl, rfl⟩ ?_ ?_
        · rintro acc κ' ⟨rfl, l, rfl, hl⟩
          rw [List.length_map, List.length_range, List.take_of_length_le (by simp)] at hl
          obtain ⟨i, hi, hf⟩ := spare_free tk
          have hmem : spare i ∈ l := by
            rw [hl, List.mem_filter]
            exact ⟨List.mem_map.mpr ⟨i, List.mem_range.mpr hi, rfl⟩, decide_eq_true hf⟩
          cases l with
          | nil => cases hmem
          | cons z0 l =>
            have hz0 : z0 ∈ ((List.range (tk.length + 1)).map spare).filter fun x => decide (x ∉ tk) := by rw [← hl]; exact List.mem_cons_self ..
            obtain ⟨y1, y2⟩ := List.mem_filter.mp hz0
            obtain ⟨j, hj, rfl⟩ := List.mem_map.mp y1
            rw [List.mem_range] at hj
            exact ⟨_, at_nat (j := 0) rfl, fin _ _ hs (spare_name (by omega)) (of_decide_eq_true y2)⟩
        · rintro i x acc κ' hx ⟨rfl, l, rfl, hl⟩
          rw [List.getElem?_map] at hx
          obtain ⟨j, hj, rfl⟩ := Option.map_eq_some_iff.mp hx
          have hlen : l.length ≤ 10001 := by
            rw [hl]
            refine Nat.le_trans (List.length_filter_le ..) (Nat.le_trans (List.length_take_le' ..) ?_)
            simp; omega
          have ht : ((List.range (tk.length + 1)).map spare)[i]? = some (spare j) := by rw [List.getElem?_map, hj]; rfl
          refine ⟨rfl, flat_strs _, bsel_i (fun hb => ⟨_, rfl, ?_, rfl, l ++ [spare j], by simp, ?_⟩) fun hb => ⟨rfl, l, rfl, ?_⟩⟩
          · rw [List.length_map]; exact Nat.lt_of_le_of_lt hlen (by decide)
          · rw [inD_str] at hb
            rw [List.take_add_one, ht, List.filter_append, ← hl]
            congr 1
            show [spare j] = List.filter _ [spare j]
            rw [List.filter_cons_of_pos (by simpa using hb)]; rfl
          · rw [inD_str] at hb
            rw [List.take_add_one, ht, List.filter_append, ← hl]
            show l = l ++ List.filter _ [spare j]
            rw [List.filter_cons_of_neg (by simpa using hb)]; simp
      · rintro i acc κ' hi ⟨rfl, rfl⟩
        have hi' : i < 10001 := by omega
        have e0 : (0 : Int) + (i : Int) = (i : Int) := Int.zero_add _
        rw [e0]
        refine ⟨log_small (by omega) (by omega), ?_, _, rfl, ?_, rfl, ?_⟩
        · have l1 : (Str.ofString (toString ((i : Nat) : Int))).length ≤ 6 := by
            rw [tl_len]
            show (TL.tl _).length ≤ 6
            rw [TL.tl_num]
            exact TL.numL_len (by decide) (by omega)
          have l2 : ("q" : Str).length = 1 := by decide +kernel
          exact sl100 (by omega)
        · rw [List.length_map, List.length_range]; exact Nat.lt_of_lt_of_le hi' (by decide)
        · rw [List.range_succ, List.map_append]; rfl
    · -- the name itself
      rw [Bool.or_eq_false_iff] at ht
      have h1 := ht.1
      have h2 := ht.2
      have h1' : inD (.str z) (tk.map .str) = false := h1
      have h2' : inD (.str z) (wordsL.map .str) = false := h2
      rw [inD_str] at h1' h2'
      obtain ⟨c, r, e1, e2, e3, e4⟩ := hz
      exact fin _ _ hs ⟨⟨c, r, e1, e2, e3, by omega⟩, of_decide_eq_false h2'⟩ (of_decide_eq_false h1')
  · rintro i δ κ hi ⟨z, k, s, rfl, rfl, hs, hz⟩ _
    refine pick_w hs (by decide) (by decide) fun v s1 hs1 h0 h1 => ?_
    obtain ⟨c, hc, hm, hg⟩ := at_mem (xs := tl alnum) h0 (by omega)
    refine ⟨c, al_sl, hc, ?_, _, _, s1, rfl, rfl, hs1, hz.snoc (alnum_mem.mp hm)⟩
    rw [hz.len]
    show i + 1 + 1 ≤ sizeLine
    exact sl100 (by omega)

/-! ### words spread over a text -/
def runFirst (w : Str) : Prop := ∃ c r, tl w = c :: r ∧ run c
def runLast (w : Str) : Prop := ∃ r c, tl w = r ++ [c] ∧ run c
abbrev Piece := Str × Str
def txt (ps : List Piece) : List Nat := ps.flatMap fun p => tl p.1 ++ tl p.2
/-- where the words stand -/
def plc (n : Nat) : List Piece → List Int
  | [] => []
  | p :: ps => ((n + p.1.length : Nat) : Int) :: plc (n + p.1.length + p.2.length) ps
theorem txt_snoc (ps : List Piece) (p : Piece) : txt (ps ++ [p]) = txt ps ++ (tl p.1 ++ tl p.2) := by
  unfold txt; rw [List.flatMap_append]; simp
theorem txt_len : ∀ ps : List Piece, (txt ps).length = (ps.map fun p => p.1.length + p.2.length).sum
  | [] => rfl
  | p :: ps => by
    have ih := txt_len ps
    unfold txt at ih ⊢
    rw [List.flatMap_cons, List.length_append, ih, List.length_append, ← tl_len, ← tl_len]; rfl
theorem plc_snoc : ∀ (n : Nat) (ps : List Piece) (p : Piece), plc n (ps ++ [p]) = plc n ps ++ [((n + (txt ps).length + p.1.length : Nat) : Int)]
  | n, [], p => rfl
  | n, q :: ps, p => by
    show _ :: plc _ (ps ++ [p]) = _ :: (plc _ ps ++ _)
    rw [plc_snoc _ ps p]
    congr 2
    have : (txt (q :: ps)).length = q.1.length + q.2.length + (txt ps).length := by
      unfold txt; rw [List.flatMap_cons, List.length_append, List.length_append, ← tl_len, ← tl_len]
    rw [this]
    congr 2; omega
def Sep (ps : List Piece) : Prop := ∀ (k : Nat) (p q : Piece), ps[k]? = some p → ps[k + 1]? = some q → runLast p.2 → runFirst q.2 → q.1 ≠ ""
structure Spread (ws : List Str) (text : Str) (places : List Int) : Prop where
  ex : ∃ (b0 bl : Str) (ps : List Piece), ps.map (·.2) = ws ∧ isBlank b0 ∧ isBlank bl ∧ (∀ p ∈ ps, isBlank p.1) ∧ Sep ps ∧ tl text = tl b0 ++ txt ps ++ tl bl ∧ places = plc b0.length ps
def F__law_spread : FSp := fun as κ R _ => ∃ (s : Cell) (ws : List Str), as = [.c 0, .d (.list (ws.map .str))] ∧ κ = [s] ∧ isSrc s ∧ ws.length ≤ 50000 ∧ (∀ w ∈ ws, w.length ≤ 100 ∧ w ≠ "") ∧
  ∀ text places s', isSrc s' → Spread ws text places → text.length ≤ 102 * ws.length + 4 → R (.d (.tuple [.str text, .list (places.map .int)])) [s']
abbrev N__law_spread : List Str := ["source", "words", "signs", "text", "places", "k"]
def a__law_spread (K : PySem.W.Frag) : AS :=
  (aSeq (aSet 2 (aC (.d (.str "abcdefghijklmnopqrstuvwxyz0123456789")))) (aSeq (aSet 3 (aCall F__law_blank (fun _ _ => False) (aCons (aVar 0) (aCons (aC (.d (.bool false))) aNil)))) (aSeq (aSet 4 (aLst aNil)) (aSeq (aFor (aRng1 (aCons (aCB aLen (aCons (aVar 1) aNil)) aNil)) (aName 5) (aSeq (aSet 3 (aOp aAdd (aVar 3) (aCall F__law_blank (fun _ _ => False) (aCons (aVar 0) (aCons (aAndV (aOp aGt (aVar 5) (aC (.d (.int 0)))) (aAndV (aOp (aIn id) (aOp aIx (aOp aIx (aVar 1) (aVar 5)) (aC (.d (.int 0)))) (aVar 2)) (aOp (aIn id) (aOp aIx (aOp aIx (aVar 1) (aOp aSub (aVar 5) (aC (.d (.int 1))))) (aUn aNeg (aC (.d (.int 1))))) (aVar 2)))) aNil))))) (aSeq (aDrop (aBM "list" aAppend (aVar 4) (aCons (aCB aLen (aCons (aVar 3) aNil)) aNil))) (aSet 3 (aOp aAdd (aVar 3) (aOp aIx (aVar 1) (aVar 5))))))) (aGh K (aRet (aTup (aCons (aOp aAdd (aVar 3) (aCall F__law_blank (fun _ _ => False) (aCons (aVar 0) (aCons (aC (.d (.bool false))) aNil)))) (aCons (aVar 4) aNil)))))))))
theorem len__law_spread : ∀ as κ R E', F__law_spread as κ R E' → as.length = (["source", "words"] : List Str).length := by
  rintro as κ R E' ⟨s, m, rfl, _⟩; rfl
theorem blank_w {s : Cell} {κr : AK} {b : Bool} {E : AX → AK → Prop} {R : AR} (hs : isSrc s) (k : ∀ z s', isSrc s' → isBlank z → (b = true → z ≠ "") → R (.d (.str z)) (s' :: κr)) : callW F__law_blank E [.c 0, .d (.bool b)] (s :: κr) R :=
  callW_i ⟨[0], _, _, by decide, rfl, sel0 hs, s, b, rfl, rfl, hs, fun z s' hs' hb hn => ⟨Nat.le_refl _, cl1 hs', rfl, k z s' hs' hb hn⟩⟩
theorem tl_empty : tl "" = [] := by decide +kernel
theorem ne_tl {w : Str} (h : w ≠ "") : tl w ≠ [] := fun e => h (tl_inj (e.trans tl_empty.symm))
theorem ne_first {w : Str} (h : w ≠ "") : ∃ c r, tl w = c :: r := by
  cases e : tl w with
  | nil => exact absurd e (ne_tl h)
  | cons c r => exact ⟨c, r, rfl⟩
theorem ne_last {w : Str} (h : w ≠ "") : ∃ r c, tl w = r ++ [c] := ⟨_, _, (List.dropLast_concat_getLast (ne_tl h)).symm⟩
theorem txt_le : ∀ {ps : List Piece}, (∀ p ∈ ps, isBlank p.1 ∧ p.2.length ≤ 100) → (txt ps).length ≤ 102 * ps.length
  | [], _ => Nat.le_refl _
  | p :: ps, h => by
    have ih := txt_le (ps := ps) fun q hq => h q (List.mem_cons_of_mem _ hq)
    obtain ⟨h1, h2⟩ := h p (List.mem_cons_self ..)
    have := h1.2
    unfold txt at ih ⊢
    rw [List.flatMap_cons, List.length_append, List.length_append, ← tl_len, ← tl_len, List.length_cons]
    omega
theorem andV_i {f g : AE} {δ : AD} {κ : AK} {R : AR} (a b : Bool) (hf : ∀ R', R' (.d (.bool a)) κ → f δ κ R') (hg : a = true → ∀ R', R' (.d (.bool b)) κ → g δ κ R') (h : R (.d (.bool (a && b))) κ) : aAndV f g δ κ R := by
  refine hf _ ?_
  cases a with
  | true => exact hg rfl _ h
  | false => exact h
theorem rd__law_spread : ∀ as κ R E', F__law_spread as κ R E' → a__law_spread K (endsA K κ.length R) (startA N__law_spread as) κ := by
  rintro as κ R E' ⟨s, ws, rfl, rfl, hs, hlen, hw, h⟩
  refine blank_w hs fun b0 s0 hs0 hb0 _ => ⟨Nat.zero_le _, ?_⟩
  have lw : (ws.map PyData.str).length = ws.length := List.length_map ..
  refine ⟨by omega, by omega, ?_⟩
  refine for_r (fun i δ κ => ∃ (text : Str) (s : Cell) (ps : List Piece) (k : Option AV), δ = [some (.c 0), some (.d (.list (ws.map .str))), some (.d (.str alnum)), some (.d (.str text)), some (.c 1), k] ∧
      κ = [s, .ld ((plc b0.length ps).map .int)] ∧ isSrc s ∧ ps.map (·.2) = ws.take i ∧ (∀ p ∈ ps, isBlank p.1) ∧ Sep ps ∧ tl text = tl b0 ++ txt ps)
    ⟨b0, s0, [], none, rfl, rfl, hs0, rfl, fun p hp => (by cases hp), fun k p q h => (by simp at h), by simp [txt]⟩ ?_ ?_
  · rintro δ κ ⟨text, s, ps, k, rfl, rfl, hs, hps, hb, hsep, ht⟩ _
    have e : ((ws.map PyData.str).length : Int).toNat = ws.length := by omega
    rw [e, List.take_length] at hps
    refine ⟨_, _, GhS.freeze (show 1 ≤ 2 by decide) 1 _ rfl, ?_⟩
    refine blank_w hs.fz fun bl s2 hs2 hbl _ => ?_
    have pl : ps.length = ws.length := by rw [← hps, List.length_map]
    have t1 : text.length = b0.length + (txt ps).length := by rw [tl_len, ht, List.length_append, ← tl_len]
    have t2 : (txt ps).length ≤ 102 * ps.length := txt_le fun p hp => ⟨hb p hp, (hw p.2 (by rw [← hps]; exact List.mem_map.mpr ⟨p, hp, rfl⟩)).1⟩
    have h1 := hb0.2
    have h2 := hbl.2
    refine ⟨Nat.le_trans (show text.length + bl.length ≤ 6000000 by omega) (by decide), (show 2 ≤ sizeLine by decide), _, _, GhR.take 1 (Nat.le_refl _) (show 1 ≤ 2 by decide) (cl1_ok hs2) rfl, h _ _ _ hs2 ⟨b0, bl, ps, hps, hb0, hbl, hb, hsep, by rw [tl_app, ht], rfl⟩ ?_⟩
    show (text ++ bl).length ≤ _
    rw [tl_len, tl_app, List.length_append, ← tl_len, ← tl_len]; omega
  · rintro i δ κ hi ⟨text, s, ps, k, rfl, rfl, hs, hps, hb, hsep, ht⟩ _
    have hi' : i < ws.length := by omega
    have ei : (0 : Int) + (i : Int) = (i : Int) := Int.zero_add _
    rw [ei]
    have hwi : (ws.map PyData.str)[i]? = some (.str ws[i]) := by rw [List.getElem?_map, List.getElem?_eq_getElem hi']; rfl
    obtain ⟨hl1, hne⟩ := hw _ (List.getElem_mem hi')
    obtain ⟨c, r, ec⟩ := ne_first hne
    have pl : ps.length = i := by
      have := congrArg List.length hps
      rw [List.length_map, List.length_take] at this; omega
    have t1 : text.length = b0.length + (txt ps).length := by rw [tl_len, ht, List.length_append, ← tl_len]
    have t2 : (txt ps).length ≤ 102 * ps.length := txt_le fun p hp => ⟨hb p hp, (hw p.2 (List.mem_of_mem_take (by rw [← hps]; exact List.mem_map.mpr ⟨p, hp, rfl⟩))).1⟩
    have h1 := hb0.2
    have hc0 : atI (tl ws[i]) 0 = some c := at_nat (j := 0) (by rw [ec]; rfl)
    -- the blank's condition
    have cond : ∃ least : Bool, (∀ p, ps[i - 1]? = some p → 0 < i → runLast p.2 → runFirst ws[i] → least = true) ∧ ∀ R' : AR, R' (.d (.bool least)) [s, .ld ((plc b0.length ps).map .int)] →
        aAndV (aOp aGt (aVar 5) (aC (.d (.int 0)))) (aAndV (aOp (aIn id) (aOp aIx (aOp aIx (aVar 1) (aVar 5)) (aC (.d (.int 0)))) (aVar 2)) (aOp (aIn id) (aOp aIx (aOp aIx (aVar 1) (aOp aSub (aVar 5) (aC (.d (.int 1))))) (aUn aNeg (aC (.d (.int 1))))) (aVar 2)))
          [some (.c 0), some (.d (.list (ws.map .str))), some (.d (.str alnum)), some (.d (.str text)), some (.c 1), some (.d (.int i))] [s, .ld ((plc b0.length ps).map .int)] R' := by
      by_cases h0 : i = 0
      · refine ⟨false, fun _ _ z => absurd h0 (by omega), fun R' h => andV_i false true (fun R2 h2 => ?_) (fun z => by cases z) h⟩
        show R2 (.d (.bool (decide ((0 : Int) < (i : Int))))) _
        rw [decide_eq_false (by omega)]; exact h2
      · have hj : i - 1 < ws.length := by omega
        obtain ⟨hlj, hnj⟩ := hw _ (List.getElem_mem hj)
        obtain ⟨r', c', ec'⟩ := ne_last hnj
        have hwj : (ws.map PyData.str)[i - 1]? = some (.str ws[i - 1]) := by rw [List.getElem?_map, List.getElem?_eq_getElem hj]; rfl
        refine ⟨true && (decide (c ∈ tl alnum) && decide (c' ∈ tl alnum)), fun p hp _ hl hf => ?_, fun R' h => andV_i true _ (fun R2 h2 => ?_) (fun _ R2 h2 => andV_i _ _ (fun R3 h3 => ?_) (fun _ R3 h3 => ?_) h2) h⟩
        · have e2 : p.2 = ws[i - 1] := by
            have := congrArg (fun l => l[i - 1]?) hps
            simp only [List.getElem?_map, hp, List.getElem?_take_of_lt (show i - 1 < i by omega), List.getElem?_eq_getElem hj] at this
            exact Option.some.inj this
          rw [e2] at hl
          obtain ⟨r2, c2, y1, y2⟩ := hl
          obtain ⟨c3, r3, y3, y4⟩ := hf
          rw [ec] at y3; cases y3
          rw [ec'] at y1
          obtain ⟨_, y5⟩ := List.append_inj' y1 rfl
          cases y5
          rw [Bool.true_and, Bool.and_eq_true, decide_eq_true_eq, decide_eq_true_eq]
          exact ⟨alnum_mem.mpr y4, alnum_mem.mpr y2⟩
        · show R2 (.d (.bool (decide ((0 : Int) < (i : Int))))) _
          rw [decide_eq_true (by omega)]; exact h2
        · exact ⟨_, at_nat hwi, c, sl100 (by omega), hc0, c, rfl, h3⟩
        · have ej : ((i : Int) - 1) = ((i - 1 : Nat) : Int) := by omega
          have hjv : atI (ws.map PyData.str) ((i : Int) - 1) = some (.str ws[i - 1]) := by rw [ej]; exact at_nat hwj
          refine ⟨_, hjv, c', sl100 (by omega), (by rw [show (ws[i - 1]).cps.toList = r' ++ [c'] from ec']; exact atI_last _ _), c', rfl, h3⟩
    obtain ⟨least, hleast, hcond⟩ := cond
    refine hcond _ (blank_w hs fun bl s2 hs2 hbl hn => ?_)
    have h2 := hbl.2
    refine ⟨Nat.le_trans (show text.length + bl.length ≤ 6000000 by omega) (by decide), ?_⟩
    have ltb : (text ++ bl).length = text.length + bl.length := by rw [tl_len, tl_app, List.length_append, ← tl_len, ← tl_len]
    refine ⟨rfl, Nat.le_trans (show (text ++ bl).length ≤ 6000000 by omega) (by decide), ?_, _, at_nat hwi, Nat.le_trans (show (text ++ bl).length + (ws[i]).length ≤ 6000000 by omega) (by decide), text ++ bl ++ ws[i], s2, ps ++ [(bl, ws[i])], _, rfl, ?_, hs2, ?_, ?_, ?_, ?_⟩
    · have lp : (plc b0.length ps).length = ps.length := by
        have : ∀ (n : Nat) (l : List Piece), (plc n l).length = l.length := by
          intro n l
          induction l generalizing n with
          | nil => rfl
          | cons p l ih => show (plc _ l).length + 1 = _; rw [ih]; rfl
        exact this _ _
      rw [List.length_map, lp]
      exact Nat.lt_of_lt_of_le (show ps.length < 60000 by omega) (by decide)
    · rw [plc_snoc, List.map_append]
      show [s2, Cell.ld (_ ++ [PyData.int ((text ++ bl).length : Nat)])] = _
      rw [ltb, t1]; rfl
    · rw [List.map_append, hps]
      show _ ++ [ws[i]] = _
      rw [List.take_add_one, List.getElem?_eq_getElem hi']; rfl
    · intro p hp
      rcases List.mem_append.mp hp with z | z
      · exact hb p z
      · rw [List.mem_singleton.mp z]; exact hbl
    · intro k p q hk hk1 hl hf
      by_cases hlt : k + 1 < ps.length
      · rw [List.getElem?_append_left (by omega)] at hk hk1
        exact hsep k p q hk hk1 hl hf
      · have hb' := (List.getElem?_eq_some_iff.mp hk1).1
        rw [List.length_append] at hb'
        have hb2 : ([(bl, ws[i])] : List Piece).length = 1 := rfl
        have ek : k + 1 = ps.length := by omega
        rw [List.getElem?_append_right (by omega), ek, Nat.sub_self] at hk1
        cases hk1
        rw [List.getElem?_append_left (by omega)] at hk
        have : k = i - 1 := by omega
        subst this
        exact hn (hleast p hk (by omega) hl hf)
    · rw [tl_app, tl_app, ht, txt_snoc]; simp

/-! ### the same -/
/-- data of a depth below n, lists not longer than a range may be -/
def sdep : Nat → PyData → Prop
  | 0, _ => False
  | n + 1, .list ds => ds.length < 2 ^ 62 ∧ ∀ d ∈ ds, sdep n d
  | n + 1, .tuple ds => ds.length < 2 ^ 62 ∧ ∀ d ∈ ds, sdep n d
  | _ + 1, .dict _ => False
  | _ + 1, _ => True
def F_same (n : Nat) : FSp := fun as κ R _ => ∃ d, sdep n d ∧ R (.d (.bool true)) κ ∧ ((as = [.d d, .d d] ∧ κ = []) ∨ (∃ ds, d = .list ds ∧ as = [.c 0, .d d] ∧ κ = [.ld ds]) ∨ ∃ x ds, d = .tuple [x, .list ds] ∧ as = [.c 0, .d d] ∧ κ = [.tup [.d x, .c 1], .ld ds])
def F__law_same : FSp := F_same 5
theorem sdep_mono : ∀ {n : Nat} {d : PyData}, sdep n d → sdep (n + 1) d
  | 0, _, h => h.elim
  | n + 1, .list ds, h => ⟨h.1, fun d hd => sdep_mono (h.2 d hd)⟩
  | n + 1, .tuple ds, h => ⟨h.1, fun d hd => sdep_mono (h.2 d hd)⟩
  | _ + 1, .dict _, h => h.elim
  | _ + 1, .none, _ => trivial
  | _ + 1, .bool _, _ => trivial
  | _ + 1, .int _, _ => trivial
  | _ + 1, .str _, _ => trivial
theorem len__law_same (n : Nat) : ∀ as κ R E', F_same n as κ R E' → as.length = (["actual", "due"] : List Str).length := by
  rintro as κ R E' ⟨d, _, _, ⟨rfl, _⟩ | ⟨ds, _, rfl, _⟩ | ⟨x, ds, _, rfl, _⟩⟩ <;> rfl
theorem rd0__law_same {as : List AV} {κ : AK} {R : AR} {E' : AX → AK → Prop} (h : F_same 0 as κ R E') : False := by
  obtain ⟨d, h, _⟩ := h; exact h
theorem same_w {n : Nat} {d : PyData} {κ : AK} {R : AR} {E : AX → AK → Prop} (hd : sdep n d) (h : R (.d (.bool true)) κ) : callW (F_same n) E [.d d, .d d] κ R :=
  callW_i ⟨[], _, _, .nil, rfl, rfl, d, hd, ⟨Nat.zero_le _, rfl, rfl, h⟩, .inl ⟨rfl, rfl⟩⟩
theorem tru_of {f : AE} {δ : AD} {κ : AK} {R : Bool → AK → Prop} (b : Bool) (h : f δ κ fun a κ1 => a = .d (.bool b) ∧ R b κ1) (mono : ∀ P Q : AR, (∀ a κ, P a κ → Q a κ) → f δ κ P → f δ κ Q) : aTru f δ κ R := mono _ _ (fun a κ1 ⟨e, q⟩ => by subst e; exact q) h
theorem kb_b : kitB "bool" "bool" = some true := by decide +kernel
theorem kb_i : kitB "int" "bool" = some false := by decide +kernel
theorem kb_s : kitB "str" "bool" = some false := by decide +kernel
theorem kb_l : kitB "list" "bool" = some false := by decide +kernel
theorem kb_t : kitB "tuple" "bool" = some false := by decide +kernel
theorem ki_i : kitB "int" "int" = some true := by decide +kernel
theorem ki_s : kitB "str" "int" = some false := by decide +kernel
theorem ki_l : kitB "list" "int" = some false := by decide +kernel
theorem ki_t : kitB "tuple" "int" = some false := by decide +kernel
theorem ks_s : kitB "str" "str" = some true := by decide +kernel
theorem ks_l : kitB "list" "str" = some false := by decide +kernel
theorem ks_t : kitB "tuple" "str" = some false := by decide +kernel
theorem kl_l : kitB "list" "list" = some true := by decide +kernel
theorem kl_t : kitB "tuple" "list" = some false := by decide +kernel
theorem kt_l : kitB "list" "tuple" = some false := by decide +kernel
theorem kt_t : kitB "tuple" "tuple" = some true := by decide +kernel
abbrev N__law_same : List Str := ["actual", "due", "k"]
def a__law_same (K : PySem.W.Frag) (F_self : FSp) : AS :=
  (aSeq (aIfS (aB (aOp (aIsN id) (aVar 1) (aC (.d .none)))) (aRet (aOp (aIsN id) (aVar 0) (aC (.d .none)))) aNext) (aSeq (aIfS (aTru (aCB aIsi (aCons (aVar 1) (aCons (aC (.r (.ty "bool"))) aNil)))) (aRet (aAndV (aCB aIsi (aCons (aVar 0) (aCons (aC (.r (.ty "bool"))) aNil))) (aOp aEq (aVar 0) (aVar 1)))) aNext) (aSeq (aIfS (aTru (aCB aIsi (aCons (aVar 1) (aCons (aC (.r (.ty "int"))) aNil)))) (aRet (aAndV (aCB aIsi (aCons (aVar 0) (aCons (aC (.r (.ty "int"))) aNil))) (aAndV (aNotV (aCB aIsi (aCons (aVar 0) (aCons (aC (.r (.ty "bool"))) aNil)))) (aOp aEq (aVar 0) (aVar 1))))) aNext) (aSeq (aIfS (aTru (aCB aIsi (aCons (aVar 1) (aCons (aC (.r (.ty "str"))) aNil)))) (aRet (aAndV (aCB aIsi (aCons (aVar 0) (aCons (aC (.r (.ty "str"))) aNil))) (aOp aEq (aVar 0) (aVar 1)))) aNext) (aSeq (aIfS (aOr (aB (aOp aNe (aCB aIsi (aCons (aVar 1) (aCons (aC (.r (.ty "list"))) aNil))) (aCB aIsi (aCons (aVar 0) (aCons (aC (.r (.ty "list"))) aNil))))) (aB (aOp aNe (aCB aIsi (aCons (aVar 1) (aCons (aC (.r (.ty "tuple"))) aNil))) (aCB aIsi (aCons (aVar 0) (aCons (aC (.r (.ty "tuple"))) aNil)))))) (aRet (aC (.d (.bool false)))) aNext) (aSeq (aIfS (aB (aOp aNe (aCB aLen (aCons (aVar 0) aNil)) (aCB aLen (aCons (aVar 1) aNil)))) (aRet (aC (.d (.bool false)))) aNext) (aSeq (aFor (aRng1 (aCons (aCB aLen (aCons (aVar 1) aNil)) aNil)) (aName 2) (aIfS (aNot (aTru (aCall F_self (fun _ _ => False) (aCons (aOp aIx (aVar 0) (aVar 2)) (aCons (aOp aIx (aVar 1) (aVar 2)) aNil))))) (aRet (aC (.d (.bool false)))) aNext)) (aRet (aC (.d (.bool true)))))))))))
theorem rd__law_same (n : Nat) : ∀ as κ R E', F_same (n + 1) as κ R E' → a__law_same K (F_same n) (endsA K κ.length R) (startA N__law_same as) κ := by
  rintro as κ R E' ⟨d, hd, hR, hv⟩
  have fin : (endsA K κ.length R).rt (.d (.bool true)) κ := ⟨_, _, GhR.refl (Nat.le_refl _), hR⟩
  have eqt : ∀ b : Bool, b = true → (endsA K κ.length R).rt (.d (.bool b)) κ := fun b e => by subst e; exact fin
  -- the items, one by one
  have items : ∀ (a b : AV) (ds : List PyData), ds.length < 2 ^ 62 → (∀ x ∈ ds, sdep n x) → ((a = .d (.list ds) ∧ b = .d (.list ds)) ∨ (a = .d (.tuple ds) ∧ b = .d (.tuple ds)) ∨ (a = .c 0 ∧ b = .d (.list ds) ∧ κ = [.ld ds])) →
      ForW (itR 0 ds.length) (aName 2) (aIfS (aNot (aTru (aCall (F_same n) (fun _ _ => False) (aCons (aOp aIx (aVar 0) (aVar 2)) (aCons (aOp aIx (aVar 1) (aVar 2)) aNil))))) (aRet (aC (.d (.bool false)))) aNext)
        { n := κ.length, nx := aRet (aC (.d (.bool true))) (endsA K κ.length R), rt := (endsA K κ.length R).rt, bk := (endsA K κ.length R).bk, ct := (endsA K κ.length R).ct } κ.length [some a, some b, none] κ := by
    intro a b ds hl hs hab
    refine for_r (fun i δ κ' => ∃ k, δ = [some a, some b, k] ∧ κ' = κ) ⟨none, rfl, rfl⟩ ?_ ?_
    · rintro δ κ' ⟨k, rfl, rfl⟩ _
      exact fin
    · rintro i δ κ' hi ⟨k, rfl, e⟩ _
      have e0 : (0 : Int) + (i : Int) = (i : Int) := Int.zero_add _
      have hx := List.getElem?_eq_getElem hi
      have hsi := hs _ (List.getElem_mem hi)
      rw [e0]
      rcases hab with ⟨rfl, rfl⟩ | ⟨rfl, rfl⟩ | ⟨rfl, rfl, rfl⟩
      · exact ⟨_, at_nat hx, _, at_nat hx, same_w hsi ⟨_, rfl, e⟩⟩
      · exact ⟨_, at_nat hx, _, at_nat hx, same_w hsi ⟨_, rfl, e⟩⟩
      · subst e; exact ⟨_, at_nat hx, _, at_nat hx, same_w hsi ⟨_, rfl, rfl⟩⟩
  rcases hv with ⟨rfl, rfl⟩ | ⟨ds, rfl, rfl, rfl⟩ | ⟨x, ds, rfl, rfl, rfl⟩
  · cases d with
    | none => exact fin
    | bool b => exact ⟨true, kb_b, true, kb_b, eqt _ (decide_eq_true rfl)⟩
    | int i => exact ⟨false, kb_i, true, ki_i, true, ki_i, false, kb_i, eqt _ (decide_eq_true rfl)⟩
    | str z => exact ⟨false, kb_s, false, ki_s, true, ks_s, true, ks_s, eqt _ (decide_eq_true rfl)⟩
    | list ds =>
      refine ⟨false, kb_l, false, ki_l, false, ks_l, true, kl_l, true, kl_l, false, kt_l, false, kt_l, bsel_i (fun h => by simp at h) fun _ => ?_⟩
      obtain ⟨hl, hs⟩ := hd
      refine ⟨by omega, by omega, ?_⟩
      exact items _ _ ds hl hs (.inl ⟨rfl, rfl⟩)
    | tuple ds =>
      refine ⟨false, kb_t, false, ki_t, false, ks_t, false, kl_t, false, kl_t, true, kt_t, true, kt_t, bsel_i (fun h => by simp at h) fun _ => ?_⟩
      obtain ⟨hl, hs⟩ := hd
      refine ⟨by omega, by omega, ?_⟩
      exact items _ _ ds hl hs (.inr (.inl ⟨rfl, rfl⟩))
    | dict _ => exact hd.elim
  · refine ⟨false, kb_l, false, ki_l, false, ks_l, true, kl_l, true, kl_l, false, kt_l, false, kt_l, bsel_i (fun h => by simp at h) fun _ => ?_⟩
    obtain ⟨hl, hs⟩ := hd
    refine ⟨by omega, by omega, ?_⟩
    exact items _ _ ds hl hs (.inr (.inr ⟨rfl, rfl, rfl⟩))
  · refine ⟨false, kb_t, false, ki_t, false, ks_t, false, kl_t, false, kl_t, true, kt_t, true, kt_t, ?_⟩
    obtain ⟨hl, hs⟩ := hd
    refine ⟨(show -(2 ^ 62) ≤ (2 : Int) by decide), (show (2 : Int) < 2 ^ 62 by decide), ?_⟩
    refine for_r (fun i δ κ' => ∃ k, δ = [some (.c 0), some (.d (.tuple [x, .list ds])), k] ∧ κ' = [.tup [.d x, .c 1], .ld ds]) ⟨none, rfl, rfl⟩ ?_ ?_
    · rintro δ κ' ⟨k, rfl, rfl⟩ _
      exact fin
    · rintro i δ κ' hi ⟨k, rfl, rfl⟩ _
      have hi : i < 2 := hi
      have hx := hs x (by simp)
      have hds := hs (.list ds) (by simp)
      have e : i = 0 ∨ i = 1 := by omega
      rcases e with rfl | rfl
      · exact ⟨_, at_nat (j := 0) rfl, _, at_nat (j := 0) rfl, same_w hx ⟨_, rfl, rfl⟩⟩
      · exact ⟨_, at_nat (j := 1) rfl, _, at_nat (j := 1) rfl, callW_i ⟨[1], _, _, by decide, rfl, rfl, .list ds, hds, ⟨Nat.le_refl _, rfl, rfl, ⟨_, rfl, rfl⟩⟩, .inr (.inl ⟨ds, rfl, rfl, rfl⟩)⟩⟩
theorem imp__law_same : ∀ as κ R E', F__law_same as κ R E' → F_same 5 as κ R E' := fun _ _ _ _ h => h
theorem source_w {ns : List Int} {κ : AK} {R : AR} {E : AX → AK → Prop} (h : ∀ s, isSrc s → R (.c κ.length) (κ ++ [s])) : callW F__law_source E [.d (.list (ns.map .int))] κ R :=
  callW_i ⟨[], _, _, .nil, rfl, rfl, ns, rfl, rfl, fun s hs => ⟨Nat.zero_le _, cl1 hs, List.all_eq_true.mpr fun c hc => (by have hc : c ∈ [s] := hc; rw [List.mem_singleton.mp hc]; exact hs.cl.2), h s hs⟩⟩
theorem name_w {s : Cell} {κr : AK} {tk : List Str} {E : AX → AK → Prop} {R : AR} (hs : isSrc s) (ht : tk.length ≤ 10000) (k : ∀ z s', isSrc s' → isName z → z ∉ tk → R (.d (.str z)) (s' :: κr)) : callW F__law_name E [.c 0, .d (.list (tk.map .str))] (s :: κr) R :=
  callW_i ⟨[0], _, _, by decide, rfl, sel0 hs, s, tk, rfl, rfl, hs, ht, fun z s' hs' hb hn => ⟨Nat.le_refl _, cl1 hs', rfl, k z s' hs' hb hn⟩⟩
theorem spread_w {s : Cell} {κr : AK} {ws : List Str} {E : AX → AK → Prop} {R : AR} (hs : isSrc s) (h1 : ws.length ≤ 50000) (h2 : ∀ w ∈ ws, w.length ≤ 100 ∧ w ≠ "")
    (k : ∀ text places s', isSrc s' → Spread ws text places → text.length ≤ 102 * ws.length + 4 → R (.d (.tuple [.str text, .list (places.map .int)])) (s' :: κr)) : callW F__law_spread E [.c 0, .d (.list (ws.map .str))] (s :: κr) R :=
  callW_i ⟨[0], _, _, by decide, rfl, sel0 hs, s, ws, rfl, rfl, hs, h1, h2, fun t p s' hs' hb hn => ⟨Nat.le_refl _, cl1 hs', rfl, k t p s' hs' hb hn⟩⟩
end Com
set_option Elab.async false
set_option linter.all false
set_option maxRecDepth 100000
set_option maxHeartbeats 4000000
/-! Dra: the source of draws of the table laws, names -/
namespace Tab
open PySem L2 Ab Com
variable {K : PySem.W.Frag}
/-! ### the state -/
def stK (ns : List Int) (i a k : Int) (b : Bool) : Cell := .ld [.list (ns.map .int), .int i, .int a, .int k, .bool b, .int 500]
def isSt (c : Cell) : Prop := ∃ ns i a k b, c = stK ns i a k b ∧ 0 ≤ i
theorem isSt.cl {c : Cell} (h : isSt c) : clC c = true ∧ liveC c = true := by
  obtain ⟨ns, i, a, k, b, rfl, _⟩ := h
  exact ⟨rfl, rfl⟩
theorem isSt.ok {c : Cell} (h : isSt c) (m : Nat) : okC m c = true := by
  obtain ⟨ns, i, a, k, b, rfl, _⟩ := h; rfl
theorem isSt.fz {s : Cell} {k : Nat} {d : PyData} (h : isSt s) : isSt (fzC k d s) := by
  obtain ⟨ns, i, a, k, b, rfl, hi⟩ := h; exact ⟨ns, i, a, k, b, rfl, hi⟩
theorem sel0t {s : Cell} {κr : AK} (h : isSt s) : selK [0] (s :: κr) = some [s] := by
  show (if clC s = true then some [s] else none) = _
  rw [if_pos h.cl.1]
theorem cl1t {s : Cell} (h : isSt s) : ([s] : AK).all clC = true := List.all_eq_true.mpr fun c hc => by rw [List.mem_singleton.mp hc]; exact h.cl.1
def F__law_state : FSp := fun as κ R _ => ∃ ns : List Int, as = [.d (.list (ns.map .int))] ∧ κ = [] ∧ ∀ s, isSt s → R (.c 0) [s]
abbrev N__law_state : List Str := ["script"]
def a__law_state (K : PySem.W.Frag) : AS :=
  (aRet (aLst (aCons (aCB (aListOf false) (aCons (aVar 0) aNil)) (aCons (aC (.d (.int 0))) (aCons (aC (.d (.int 0))) (aCons (aC (.d (.int 0))) (aCons (aC (.d (.bool false))) (aCons (aC (.d (.int 500))) aNil))))))))
theorem len__law_state : ∀ as κ R E', F__law_state as κ R E' → as.length = (["script"] : List Str).length := by
  rintro as κ R E' ⟨ns, rfl, _⟩; rfl
theorem rd__law_state : ∀ as κ R E', F__law_state as κ R E' → a__law_state K (endsA K κ.length R) (startA N__law_state as) κ := by
  rintro as κ R E' ⟨ns, rfl, rfl, h⟩
  exact ⟨(show 6 ≤ sizeLine by decide), _, _, GhR.refl (Nat.zero_le _), h _ ⟨ns, 0, 0, 0, false, rfl, by decide⟩⟩
def F__law_draw : FSp := fun as κ R _ => ∃ s m, as = [.c 0, .d (.int m)] ∧ κ = [s] ∧ isSt s ∧ 0 < m ∧ m < 1073741824 ∧ ∀ v s', isSt s' → 0 ≤ v → v < m → R (.d (.int v)) [s']
abbrev N__law_draw : List Str := ["state", "limit", "cell", "digit", "mixed"]
def a__law_draw (K : PySem.W.Frag) : AS :=
  (aCut (aIfS (aB (aOp aEq (aOp aIx (aVar 0) (aC (.d (.int 3)))) (aC (.d (.int 0))))) (aSeq (aIfS (aB (aOp aGe (aOp aIx (aVar 0) (aC (.d (.int 1)))) (aCB aLen (aCons (aOp aIx (aVar 0) (aC (.d (.int 0)))) aNil)))) (aRet (aC (.d (.int 0)))) aNext) (aSeq (aSet 2 (aOp aIx (aOp aIx (aVar 0) (aC (.d (.int 0)))) (aOp aIx (aVar 0) (aC (.d (.int 1)))))) (aCut (aIfS (aB (aOp aLt (aVar 2) (aC (.d (.int 0))))) (aSet 2 (aOp aSub (aUn aNeg (aC (.d (.int 1)))) (aVar 2))) aNext) (aSeq (aAsg (aOp aAdd (aOp aIx (aVar 0) (aC (.d (.int 1)))) (aC (.d (.int 1)))) (aGSub (aVar 0) (aC (.d (.int 1))) aSetL)) (aSeq (aAsg (aVar 2) (aGSub (aVar 0) (aC (.d (.int 2))) aSetL)) (aSeq (aAsg (aOp aGe (aVar 2) (aOp aPow (aC (.d (.int 10))) (aC (.d (.int 18))))) (aGSub (aVar 0) (aC (.d (.int 4))) aSetL)) (aSeq (aAsg (aC (.d (.int 6))) (aGSub (aVar 0) (aC (.d (.int 3))) aSetL)) (aIfS (aTru (aOp aIx (aVar 0) (aC (.d (.int 4))))) (aAsg (aC (.d (.int 60))) (aGSub (aVar 0) (aC (.d (.int 3))) aSetL)) aNext)))))))) aNext) (aSeq (aAsg (aOp aSub (aOp aIx (aVar 0) (aC (.d (.int 3)))) (aC (.d (.int 1)))) (aGSub (aVar 0) (aC (.d (.int 3))) aSetL)) (aSeq (aIfS (aTru (aOp aIx (aVar 0) (aC (.d (.int 4))))) (aSeq (aSet 3 (aOp aMod (aCB aIntOf (aCons (aOp aIx (aVar 0) (aC (.d (.int 2)))) aNil)) (aVar 1))) (aSeq (aAsg (aOp aDiv (aOp aIx (aVar 0) (aC (.d (.int 2)))) (aVar 1)) (aGSub (aVar 0) (aC (.d (.int 2))) aSetL)) (aCut (aIfS (aB (aOp aEq (aOp aIx (aVar 0) (aC (.d (.int 2)))) (aC (.d (.int 0))))) (aAsg (aC (.d (.int 0))) (aGSub (aVar 0) (aC (.d (.int 3))) aSetL)) aNext) (aRet (aVar 3))))) aNext) (aSeq (aSet 4 (aOp aMod (aCB aIntOf (aCons (aOp aAdd (aOp aAdd (aOp aMul (aOp aIx (aVar 0) (aC (.d (.int 2)))) (aC (.d (.int 48271)))) (aOp aMul (aOp aIx (aVar 0) (aC (.d (.int 3)))) (aC (.d (.int 69621))))) (aC (.d (.int 7)))) aNil)) (aC (.d (.int 2147483647))))) (aSeq (aSet 4 (aOp aMod (aCB aIntOf (aCons (aOp aAdd (aOp aAdd (aOp aMul (aVar 4) (aVar 4)) (aOp aMul (aOp aIx (aVar 0) (aC (.d (.int 2)))) (aC (.d (.int 31))))) (aOp aIx (aVar 0) (aC (.d (.int 3))))) aNil)) (aC (.d (.int 1000003))))) (aRet (aOp aMod (aCB aIntOf (aCons (aVar 4) aNil)) (aVar 1))))))))
theorem len__law_draw : ∀ as κ R E', F__law_draw as κ R E' → as.length = (["state", "limit"] : List Str).length := by
  rintro as κ R E' ⟨s, m, rfl, _⟩; rfl
theorem m_small (a b : Int) (hb : 0 < b) (hb2 : b ≤ 2147483647) : -(2 ^ 64) < a % b ∧ a % b < 2 ^ 64 := by
  have h1 := Int.emod_nonneg a (show b ≠ 0 by omega)
  have h2 := Int.emod_lt_of_pos a hb
  omega
theorem rd__law_draw : ∀ as κ R E', F__law_draw as κ R E' → a__law_draw K (endsA K κ.length R) (startA N__law_draw as) κ := by
  rintro as κ R E' ⟨s, m, rfl, rfl, ⟨ns, i, a, k, b, rfl, hi⟩, h0, h1, h⟩
  have fin : ∀ v ns i a k b, 0 ≤ i → 0 ≤ v → v < m → (endsA K [stK ns i a k b].length R).rt (.d (.int v)) [stK ns i a k b] := fun v ns i a k b hi hv hm => ⟨_, _, GhR.refl (Nat.le_refl _), h _ _ ⟨ns, i, a, k, b, rfl, hi⟩ hv hm⟩
  have cp18 : CPow 10 18 := ⟨by decide, by decide, by decide⟩
  have hd : CDiv 0 m := ⟨h0, by omega⟩
  refine ⟨fun δ κ => ∃ i a k b c, δ = [some (.c 0), some (.d (.int m)), c, none, none] ∧ κ = [stK ns i a k b] ∧ 0 ≤ i, ?_, ?_⟩
  · refine ⟨_, rfl, bsel_i (fun hx => ?_) fun _ => ⟨i, a, k, b, _, rfl, rfl, hi⟩⟩
    refine ⟨_, rfl, _, rfl, bsel_i (fun hl => ⟨_, _, GhR.refl (Nat.le_refl _), h _ _ ⟨ns, i, a, k, b, rfl, hi⟩ (Int.le_refl _) h0⟩) fun hl => ?_⟩
    have hl' : i < ns.length := by
      have : ¬ (((ns.map PyData.int).length : Nat) : Int) ≤ i := of_decide_eq_false hl
      rw [List.length_map] at this; omega
    obtain ⟨v, hv⟩ := at_ints hi hl'
    refine ⟨_, rfl, _, rfl, _, hv, ?_⟩
    refine ⟨fun δ κ => ∃ v, δ = [some (.c 0), some (.d (.int m)), some (.d (.int v)), none, none] ∧ κ = [stK ns i a k b], bsel_i (fun _ => ⟨_, rfl, rfl⟩) fun _ => ⟨_, rfl, rfl⟩, ?_⟩
    rintro δ κ ⟨v, rfl, rfl⟩ _
    refine ⟨_, rfl, _, rfl, _, rfl, cp18, _, rfl, _, rfl, _, rfl, bsel_i (fun _ => ?_) fun _ => ?_⟩
    · exact ⟨_, rfl, _, _, _, _, _, rfl, rfl, by omega⟩
    · exact ⟨_, _, _, _, _, rfl, rfl, by omega⟩
  · rintro δ κ ⟨i, a, k, b, c, rfl, rfl, hi⟩ _
    refine ⟨_, rfl, _, rfl, _, rfl, ?_⟩
    refine bsel_i (fun hb => ?_) fun hb => ?_
    · refine ⟨_, rfl, h0, _, rfl, ⟨h0, by omega⟩, _, rfl, ?_⟩
      refine ⟨fun δ κ => ∃ c x k', δ = [some (.c 0), some (.d (.int m)), c, some (.d (.int (a % m))), x] ∧ κ = [stK ns i (a / m) k' b], ?_, ?_⟩
      · refine ⟨_, rfl, bsel_i (fun _ => ⟨_, rfl, _, _, _, rfl, rfl⟩) fun _ => ⟨_, _, _, rfl, rfl⟩⟩
      · rintro δ κ ⟨c, x, k', rfl, rfl⟩ _
        exact fin _ _ _ _ _ _ hi (Int.emod_nonneg _ (by omega)) (Int.emod_lt_of_pos _ h0)
    · exact ⟨_, rfl, .inr (by decide), _, rfl, .inr (by decide), (by decide : (0 : Int) < 2147483647), .inl (m_small _ _ (by decide) (by decide)), _, rfl, .inr (by decide), _, rfl, (by decide : (0 : Int) < 1000003), h0, fin _ _ _ _ _ _ hi (Int.emod_nonneg _ (by omega)) (Int.emod_lt_of_pos _ h0)⟩
theorem state_w {ns : List Int} {κ : AK} {R : AR} {E : AX → AK → Prop} (h : ∀ s, isSt s → R (.c κ.length) (κ ++ [s])) : callW F__law_state E [.d (.list (ns.map .int))] κ R :=
  callW_i ⟨[], _, _, .nil, rfl, rfl, ns, rfl, rfl, fun s hs => ⟨Nat.zero_le _, cl1t hs, List.all_eq_true.mpr fun c hc => (by have hc : c ∈ [s] := hc; rw [List.mem_singleton.mp hc]; exact hs.cl.2), h s hs⟩⟩
theorem draw_w {s : Cell} {κr : AK} {m : Int} {E : AX → AK → Prop} {R : AR} (hs : isSt s) (h0 : 0 < m) (h1 : m < 1073741824) (k : ∀ v s', isSt s' → 0 ≤ v → v < m → R (.d (.int v)) (s' :: κr)) : callW F__law_draw E [.c 0, .d (.int m)] (s :: κr) R :=
  callW_i ⟨[0], _, _, by decide, rfl, sel0t hs, s, m, rfl, rfl, hs, h0, h1, fun v s' hs' hv0 hv => ⟨Nat.le_refl _, cl1t hs', rfl, k v s' hs' hv0 hv⟩⟩
/-! ### a name -/
theorem first_low : ∀ j : Nat, j < 26 → ∃ c, (tl "abcdefghijklmnopqrstuvwxyz")[j]? = some c ∧ low c := by
  have h : tl "abcdefghijklmnopqrstuvwxyz" = (List.range 26).map (97 + ·) := by decide +kernel
  intro j hj
  refine ⟨97 + j, by rw [h, List.getElem?_map, List.getElem?_range hj]; rfl, ?_⟩
  unfold low; omega
theorem other_run : ∀ j : Nat, j < 36 → ∃ c, (tl ("abcdefghijklmnopqrstuvwxyz" ++ "0123456789" : Str))[j]? = some c ∧ run c := by
  intro j hj
  have e : ("abcdefghijklmnopqrstuvwxyz" ++ "0123456789" : Str) = alnum := by decide +kernel
  rw [e]
  have la : (tl alnum).length = 36 := by rw [← tl_len]; exact alnum_len
  have hj' : j < (tl alnum).length := by omega
  exact ⟨(tl alnum)[j], List.getElem?_eq_getElem hj', alnum_mem.mp (List.getElem_mem hj')⟩
theorem ab_len : ("abcdefghijklmnopqrstuvwxyz" : Str).length = 26 := by decide +kernel
theorem dg_len : ("0123456789" : Str).length = 10 := by decide +kernel
theorem ot_len : ("abcdefghijklmnopqrstuvwxyz" ++ "0123456789" : Str).length = 36 := by decide +kernel
/-- a low sign and up to 11 more -/
def nmL (z : Str) : Prop := ∃ c r, tl z = c :: r ∧ low c ∧ (∀ x ∈ r, run x) ∧ r.length ≤ 11
theorem words_no_digit : ∀ w ∈ wordsL, (tl w).getLast? ≠ some 49 := by decide +kernel
theorem words_len7 : ∀ w ∈ wordsL, w.length ≤ 6 := by decide +kernel
def F__law_name : FSp := fun as κ R _ => ∃ s : Cell, as = [.c 0] ∧ κ = [s] ∧ isSt s ∧ ∀ z s', isSt s' → isName z → R (.d (.str z)) [s']
abbrev N__law_name : List Str := ["state", "first", "other", "number", "name", "tail"]
def a__law_name (K : PySem.W.Frag) : AS :=
  (aSeq (aSet 1 (aC (.d (.str "abcdefghijklmnopqrstuvwxyz")))) (aSeq (aSet 2 (aOp aAdd (aVar 1) (aC (.d (.str "0123456789"))))) (aSeq (aSet 3 (aCall F__law_draw (fun _ _ => False) (aCons (aVar 0) (aCons (aC (.d (.int 134784))) aNil)))) (aSeq (aSet 4 (aOp aIx (aVar 1) (aOp aMod (aCB aIntOf (aCons (aOp aDiv (aVar 3) (aC (.d (.int 4)))) aNil)) (aC (.d (.int 26)))))) (aSeq (aSet 5 (aOp aAdd (aOp aAdd (aOp aIx (aVar 2) (aOp aMod (aCB aIntOf (aCons (aOp aDiv (aVar 3) (aC (.d (.int 104)))) aNil)) (aC (.d (.int 36))))) (aOp aIx (aVar 2) (aOp aMod (aCB aIntOf (aCons (aOp aDiv (aVar 3) (aC (.d (.int 3744)))) aNil)) (aC (.d (.int 36)))))) (aOp aIx (aVar 2) (aOp aMod (aCB aIntOf (aCons (aVar 3) aNil)) (aC (.d (.int 35))))))) (aCut (aIfS (aB (aOp aEq (aCall F__law_draw (fun _ _ => False) (aCons (aVar 0) (aCons (aC (.d (.int 9))) aNil))) (aC (.d (.int 8))))) (aSet 4 (aSl (aOp aAdd (aVar 4) (aOp aMulT (aVar 5) (aC (.d (.int 4))))) aNoPart (aPart (aOp aAdd (aC (.d (.int 4))) (aCall F__law_draw (fun _ _ => False) (aCons (aVar 0) (aCons (aC (.d (.int 9))) aNil))))))) (aSet 4 (aOp aAdd (aVar 4) (aSl (aVar 5) aNoPart (aPart (aOp aMod (aCB aIntOf (aCons (aVar 3) aNil)) (aC (.d (.int 4))))))))) (aSeq (aIfS (aB (aOp (aIn id) (aVar 4) (aLstD (aCons (aC (.d (.str "pact"))) (aCons (aC (.d (.str "end"))) (aCons (aC (.d (.str "choice"))) (aCons (aC (.d (.str "both"))) (aCons (aC (.d (.str "loop"))) (aCons (aC (.d (.str "use"))) aNil))))))))) (aRet (aOp aAdd (aVar 4) (aC (.d (.str "1"))))) aNext) (aRet (aVar 4)))))))))
theorem len__law_name : ∀ as κ R E', F__law_name as κ R E' → as.length = (["state"] : List Str).length := by
  rintro as κ R E' ⟨s, rfl, _⟩; rfl
theorem cut_to (s : Str) (n : Nat) : tl (cutS s none (some (n : Int))) = (tl s).take n := by
  show ((tl s).drop 0).take (HT.sIx s.length s.length (some (n : Int)) - 0) = _
  rw [HT.sIx_nat, List.drop_zero, Nat.sub_zero, tl_len]
  by_cases h : n ≤ (tl s).length
  · rw [Nat.min_eq_left h]
  · rw [Nat.min_eq_right (by omega), List.take_of_length_le (Nat.le_refl _), List.take_of_length_le (by omega)]
theorem mul4 {t : Str} (h : t.length = 3) : tl (Txt.mul t 4) = tl t ++ tl t ++ tl t ++ tl t := by
  unfold Txt.mul
  rw [if_neg (by decide), if_neg (by rw [h]; decide)]
  show ((List.replicate 4 t.cps).foldl (· ++ ·) #[]).toList = _
  simp [List.replicate]
theorem nm_take {z : Str} {c : Nat} {r : List Nat} {n : Nat} (e : tl z = (c :: r).take (n + 1)) (hc : low c) (hr : ∀ x ∈ r, run x) (hn : n ≤ 11) : nmL z := by
  refine ⟨c, r.take n, by rw [e]; rfl, hc, fun x hx => hr x (List.mem_of_mem_take hx), ?_⟩
  rw [List.length_take]; omega
theorem rd__law_name : ∀ as κ R E', F__law_name as κ R E' → a__law_name K (endsA K κ.length R) (startA N__law_name as) κ := by
  rintro as κ R E' ⟨s, rfl, rfl, hs, h⟩
  have fin : ∀ s z, isSt s → isName z → (endsA K [s].length R).rt (.d (.str z)) [s] := fun s z h1 h2 => ⟨_, _, GhR.refl (Nat.le_refl _), h _ _ h1 h2⟩
  refine ⟨by rw [ab_len, dg_len]; decide, ?_⟩
  refine draw_w hs (by decide) (by decide) fun v s1 hs1 h0 h1 => ?_
  have ix : ∀ (w b : Int), 0 < b → ∃ j : Nat, w % b = (j : Int) ∧ (j : Int) < b := fun w b hb => by
    have h2 := Int.emod_nonneg w (show b ≠ 0 by omega)
    have h3 := Int.emod_lt_of_pos w hb
    exact ⟨(w % b).toNat, by omega, by omega⟩
  obtain ⟨j1, e1, l1⟩ := ix (v / 4) 26 (by decide)
  obtain ⟨c1, g1, hc1⟩ := first_low j1 (by omega)
  obtain ⟨j2, e2, l2⟩ := ix (v / 104) 36 (by decide)
  obtain ⟨c2, g2, hc2⟩ := other_run j2 (by omega)
  obtain ⟨j3, e3, l3⟩ := ix (v / 3744) 36 (by decide)
  obtain ⟨c3, g3, hc3⟩ := other_run j3 (by omega)
  obtain ⟨j4, e4, l4⟩ := ix v 35 (by decide)
  obtain ⟨c4, g4, hc4⟩ := other_run j4 (by omega)
  obtain ⟨j5, e5, l5⟩ := ix v 4 (by decide)
  have ol : ("abcdefghijklmnopqrstuvwxyz" ++ "0123456789" : Str).length ≤ sizeLine := by rw [ot_len]; decide
  refine ⟨⟨by decide, by decide⟩, (by decide : (0 : Int) < 26), c1, by rw [ab_len]; decide, by show atI _ (v / 4 % 26) = _; rw [e1]; exact at_nat g1, ?_⟩
  refine ⟨⟨by decide, by decide⟩, (by decide : (0 : Int) < 36), c2, ol, by show atI _ (v / 104 % 36) = _; rw [e2]; exact at_nat g2, ⟨by decide, by decide⟩, (by decide : (0 : Int) < 36), c3, ol, by show atI _ (v / 3744 % 36) = _; rw [e3]; exact at_nat g3, (show 2 ≤ sizeLine by decide), (by decide : (0 : Int) < 35), c4, ol, by show atI _ (v % 35) = _; rw [e4]; exact at_nat g4, (show 3 ≤ sizeLine by decide), ?_⟩
  have htl : tl ((⟨#[c2]⟩ : Str) ++ ⟨#[c3]⟩ ++ ⟨#[c4]⟩) = [c2, c3, c4] := by rw [tl_app, tl_app]; rfl
  have hlen : ((⟨#[c2]⟩ : Str) ++ ⟨#[c3]⟩ ++ ⟨#[c4]⟩).length = 3 := by rw [tl_len, htl]; rfl
  generalize ((⟨#[c2]⟩ : Str) ++ ⟨#[c3]⟩ ++ ⟨#[c4]⟩) = tail at htl hlen
  have hrun : ∀ x ∈ [c2, c3, c4], run x := fun x hx => by
    simp only [List.mem_cons, List.mem_nil_iff, or_false] at hx
    rcases hx with rfl | rfl | rfl <;> assumption
  refine ⟨fun δ κ => ∃ s z x1 x2 x3 x5, δ = [some (.c 0), x1, x2, x3, some (.d (.str z)), x5] ∧ κ = [s] ∧ isSt s ∧ nmL z, ?_, ?_⟩
  · refine draw_w hs1 (by decide) (by decide) fun v2 s2 hs2 h20 h21 => bsel_i (fun _ => ?_) fun _ => ?_
    · have hm := mul4 hlen
      have hml : (Txt.mul tail 4).length = 12 := by rw [tl_len, hm, htl]; rfl
      refine ⟨by omega, by decide, by decide, ?_, draw_w hs2 (by decide) (by decide) fun v3 s3 hs3 h30 h31 => ⟨?_, s3, _, _, _, _, _, rfl, rfl, hs3, ?_⟩⟩
      · show 1 + (Txt.mul tail 4).length ≤ sizeLine
        rw [hml]; decide
      · rw [tl_len, tl_app, List.length_append, ← tl_len (Txt.mul tail 4), hml]
        show 1 + 12 ≤ sizeLine; decide
      · obtain ⟨n, hn⟩ : ∃ n : Nat, 4 + v3 = ((n + 1 : Nat) : Int) := ⟨(3 + v3).toNat, by omega⟩
        rw [hn]
        refine nm_take (c := c1) (r := tl (Txt.mul tail 4)) (n := n) ?_ hc1 (fun x hx => ?_) (by omega)
        · rw [cut_to, tl_app]; rfl
        · rw [hm, htl] at hx
          simp only [List.mem_append, List.mem_cons, List.mem_nil_iff, or_false] at hx
          rcases hx with ((hx | hx) | hx) | hx <;> exact hrun x (by simpa using hx)
    · refine ⟨(by decide : (0 : Int) < 4), by rw [hlen]; decide, ?_, s2, _, _, _, _, _, rfl, rfl, hs2, ?_⟩
      · show 1 + (cutS tail none (some (v % 4))).length ≤ sizeLine
        rw [e5, tl_len (cutS _ _ _), cut_to, htl]
        show 1 + (List.take j5 [c2, c3, c4]).length ≤ sizeLine
        rw [List.length_take]
        exact Nat.le_trans (show 1 + min j5 3 ≤ 4 by omega) (by decide)
      · show nmL ((⟨#[c1]⟩ : Str) ++ cutS tail none (some (v % 4)))
        rw [e5]
        refine nm_take (c := c1) (r := (tl tail).take j5) (n := j5) ?_ hc1 (fun x hx => hrun x (by rw [← htl]; exact List.mem_of_mem_take hx)) (by omega)
        rw [tl_app, cut_to]
        show c1 :: (tl tail).take j5 = c1 :: ((tl tail).take j5).take j5
        rw [List.take_take, Nat.min_self]
  · rintro δ κ ⟨s, z, x1, x2, x3, x5, rfl, rfl, hs, hz⟩ _
    obtain ⟨c, r, ez, hc, hr, hrl⟩ := hz
    refine ⟨(show 6 ≤ sizeLine by decide), rfl, rfl, bsel_i (fun hw => ?_) fun hw => ?_⟩
    · have hw : inD (.str z) (wordsL.map .str) = true := hw
      rw [inD_str] at hw
      have hl := words_len7 z (of_decide_eq_true hw)
      have hl1 : ("1" : Str).length = 1 := by decide +kernel
      have e1 : tl "1" = [49] := by decide +kernel
      have hrl6 : r.length ≤ 5 := by rw [tl_len, ez, List.length_cons] at hl; omega
      refine ⟨by rw [hl1]; exact sl100 (by omega), fin _ _ hs ⟨⟨c, r ++ [49], by rw [tl_app, ez, e1]; rfl, hc, fun x hx => ?_, by rw [List.length_append]; show r.length + 1 ≤ 11; omega⟩, fun hm => ?_⟩⟩
      · rcases List.mem_append.mp hx with q | q
        · exact hr x q
        · rw [List.mem_singleton.mp q]; exact .inr ⟨by decide, by decide⟩
      · refine words_no_digit _ hm ?_
        rw [tl_app, e1, List.getLast?_append]; rfl
    · have hw : inD (.str z) (wordsL.map .str) = false := hw
      rw [inD_str] at hw
      exact fin _ _ hs ⟨⟨c, r, ez, hc, hr, hrl⟩, of_decide_eq_false hw⟩
theorem name_tw {s : Cell} {κr : AK} {E : AX → AK → Prop} {R : AR} (hs : isSt s) (k : ∀ z s', isSt s' → isName z → R (.d (.str z)) (s' :: κr)) : callW F__law_name E [.c 0] (s :: κr) R :=
  callW_i ⟨[0], _, _, by decide, rfl, sel0t hs, s, rfl, rfl, hs, fun z s' hs' hb => ⟨Nat.le_refl _, cl1t hs', rfl, k z s' hs' hb⟩⟩
end Tab
set_option Elab.async false
set_option linter.all false
set_option maxRecDepth 100000
set_option maxHeartbeats 4000000
/-! K24a: records as rows of signs: when one begins a text -/
namespace Tab
open PySem L2 Ab Com
structure Ent where
  k : Str
  o : Str
  l : Str
  n : Nat
def num (n : Nat) : Str := Str.ofString (toString ((n : Nat) : Int))
theorem tl_num (n : Nat) : tl (num n) = TL.numL n := TL.tl_num n
def sumL (l : List Nat) : Nat := l.foldl (fun t c => (31 * t + c) % 9973) 7
def headS (e : Ent) : Str := e.k ++ " " ++ e.o ++ " " ++ e.l ++ " " ++ num e.n ++ " "
def recS (e : Ent) : Str := headS e ++ num (sumL (tl (headS e))) ++ "\n"
def entD (e : Ent) : PyData := .tuple [.str e.k, .str e.o, .str e.l, .int (e.n : Nat)]
def headL (e : Ent) : List Nat := tl e.k ++ 32 :: (tl e.o ++ 32 :: (tl e.l ++ 32 :: (TL.numL e.n ++ [32])))
def recL (e : Ent) : List Nat := headL e ++ (TL.numL (sumL (headL e)) ++ [10])
theorem tl_sp : tl " " = [32] := by decide +kernel
theorem tl_nl : tl "\n" = [10] := by decide +kernel
theorem tl_head (e : Ent) : tl (headS e) = headL e := by
  unfold headS headL
  simp only [tl_app, tl_sp, tl_num, List.append_assoc, List.cons_append, List.nil_append]
theorem tl_rec (e : Ent) : tl (recS e) = recL e := by
  unfold recS recL
  rw [tl_app, tl_app, tl_head, tl_num, tl_nl, List.append_assoc]
def kindsS : List Str := ["p", "k", "g", "t", "r", "a", "n", "y", "x", "w", "z"]
structure okR (e : Ent) : Prop where
  k : e.k ∈ kindsS
  o0 : tl e.o ≠ []
  o : 32 ∉ tl e.o
  l0 : tl e.l ≠ []
  l : 32 ∉ tl e.l
  n1 : 1 ≤ e.n
  n2 : e.n < 1000000000
theorem kinds_one : ∀ k ∈ kindsS, 32 ∉ tl k ∧ k.length = 1 := by decide +kernel
/-! ### numbers -/
theorem numL_dig {n c : Nat} (h : c ∈ TL.numL n) : 48 ≤ c ∧ c ≤ 57 := TL.numL_digits n c h
theorem numL_head : ∀ n : Nat, 1 ≤ n → (TL.numL n).head? ≠ some 48 := by
  intro n
  induction n using Nat.strongRecOn with
  | _ n ih =>
    intro h1 h
    by_cases h10 : n < 10
    · rw [TL.numL_lt h10] at h
      simp at h; omega
    · rw [TL.numL_step (by omega)] at h
      have hne := TL.numL_ne (n / 10)
      refine ih (n / 10) (by omega) (by omega) ?_
      cases e : TL.numL (n / 10) with
      | nil => exact absurd e hne
      | cons c r => rw [e] at h; exact h
theorem val_snoc (l : List Nat) (c : Nat) : NumText.digitsVal (l ++ [c]) = NumText.digitsVal l * 10 + (c - 48) := by
  unfold NumText.digitsVal; rw [List.foldl_append]; rfl
theorem snoc_ind {P : List Nat → Prop} (h0 : P []) (hs : ∀ l c, P l → P (l ++ [c])) : ∀ l, P l := fun l => by
  have key : ∀ r : List Nat, P r.reverse := fun r => by
    induction r with
    | nil => exact h0
    | cons c r ih => rw [List.reverse_cons]; exact hs _ _ ih
  have := key l.reverse
  rwa [List.reverse_reverse] at this
theorem val_lt : ∀ l : List Nat, (∀ c ∈ l, 48 ≤ c ∧ c ≤ 57) → NumText.digitsVal l < 10 ^ l.length := by
  refine snoc_ind ?_ ?_
  · intro _; decide
  · intro l c ih h
    have h1 := ih fun x hx => h x (List.mem_append_left _ hx)
    have h2 := h c (by simp)
    rw [val_snoc, List.length_append, List.length_singleton, Nat.pow_succ]; omega
theorem num_back : ∀ l : List Nat, (∀ c ∈ l, 48 ≤ c ∧ c ≤ 57) → l ≠ [] → l.head? ≠ some 48 → 1 ≤ NumText.digitsVal l ∧ TL.numL (NumText.digitsVal l) = l := by
  refine snoc_ind ?_ ?_
  · intro _ h; exact absurd rfl h
  · intro l c ih h _ hh
    have h2 := h c (by simp)
    rw [val_snoc]
    cases l with
    | nil =>
      have hc : c ≠ 48 := fun e => hh (by rw [e]; rfl)
      have e0 : NumText.digitsVal [] = 0 := rfl
      rw [e0, Nat.zero_mul, Nat.zero_add]
      refine ⟨by omega, ?_⟩
      rw [TL.numL_lt (by omega)]
      show [48 + (c - 48)] = [c]
      congr 1; omega
    | cons a l =>
      obtain ⟨h3, h4⟩ := ih (fun x hx => h x (List.mem_append_left _ hx)) (by simp) hh
      refine ⟨by omega, ?_⟩
      rw [TL.numL_step (by omega), show (NumText.digitsVal (a :: l) * 10 + (c - 48)) / 10 = NumText.digitsVal (a :: l) by omega, h4, show 48 + (NumText.digitsVal (a :: l) * 10 + (c - 48)) % 10 = c by omega]
def isN (l : List Nat) : Prop := ∃ n, 1 ≤ n ∧ n < 1000000000 ∧ l = TL.numL n
theorem isN_iff (l : List Nat) : isN l ↔ l ≠ [] ∧ l.length ≤ 9 ∧ l.head? ≠ some 48 ∧ ∀ c ∈ l, 48 ≤ c ∧ c ≤ 57 := by
  constructor
  · rintro ⟨n, h1, h2, rfl⟩
    exact ⟨TL.numL_ne n, TL.numL_len (by decide) h2, numL_head n h1, fun c hc => numL_dig hc⟩
  · rintro ⟨h1, h2, h3, h4⟩
    obtain ⟨h5, h6⟩ := num_back l h4 h1 h3
    refine ⟨_, h5, ?_, h6.symm⟩
    exact Nat.lt_of_lt_of_le (val_lt l h4) (Nat.pow_le_pow_right (by decide) h2)
/-! ### first places -/
theorem sp_uniq {f g r q : List Nat} {y : Nat} (hf : y ∉ f) (hg : y ∉ g) (h : f ++ y :: r = g ++ y :: q) : f = g ∧ r = q := by
  induction f generalizing g with
  | nil =>
    cases g with
    | nil => exact ⟨rfl, (List.cons.inj h).2⟩
    | cons c g => exact absurd (List.cons.inj h).1 fun e => hg (by rw [e]; exact List.mem_cons_self ..)
  | cons c f ih =>
    cases g with
    | nil => exact absurd (List.cons.inj h).1 fun e => hf (by rw [← e]; exact List.mem_cons_self ..)
    | cons d g =>
      obtain ⟨e1, e2⟩ := List.cons.inj h
      obtain ⟨e3, e4⟩ := ih (fun hm => hf (List.mem_cons_of_mem _ hm)) (fun hm => hg (List.mem_cons_of_mem _ hm)) e2
      exact ⟨by rw [e1, e3], e4⟩
theorem dig_uniq {f g r q : List Nat} {y z : Nat} (hf : ∀ c ∈ f, 48 ≤ c ∧ c ≤ 57) (hg : ∀ c ∈ g, 48 ≤ c ∧ c ≤ 57) (hy : ¬ (48 ≤ y ∧ y ≤ 57)) (hz : ¬ (48 ≤ z ∧ z ≤ 57)) (h : f ++ y :: r = g ++ z :: q) : f = g ∧ y = z ∧ r = q := by
  induction f generalizing g with
  | nil =>
    cases g with
    | nil => exact ⟨rfl, List.cons.inj h⟩
    | cons c g => exact absurd (hg c (List.mem_cons_self ..)) (by rw [← (List.cons.inj h).1]; exact hy)
  | cons c f ih =>
    cases g with
    | nil => exact absurd (hf c (List.mem_cons_self ..)) (by rw [(List.cons.inj h).1]; exact hz)
    | cons d g =>
      obtain ⟨e1, e2⟩ := List.cons.inj h
      obtain ⟨e3, e4, e5⟩ := ih (fun x hm => hf x (List.mem_cons_of_mem _ hm)) (fun x hm => hg x (List.mem_cons_of_mem _ hm)) e2
      exact ⟨by rw [e1, e3], e4, e5⟩
theorem numL_no {n y : Nat} (h : ¬ (48 ≤ y ∧ y ≤ 57)) : y ∉ TL.numL n := fun hm => h (numL_dig hm)
theorem n32 : ¬ (48 ≤ 32 ∧ 32 ≤ 57) := by decide
theorem n10 : ¬ (48 ≤ 10 ∧ 10 ≤ 57) := by decide
/-- a record, right associated -/
theorem recL_eq (e : Ent) : recL e = tl e.k ++ 32 :: (tl e.o ++ 32 :: (tl e.l ++ 32 :: (TL.numL e.n ++ 32 :: (TL.numL (sumL (headL e)) ++ [10])))) := by
  unfold recL headL
  simp only [List.append_assoc, List.cons_append, List.nil_append]
/-- the fields of a record that begins a text with four free fields -/
theorem rec_fields {e : Ent} (he : okR e) {a b c d t Z : List Nat} (ha : 32 ∉ a) (hb : 32 ∉ b) (hc : 32 ∉ c) (hd : 32 ∉ d) (h : recL e ++ Z = a ++ 32 :: (b ++ 32 :: (c ++ 32 :: (d ++ 32 :: t)))) :
    tl e.k = a ∧ tl e.o = b ∧ tl e.l = c ∧ TL.numL e.n = d ∧ TL.numL (sumL (headL e)) ++ 10 :: Z = t := by
  rw [recL_eq] at h
  simp only [List.append_assoc, List.cons_append, List.nil_append] at h
  obtain ⟨e1, h⟩ := sp_uniq (kinds_one _ he.k).1 ha h
  obtain ⟨e2, h⟩ := sp_uniq he.o hb h
  obtain ⟨e3, h⟩ := sp_uniq he.l hc h
  obtain ⟨e4, h⟩ := sp_uniq (numL_no n32) hd h
  exact ⟨e1, e2, e3, e4, h⟩
theorem ent_ext {e e' : Ent} (h1 : tl e.k = tl e'.k) (h2 : tl e.o = tl e'.o) (h3 : tl e.l = tl e'.l) (h4 : TL.numL e.n = TL.numL e'.n) : e = e' := by
  obtain ⟨k, o, l, n⟩ := e
  obtain ⟨k', o', l', n'⟩ := e'
  rw [Ent.mk.injEq]
  exact ⟨tl_inj h1, tl_inj h2, tl_inj h3, TL.numL_inj h4⟩
theorem rec_uniq {e e' : Ent} (he : okR e) (he' : okR e') {Z Z' : List Nat} (h : recL e ++ Z = recL e' ++ Z') : e = e' := by
  have e2 := recL_eq e'
  rw [e2] at h
  simp only [List.append_assoc, List.cons_append, List.nil_append] at h
  obtain ⟨h1, h2, h3, h4, _⟩ := rec_fields he (kinds_one _ he'.k).1 he'.o he'.l (numL_no n32) h
  exact ent_ext h1 h2 h3 h4
/-! ### the sum tells one sign -/
theorem sumL_app (a b : List Nat) : sumL (a ++ b) = b.foldl (fun t c => (31 * t + c) % 9973) (sumL a) := by unfold sumL; rw [List.foldl_append]
theorem sumL_lt (l : List Nat) : sumL l < 9973 := by
  have key : ∀ (l : List Nat) (t : Nat), t < 9973 → l.foldl (fun t c => (31 * t + c) % 9973) t < 9973 := by
    intro l
    induction l with
    | nil => intro t h; exact h
    | cons c l ih => intro t _; exact ih _ (Nat.mod_lt _ (by decide))
  exact key l 7 (by decide)
theorem fold_inj : ∀ (l : List Nat) (t u : Nat), t < 9973 → u < 9973 → l.foldl (fun t c => (31 * t + c) % 9973) t = l.foldl (fun t c => (31 * t + c) % 9973) u → t = u := by
  intro l
  induction l with
  | nil => intro t u _ _ h; exact h
  | cons c l ih =>
    intro t u ht hu h
    have h2 := ih _ _ (Nat.mod_lt _ (by decide)) (Nat.mod_lt _ (by decide)) h
    -- 31 has an inverse
    have h3 : (9652 * ((31 * t + c) % 9973)) % 9973 = (9652 * ((31 * u + c) % 9973)) % 9973 := by rw [h2]
    omega
theorem sum_one {u v : List Nat} {c x : Nat} (hc : c < 9973) (hx : x < 9973) (h : sumL (u ++ c :: v) = sumL (u ++ x :: v)) : c = x := by
  rw [sumL_app, sumL_app] at h
  have h2 := fold_inj v _ _ (Nat.mod_lt _ (by decide)) (Nat.mod_lt _ (by decide)) (show v.foldl _ ((31 * sumL u + c) % 9973) = v.foldl _ ((31 * sumL u + x) % 9973) from h)
  omega
/-! ### where no record begins -/
theorem loc {A B u v : List Nat} {y c : Nat} (h : A ++ y :: B = u ++ c :: v) : (∃ w, A = u ++ c :: w ∧ v = w ++ y :: B) ∨ (u = A ∧ c = y ∧ v = B) ∨ (∃ w, u = A ++ y :: w ∧ B = w ++ c :: v) := by
  induction A generalizing u with
  | nil =>
    cases u with
    | nil => exact .inr (.inl ⟨rfl, (List.cons.inj h).1.symm, (List.cons.inj h).2.symm⟩)
    | cons d u =>
      obtain ⟨e1, e2⟩ := List.cons.inj h
      exact .inr (.inr ⟨u, by rw [e1]; rfl, e2⟩)
  | cons a A ih =>
    cases u with
    | nil =>
      obtain ⟨e1, e2⟩ := List.cons.inj h
      exact .inl ⟨A, by rw [e1]; rfl, e2.symm⟩
    | cons d u =>
      obtain ⟨e1, e2⟩ := List.cons.inj h
      rcases ih e2 with ⟨w, h1, h2⟩ | ⟨h1, h2, h3⟩ | ⟨w, h1, h2⟩
      · exact .inl ⟨w, by rw [e1, h1]; rfl, h2⟩
      · exact .inr (.inl ⟨by rw [e1, h1], h2, h3⟩)
      · exact .inr (.inr ⟨w, by rw [e1, h1]; rfl, h2⟩)
theorem rec_fields3 {e : Ent} (he : okR e) {a b c t Z : List Nat} (ha : 32 ∉ a) (hb : 32 ∉ b) (hc : 32 ∉ c) (h : recL e ++ Z = a ++ 32 :: (b ++ 32 :: (c ++ 32 :: t))) :
    tl e.k = a ∧ tl e.o = b ∧ tl e.l = c ∧ TL.numL e.n ++ 32 :: (TL.numL (sumL (headL e)) ++ 10 :: Z) = t := by
  rw [recL_eq] at h
  simp only [List.append_assoc, List.cons_append, List.nil_append] at h
  obtain ⟨e1, h⟩ := sp_uniq (kinds_one _ he.k).1 ha h
  obtain ⟨e2, h⟩ := sp_uniq he.o hb h
  obtain ⟨e3, h⟩ := sp_uniq he.l hc h
  exact ⟨e1, e2, e3, h⟩
theorem rec_ne (e : Ent) : recL e ≠ [] := by unfold recL; simp
theorem no_nil (e : Ent) : ¬ recL e <+: [] := fun h => rec_ne e (List.prefix_nil.mp h)
theorem cut_no {e : Ent} (he : okR e) {r t : List Nat} (h : recL e = r ++ t) (ht : t ≠ []) : ∀ e', okR e' → ¬ recL e' <+: r := by
  rintro e' he' ⟨Z, hZ⟩
  have h2 : recL e' ++ (Z ++ t) = recL e ++ [] := by rw [List.append_nil, h, ← hZ, List.append_assoc]
  have := rec_uniq he' he h2
  subst this
  rw [List.append_nil] at h2
  have h3 := List.append_cancel_left (h2.trans (List.append_nil _).symm)
  rw [List.append_eq_nil_iff] at h3
  exact ht h3.2
theorem dig_no {m : Nat} {g r q : List Nat} {y z : Nat} (hg : ∀ c ∈ g, 48 ≤ c ∧ c ≤ 57) (hy : ¬ (48 ≤ y ∧ y ≤ 57)) (hz : ¬ (48 ≤ z ∧ z ≤ 57)) (hyz : y ≠ z) (h : TL.numL m ++ y :: r = g ++ z :: q) : False :=
  hyz (dig_uniq (fun c hc => numL_dig hc) hg hy hz h).2.1
theorem nin_mid {y c : Nat} {u w : List Nat} (h : y ∉ u ++ c :: w) (x : Nat) (hx : x ≠ y) : y ∉ u ++ x :: w := fun hm => by
  rcases List.mem_append.mp hm with hm | hm
  · exact h (List.mem_append_left _ hm)
  · rcases List.mem_cons.mp hm with hm | hm
    · exact hx hm.symm
    · exact h (List.mem_append_right _ (List.mem_cons_of_mem _ hm))
theorem nin_l {y c : Nat} {u w : List Nat} (h : y ∉ u ++ c :: w) : y ∉ u := fun hm => h (List.mem_append_left _ hm)
theorem nin_r {y c : Nat} {u w : List Nat} (h : y ∉ u ++ c :: w) : y ∉ w := fun hm => h (List.mem_append_right _ (List.mem_cons_of_mem _ hm))
theorem nin_j {y x : Nat} {u w : List Nat} (h1 : y ∉ u) (h2 : y ∉ w) (hx : x ≠ y) : y ∉ u ++ x :: w := fun hm => by
  rcases List.mem_append.mp hm with hm | hm
  · exact h1 hm
  · rcases List.mem_cons.mp hm with hm | hm
    · exact hx hm.symm
    · exact h2 hm
/-- one sign of a record is another one: no record begins -/
theorem spoil_no {e : Ent} (he : okR e) {u v rest : List Nat} {c x : Nat} (h : recL e = u ++ c :: v) (hcx : c ≠ x) (hc : c < 9973) (hx : x < 9973) : ∀ e', okR e' → ¬ recL e' <+: (u ++ x :: v) ++ rest := by
  rintro e' he' ⟨Z, hY⟩
  have ha := (kinds_one _ he.k).1
  have hb := he.o
  have hl := he.l
  have hd : 32 ∉ TL.numL e.n := numL_no n32
  have dd : ∀ y ∈ TL.numL e.n, 48 ≤ y ∧ y ≤ 57 := fun y hy => numL_dig hy
  have ds : ∀ y ∈ TL.numL (sumL (headL e)), 48 ≤ y ∧ y ≤ 57 := fun y hy => numL_dig hy
  have hh : headL e = tl e.k ++ 32 :: (tl e.o ++ 32 :: (tl e.l ++ 32 :: (TL.numL e.n ++ [32]))) := rfl
  have hh' : headL e' = tl e'.k ++ 32 :: (tl e'.o ++ 32 :: (tl e'.l ++ 32 :: (TL.numL e'.n ++ [32]))) := rfl
  rw [recL_eq] at h
  -- the same sum tells the same sign
  have fin : ∀ (p q : List Nat), headL e = p ++ c :: q → headL e' = p ++ x :: q → TL.numL (sumL (headL e')) ++ 10 :: Z = TL.numL (sumL (headL e)) ++ 10 :: rest → False := by
    intro p q h1 h2 h3
    obtain ⟨h4, _, _⟩ := dig_uniq (fun y hy => numL_dig hy) ds n10 n10 h3
    have h5 := TL.numL_inj h4
    rw [h1, h2] at h5
    exact hcx (sum_one hx hc h5).symm
  generalize hs : TL.numL (sumL (headL e)) = s at h ds fin
  generalize ea : tl e.k = a at h ha hh
  generalize eb : tl e.o = b at h hb hh
  generalize el : tl e.l = l at h hl hh
  generalize ed : TL.numL e.n = d at h hd dd hh
  rcases loc h with ⟨w, rfl, rfl⟩ | ⟨rfl, rfl, rfl⟩ | ⟨u1, rfl, g1⟩
  · by_cases x32 : x = 32
    · subst x32
      have := rec_fields he' (nin_l ha) (nin_r ha) hb hl (show recL e' ++ Z = u ++ 32 :: (w ++ 32 :: (b ++ 32 :: (l ++ 32 :: (d ++ 32 :: (s ++ 10 :: rest))))) by rw [hY]; simp)
      exact dig_no dd n10 n32 (by decide) this.2.2.2.2
    · obtain ⟨h1, h2, h3, h4, h5⟩ := rec_fields he' (nin_mid ha x x32) hb hl hd (show recL e' ++ Z = (u ++ x :: w) ++ 32 :: (b ++ 32 :: (l ++ 32 :: (d ++ 32 :: (s ++ 10 :: rest)))) by rw [hY]; simp)
      exact fin u (w ++ 32 :: (b ++ 32 :: (l ++ 32 :: (d ++ [32])))) (by rw [hh]; simp) (by rw [hh', h1, h2, h3, h4]; simp) h5
  · obtain ⟨_, _, _, h4⟩ := rec_fields3 he' (nin_j ha hb (Ne.symm hcx)) hl hd (show recL e' ++ Z = (u ++ x :: b) ++ 32 :: (l ++ 32 :: (d ++ 32 :: (s ++ 10 :: rest))) by rw [hY]; simp)
    exact dig_no ds n32 n10 (by decide) h4
  rcases loc g1 with ⟨w, rfl, rfl⟩ | ⟨rfl, rfl, rfl⟩ | ⟨u2, rfl, g2⟩
  · by_cases x32 : x = 32
    · subst x32
      have := rec_fields he' ha (nin_l hb) (nin_r hb) hl (show recL e' ++ Z = a ++ 32 :: (u1 ++ 32 :: (w ++ 32 :: (l ++ 32 :: (d ++ 32 :: (s ++ 10 :: rest))))) by rw [hY]; simp)
      exact dig_no dd n10 n32 (by decide) this.2.2.2.2
    · obtain ⟨h1, h2, h3, h4, h5⟩ := rec_fields he' ha (nin_mid hb x x32) hl hd (show recL e' ++ Z = a ++ 32 :: ((u1 ++ x :: w) ++ 32 :: (l ++ 32 :: (d ++ 32 :: (s ++ 10 :: rest)))) by rw [hY]; simp)
      exact fin (a ++ 32 :: u1) (w ++ 32 :: (l ++ 32 :: (d ++ [32]))) (by rw [hh]; simp) (by rw [hh', h1, h2, h3, h4]; simp) h5
  · obtain ⟨_, _, _, h4⟩ := rec_fields3 he' ha (nin_j hb hl (Ne.symm hcx)) hd (show recL e' ++ Z = a ++ 32 :: ((u1 ++ x :: l) ++ 32 :: (d ++ 32 :: (s ++ 10 :: rest))) by rw [hY]; simp)
    exact dig_no ds n32 n10 (by decide) h4
  rcases loc g2 with ⟨w, rfl, rfl⟩ | ⟨rfl, rfl, rfl⟩ | ⟨u3, rfl, g3⟩
  · by_cases x32 : x = 32
    · subst x32
      have := rec_fields he' ha hb (nin_l hl) (nin_r hl) (show recL e' ++ Z = a ++ 32 :: (b ++ 32 :: (u2 ++ 32 :: (w ++ 32 :: (d ++ 32 :: (s ++ 10 :: rest))))) by rw [hY]; simp)
      exact dig_no dd n10 n32 (by decide) this.2.2.2.2
    · obtain ⟨h1, h2, h3, h4, h5⟩ := rec_fields he' ha hb (nin_mid hl x x32) hd (show recL e' ++ Z = a ++ 32 :: (b ++ 32 :: ((u2 ++ x :: w) ++ 32 :: (d ++ 32 :: (s ++ 10 :: rest)))) by rw [hY]; simp)
      exact fin (a ++ 32 :: (b ++ 32 :: u2)) (w ++ 32 :: (d ++ [32])) (by rw [hh]; simp) (by rw [hh', h1, h2, h3, h4]; simp) h5
  · obtain ⟨_, _, _, h4⟩ := rec_fields3 he' ha hb (nin_j hl hd (Ne.symm hcx)) (show recL e' ++ Z = a ++ 32 :: (b ++ 32 :: ((u2 ++ x :: d) ++ 32 :: (s ++ 10 :: rest))) by rw [hY]; simp)
    exact dig_no ds n32 n10 (by decide) h4
  rcases loc g3 with ⟨w, rfl, rfl⟩ | ⟨rfl, rfl, rfl⟩ | ⟨u4, rfl, g4⟩
  · by_cases x32 : x = 32
    · subst x32
      have := rec_fields he' ha hb hl (nin_l hd) (show recL e' ++ Z = a ++ 32 :: (b ++ 32 :: (l ++ 32 :: (u3 ++ 32 :: (w ++ 32 :: (s ++ 10 :: rest))))) by rw [hY]; simp)
      exact dig_no (fun y hy => dd y (List.mem_append_right _ (List.mem_cons_of_mem _ hy))) n10 n32 (by decide) this.2.2.2.2
    · obtain ⟨h1, h2, h3, h4, h5⟩ := rec_fields he' ha hb hl (nin_mid hd x x32) (show recL e' ++ Z = a ++ 32 :: (b ++ 32 :: (l ++ 32 :: ((u3 ++ x :: w) ++ 32 :: (s ++ 10 :: rest)))) by rw [hY]; simp)
      exact fin (a ++ 32 :: (b ++ 32 :: (l ++ 32 :: u3))) (w ++ [32]) (by rw [hh]; simp) (by rw [hh', h1, h2, h3, h4]; simp) h5
  · -- the last space
    obtain ⟨_, _, _, h4⟩ := rec_fields3 he' ha hb hl (show recL e' ++ Z = a ++ 32 :: (b ++ 32 :: (l ++ 32 :: (u3 ++ x :: (s ++ 10 :: rest)))) by rw [hY]; simp)
    by_cases xd : 48 ≤ x ∧ x ≤ 57
    · refine dig_no (g := u3 ++ x :: s) (fun y hy => ?_) n32 n10 (by decide) (r := TL.numL (sumL (headL e')) ++ 10 :: Z) (q := rest) (h4.trans (by simp))
      rcases List.mem_append.mp hy with hy | hy
      · exact dd y hy
      · rcases List.mem_cons.mp hy with rfl | hy
        · exact xd
        · exact ds y hy
    · exact dig_no dd n32 xd hcx h4
  have same : ∀ {T : List Nat}, recL e' ++ Z = a ++ 32 :: (b ++ 32 :: (l ++ 32 :: (d ++ 32 :: T))) → T = s ++ 10 :: Z := by
    intro T hT
    obtain ⟨h1, h2, h3, h4, h5⟩ := rec_fields he' ha hb hl hd hT
    have : e' = e := ent_ext (h1.trans ea.symm) (h2.trans eb.symm) (h3.trans el.symm) (h4.trans ed.symm)
    rw [this, hs] at h5
    exact h5.symm
  rcases loc g4 with ⟨w, rfl, rfl⟩ | ⟨rfl, rfl, rfl⟩ | ⟨u5, rfl, g5⟩
  · have h5 := same (T := u4 ++ x :: (w ++ 10 :: rest)) (by rw [hY]; simp)
    rw [List.append_assoc] at h5
    exact hcx (List.cons.inj (List.append_cancel_left h5)).1.symm
  · have h5 := same (T := u4 ++ x :: rest) (by rw [hY]; simp)
    exact hcx (List.cons.inj (List.append_cancel_left h5)).1.symm
  · cases u5 with
    | nil => cases g5
    | cons _ _ => cases g5
end Tab
set_option Elab.async false
set_option linter.all false
set_option maxRecDepth 100000
set_option maxHeartbeats 4000000
/-! K24b: the texts' own words: find, split, startswith -/
namespace Tab
open PySem L2 Ab Com
variable {K : PySem.W.Frag}
theorem from_nat (n i : Nat) : fromIndex n (i : Int) = i := by
  unfold fromIndex
  rw [if_neg (by omega)]; omega
theorem sp_one : (" " : Str) = ⟨#[32]⟩ := by decide +kernel
theorem at_sp (x : Str) (i : Nat) : StrLaws.At x " " x.length i ↔ (tl x)[i]? = some 32 := by
  rw [sp_one]; exact StrLaws.subAt_one x 32 i
/-- the first space at or behind a place -/
theorem find_cases (x : Str) (p : Nat) : (Txt.find3 x " " (p : Int) = -1 ∧ ∀ i, p ≤ i → (tl x)[i]? ≠ some 32) ∨ ∃ k : Nat, Txt.find3 x " " (p : Int) = (k : Int) ∧ p ≤ k ∧ (tl x)[k]? = some 32 ∧ ∀ i, p ≤ i → i < k → (tl x)[i]? ≠ some 32 := by
  unfold Txt.find3
  rw [from_nat, StrLaws.occ_eq]
  have hin : ∀ i, p ≤ i → (tl x)[i]? = some 32 → i ∈ List.range' p (x.length + 1 - p) := fun i h1 h2 => by
    obtain ⟨h3, _⟩ := List.getElem?_eq_some_iff.mp h2
    have : i < x.length := by rw [tl_len]; exact h3
    rw [List.mem_range'_1]; omega
  rcases StrLaws.occ_first x " " x.length 1 (Nat.le_refl _) (List.range' p (x.length + 1 - p)) p (fun i hi => (List.mem_range'_1.mp hi).1) with ⟨h0, hn⟩ | ⟨pre, a, post, e, h0, ha, hn⟩
  · refine .inl ⟨by rw [h0], fun i h1 h2 => hn i (hin i h1 h2) ((at_sp x i).mpr h2)⟩
  · generalize (forIn (List.range' p (x.length + 1 - p)) ((#[] : Array Nat), p) (StrLaws.occBody x " " x.length 1)).run.fst = arr at h0 ⊢
    have h1 : arr.toList[0]? = some a := by simpa using h0
    cases hL : arr.toList with
    | nil => rw [hL] at h1; cases h1
    | cons b t =>
      rw [hL] at h1
      have hb : b = a := Option.some.inj h1
      subst hb
      have hm : b ∈ List.range' p (x.length + 1 - p) := by rw [e]; exact List.mem_append_right _ (List.mem_cons_self ..)
      refine .inr ⟨b, rfl, (List.mem_range'_1.mp hm).1, (at_sp x b).mp ha, fun i h1 h2 h3 => ?_⟩
      have hi := hin i h1 h3
      rw [e] at hi
      have pw : (pre ++ b :: post).Pairwise (· < ·) := by rw [← e]; exact List.pairwise_lt_range'
      rcases List.mem_append.mp hi with hi | hi
      · exact hn i hi ((at_sp x i).mpr h3)
      · rcases List.mem_cons.mp hi with rfl | hi
        · omega
        · have := (List.pairwise_cons.mp (List.pairwise_append.mp pw).2.1).1 i hi
          omega
/-- places behind n spaces -/
inductive Beh (l : List Nat) : Nat → Nat → Nat → Prop
  | z (p : Nat) : Beh l 0 p p
  | s {n p k e : Nat} : p ≤ k → l[k]? = some 32 → (∀ i, p ≤ i → i < k → l[i]? ≠ some 32) → Beh l n (k + 1) e → Beh l (n + 1) p e
theorem Beh.snoc {l : List Nat} {n p k e : Nat} (h : Beh l n p k) (h1 : k ≤ e) (h2 : l[e]? = some 32) (h3 : ∀ i, k ≤ i → i < e → l[i]? ≠ some 32) : Beh l (n + 1) p (e + 1) := by
  induction h with
  | z p => exact .s h1 h2 h3 (.z _)
  | s a b c _ ih => exact .s a b c (ih h1 h3)
theorem Beh.le {l : List Nat} {n p e : Nat} (h : Beh l n p e) : p ≤ e := by
  induction h with
  | z => exact Nat.le_refl _
  | s a _ _ _ ih => omega
/-- fewer than n spaces: no four fields -/
def NoB (l : List Nat) (n p : Nat) : Prop := ∃ m k, m < n ∧ Beh l m p k ∧ ∀ i, k ≤ i → l[i]? ≠ some 32
/-- a field up to the first space -/
theorem field_at {l : List Nat} {p k : Nat} (h1 : p ≤ k) (h2 : l[k]? = some 32) (h3 : ∀ i, p ≤ i → i < k → l[i]? ≠ some 32) : ∃ a, 32 ∉ a ∧ l.drop p = a ++ 32 :: l.drop (k + 1) ∧ p + a.length = k := by
  obtain ⟨hk, e⟩ := List.getElem?_eq_some_iff.mp h2
  refine ⟨(l.drop p).take (k - p), fun hm => ?_, ?_, ?_⟩
  · obtain ⟨i, hi, e2⟩ := List.mem_take_iff_getElem.mp hm
    rw [List.length_drop] at hi
    rw [List.getElem_drop] at e2
    refine h3 (p + i) (by omega) (by omega) ?_
    rw [List.getElem?_eq_getElem (by omega), e2]
  · have : l.drop k = 32 :: l.drop (k + 1) := by rw [List.drop_eq_getElem_cons hk, e]
    rw [← this]
    have h4 := (List.take_append_drop (k - p) (l.drop p)).symm
    rw [List.drop_drop, show p + (k - p) = k by omega] at h4
    exact h4
  · rw [List.length_take, List.length_drop]; omega
theorem first_sp {l a r : List Nat} {p : Nat} (ha : 32 ∉ a) (h : l.drop p = a ++ 32 :: r) : l[p + a.length]? = some 32 ∧ (∀ i, p ≤ i → i < p + a.length → l[i]? ≠ some 32) ∧ l.drop (p + a.length + 1) = r := by
  have g : ∀ i, l[p + i]? = (a ++ 32 :: r)[i]? := fun i => by rw [← h, List.getElem?_drop]
  refine ⟨?_, fun i h1 h2 h3 => ?_, ?_⟩
  · rw [g, List.getElem?_append_right (Nat.le_refl _), Nat.sub_self]; rfl
  · have := g (i - p)
    rw [show p + (i - p) = i by omega, h3, List.getElem?_append_left (by omega)] at this
    exact ha (List.mem_of_getElem? this.symm)
  · rw [show p + a.length + 1 = p + (a.length + 1) by omega, ← List.drop_drop, h]
    rw [show a.length + 1 = (a ++ [32]).length by simp, show a ++ 32 :: r = (a ++ [32]) ++ r by simp, List.drop_left]
theorem Beh.inv {l a r : List Nat} {n p e : Nat} (ha : 32 ∉ a) (h : l.drop p = a ++ 32 :: r) (hb : Beh l (n + 1) p e) : Beh l n (p + a.length + 1) e := by
  obtain ⟨h1, h2, h3⟩ := first_sp ha h
  cases hb with
  | s a1 a2 a3 a4 =>
    rename_i k
    have : k = p + a.length := by
      rcases Nat.lt_trichotomy k (p + a.length) with h5 | h5 | h5
      · exact absurd a2 (h2 k a1 h5)
      · exact h5
      · exact absurd h1 (a3 _ (by omega) h5)
    subst this; exact a4
/-- a record ahead: four fields, and they end where find says -/
theorem no_rec {l : List Nat} {p : Nat} {e : Ent} (he : okR e) (h : recL e <+: l.drop p) : ¬ NoB l 4 p := by
  obtain ⟨Z, hz⟩ := h
  rw [recL_eq] at hz
  simp only [List.append_assoc, List.cons_append, List.nil_append] at hz
  rintro ⟨m, k, hm, hb, hn⟩
  have step : ∀ {q : Nat} {a r : List Nat} {m : Nat}, 32 ∉ a → l.drop q = a ++ 32 :: r → Beh l m q k → ∃ m', m = m' + 1 ∧ l.drop (q + a.length + 1) = r ∧ Beh l m' (q + a.length + 1) k := by
    intro q a r m ha h hb
    cases m with
    | zero =>
      cases hb
      exact absurd (first_sp ha h).1 (hn _ (by omega))
    | succ m => exact ⟨m, rfl, (first_sp ha h).2.2, hb.inv ha h⟩
  obtain ⟨m1, e1, h1, b1⟩ := step (kinds_one _ he.k).1 hz.symm hb
  obtain ⟨m2, e2, h2, b2⟩ := step he.o h1 b1
  obtain ⟨m3, e3, h3, b3⟩ := step he.l h2 b2
  obtain ⟨m4, e4, h4, b4⟩ := step (numL_no n32) h3 b3
  omega
/-- four fields -/
theorem four {l : List Nat} {p q : Nat} (h : Beh l 4 p q) : ∃ a b c d, 32 ∉ a ∧ 32 ∉ b ∧ 32 ∉ c ∧ 32 ∉ d ∧ l.drop p = a ++ 32 :: (b ++ 32 :: (c ++ 32 :: (d ++ 32 :: l.drop q))) ∧ (l.drop p).take (q - p) = a ++ 32 :: (b ++ 32 :: (c ++ 32 :: (d ++ [32]))) ∧ p ≤ q ∧ q ≤ l.length := by
  have hle := h.le
  cases h with
  | s a1 a2 a3 h1 =>
  cases h1 with
  | s b1 b2 b3 h2 =>
  cases h2 with
  | s c1 c2 c3 h3 =>
  cases h3 with
  | s d1 d2 d3 h4 =>
  cases h4
  obtain ⟨a, ha, ea, la⟩ := field_at a1 a2 a3
  obtain ⟨b, hb, eb, lb⟩ := field_at b1 b2 b3
  obtain ⟨c, hc, ec, lc⟩ := field_at c1 c2 c3
  obtain ⟨d, hd, ed, ld⟩ := field_at d1 d2 d3
  have hk := (List.getElem?_eq_some_iff.mp d2).1
  refine ⟨a, b, c, d, ha, hb, hc, hd, by rw [ea, eb, ec, ed], ?_, hle, hk⟩
  rename_i k
  rw [ea, eb, ec, ed]
  have e : a ++ 32 :: (b ++ 32 :: (c ++ 32 :: (d ++ 32 :: l.drop (k + 1)))) = (a ++ 32 :: (b ++ 32 :: (c ++ 32 :: (d ++ [32])))) ++ l.drop (k + 1) := by simp
  rw [e]
  have e2 : k + 1 - p = (a ++ 32 :: (b ++ 32 :: (c ++ 32 :: (d ++ [32])))).length := by simp; omega
  rw [e2, List.take_left]
/-- a text of four fields is cut into five -/
theorem split4 {x : Str} {a b c d : List Nat} (ha : 32 ∉ a) (hb : 32 ∉ b) (hc : 32 ∉ c) (hd : 32 ∉ d) (h : tl x = a ++ 32 :: (b ++ 32 :: (c ++ 32 :: (d ++ [32])))) : Txt.split x " " = [⟨a.toArray⟩, ⟨b.toArray⟩, ⟨c.toArray⟩, ⟨d.toArray⟩, ⟨#[]⟩] := by
  apply TL.map_tl_inj
  have e32 : TL.tl " " = [32] := tl_sp
  have ex : TL.tl x = _ := h
  rw [TL.split_spl x " " (by rw [e32]; simp) (TL.kind_ok (by decide +kernel)), e32, ex]
  have s1 : ∀ {p r : List Nat}, 32 ∉ p → TL.spl [32] 0 [] (p ++ 32 :: r) = p :: TL.spl [32] 0 [] r := fun hp => TL.spl_part1 (S := []) (acc := []) hp
  rw [s1 ha, s1 hb, s1 hc, s1 hd]
  rfl
theorem starts_at {x y : Str} {p : Nat} : Txt.startswith3 x y (p : Int) = decide (tl y <+: (tl x).drop p ∧ p + y.length ≤ x.length) := by
  unfold Txt.startswith3
  rw [from_nat, StrLaws.subAt_eq]
  apply Bool.eq_iff_iff.mpr
  rw [Bool.and_eq_true, decide_eq_true_eq, decide_eq_true_eq, beq_iff_eq]
  constructor
  · rintro ⟨h1, h2⟩
    exact ⟨⟨((tl x).drop p).drop y.length, by rw [show tl y = _ from h2.symm]; exact List.take_append_drop ..⟩, h1⟩
  · rintro ⟨⟨Z, h1⟩, h2⟩
    refine ⟨h2, ?_⟩
    rw [← h1, tl_len, List.take_left]
end Tab
set_option Elab.async false
set_option linter.all false
set_option maxRecDepth 100000
set_option maxHeartbeats 4000000
/-! K24c: readings: sums, records, numbers, spaces -/
namespace Tab
open PySem L2 Ab Com
variable {K : PySem.W.Frag}
def w_DIGITS : PyData := .str "0123456789"
def w_KINDS : PyData := .tuple [.str "p", .str "k", .str "g", .str "t", .str "r"]
def w_MOST_DIGITS : PyData := .int 9
def w_SUMMARY_KINDS : PyData := .tuple [.str "a", .str "n", .str "y", .str "x", .str "w", .str "z"]
theorem lc_s {ag : AG} {pt : AT} {f : AE} {vs : List Nat} {δ : AD} {κ1 : AK} {R : AR} {s : Str} (Pv : Nat → List PyData → AK → Prop) (h0 : Pv 0 [] κ1) (hd : ∀ acc κ', Pv s.cps.size acc κ' → R (.d (.list acc)) κ')
    (hs : ∀ i c acc κ', s.cps[i]? = some c → Pv i acc κ' → ag (.d (.str ⟨#[c]⟩)) (wipeA δ vs) κ' fun δ2 κ2 => pt δ2 κ2 fun b κ3 => bsel b (f δ2 κ3 fun y κ4 => ∃ d, y = .d d ∧ acc.length < sizeLine ∧ Pv (i + 1) (acc ++ [d]) κ4) (Pv (i + 1) acc κ3)) : LcW (itS s) ag pt f vs δ κ1 R := by
  refine lcw.mpr ⟨fun i m acc κ' => m = s.cps.size - i ∧ i ≤ s.cps.size ∧ Pv i acc κ', ⟨_, rfl, Nat.zero_le _, h0⟩, ?_⟩
  rintro i m acc κ' ⟨rfl, hi, p⟩
  by_cases hlt : i < s.cps.size
  · refine .inr ⟨hlt, Pv (i + 1), fun _ _ q => ⟨s.cps.size - (i + 1), by omega, rfl, hlt, q⟩, ?_⟩
    rintro a ⟨x, hx, rfl⟩
    exact hs i x acc κ' hx p
  · have e : i = s.cps.size := by omega
    subst e
    exact .inl ⟨Nat.le_refl _, hd _ _ p⟩
/-! ### sums -/
theorem cps_at {s : Str} {i c : Nat} (h : s.cps[i]? = some c) : (tl s)[i]? = some c := by
  show s.cps.toList[i]? = _
  rw [Array.getElem?_toList]; exact h
theorem sum_step {l : List Nat} {i c : Nat} (h : l[i]? = some c) : sumL (l.take (i + 1)) = (31 * sumL (l.take i) + c) % 9973 := by
  rw [List.take_succ, h, sumL_app]; rfl
theorem sum_all (s : Str) : sumL ((tl s).take s.cps.size) = sumL (tl s) := by
  rw [List.take_of_length_le (by rw [← tl_len]; exact Nat.le_refl _)]
def F__sum_of : FSp := fun as κ R _ => ∃ s : Str, as = [.d (.str s)] ∧ κ = [] ∧ R (.d (.int (sumL (tl s) : Nat))) []
def F__law_sum : FSp := F__sum_of
abbrev N__sum_of : List Str := ["head", "total", "sign"]
def a__sum_of (K : PySem.W.Frag) : AS :=
  (aSeq (aSet 1 (aC (.d (.int 7)))) (aSeq (aFor (aIter (aVar 0)) (aName 2) (aSet 1 (aOp aMod (aOp aAdd (aOp aMul (aC (.d (.int 31))) (aVar 1)) (aCB aOrd (aCons (aVar 2) aNil))) (aC (.d (.int 9973)))))) (aRet (aVar 1))))
abbrev N__law_sum : List Str := ["text", "total", "char"]
def a__law_sum (K : PySem.W.Frag) : AS :=
  (aSeq (aSet 1 (aC (.d (.int 7)))) (aSeq (aFor (aIter (aVar 0)) (aName 2) (aSet 1 (aOp aMod (aCB aIntOf (aCons (aOp aAdd (aOp aMul (aVar 1) (aC (.d (.int 31)))) (aCB aOrd (aCons (aVar 2) aNil))) aNil)) (aC (.d (.int 9973)))))) (aRet (aVar 1))))
theorem len__sum_of : ∀ as κ R E', F__sum_of as κ R E' → as.length = (["head"] : List Str).length := by
  rintro as κ R E' ⟨s, rfl, _⟩; rfl
theorem len__law_sum : ∀ as κ R E', F__law_sum as κ R E' → as.length = (["text"] : List Str).length := by
  rintro as κ R E' ⟨s, rfl, _⟩; rfl
theorem rd__sum_of : ∀ as κ R E', F__sum_of as κ R E' → a__sum_of K (endsA K κ.length R) (startA N__sum_of as) κ := by
  rintro as κ R E' ⟨s, rfl, rfl, h⟩
  refine for_s (fun i δ κ => ∃ v x, δ = [some (.d (.str s)), some (.d (.int v)), x] ∧ v = ((sumL ((tl s).take i) : Nat) : Int) ∧ κ = []) ⟨_, _, rfl, rfl, rfl⟩ ?_ ?_
  · rintro δ κ ⟨v, x, rfl, rfl, rfl⟩ _
    exact ⟨_, _, GhR.refl (Nat.le_refl _), by rw [sum_all]; exact h⟩
  · rintro i c δ κ hc ⟨v, x, rfl, rfl, rfl⟩ _
    exact ⟨.inl ⟨by decide, by decide⟩, c, rfl, (by decide : (0 : Int) < 9973), _, _, rfl, (by rw [sum_step (cps_at hc)]; show ((31 : Int) * _ + _) % 9973 = _; omega), rfl⟩
theorem rd__law_sum : ∀ as κ R E', F__law_sum as κ R E' → a__law_sum K (endsA K κ.length R) (startA N__law_sum as) κ := by
  rintro as κ R E' ⟨s, rfl, rfl, h⟩
  refine for_s (fun i δ κ => ∃ v x, δ = [some (.d (.str s)), some (.d (.int v)), x] ∧ v = ((sumL ((tl s).take i) : Nat) : Int) ∧ κ = []) ⟨_, _, rfl, rfl, rfl⟩ ?_ ?_
  · rintro δ κ ⟨v, x, rfl, rfl, rfl⟩ _
    exact ⟨_, _, GhR.refl (Nat.le_refl _), by rw [sum_all]; exact h⟩
  · rintro i c δ κ hc ⟨v, x, rfl, rfl, rfl⟩ _
    exact ⟨.inr ⟨by decide, by decide⟩, c, rfl, (by decide : (0 : Int) < 9973), _, _, rfl, (by rw [sum_step (cps_at hc)]; show (_ * (31 : Int) + _) % 9973 = _; omega), rfl⟩
theorem sum_w {s : Str} {κ : AK} {R : AR} {E : AX → AK → Prop} (h : R (.d (.int (sumL (tl s) : Nat))) κ) : callW F__sum_of E [.d (.str s)] κ R :=
  callW_i ⟨[], _, _, .nil, rfl, rfl, s, rfl, rfl, Nat.zero_le _, rfl, rfl, h⟩
theorem lsum_w {s : Str} {κ : AK} {R : AR} {E : AX → AK → Prop} (h : R (.d (.int (sumL (tl s) : Nat))) κ) : callW F__law_sum E [.d (.str s)] κ R := sum_w h
/-! ### records -/
theorem log_lt {n : Nat} (h : n < 1000000000) : ((n : Int)).natAbs.log2 < 1920 := by
  show n.log2 < 1920
  by_cases h0 : n = 0
  · rw [h0]; decide
  · exact Nat.lt_of_lt_of_le ((Nat.log2_lt h0).mpr (Nat.lt_trans h (by decide : 1000000000 < 2 ^ 30))) (by decide)
theorem num_len {n : Nat} (h : n < 1000000000) : (num n).length ≤ 9 := by
  rw [tl_len, tl_num]; exact TL.numL_len (by decide) h
theorem app_len (a b : Str) : (a ++ b).length = a.length + b.length := by
  rw [tl_len, tl_app, List.length_append, ← tl_len, ← tl_len]
theorem len_sp : (" " : Str).length = 1 := by decide +kernel
theorem len_nl : ("\n" : Str).length = 1 := by decide +kernel
theorem emp_app (a : Str) : Str.empty ++ a = a := by
  apply tl_inj; rw [tl_app]; rfl
structure szE (e : Ent) : Prop where
  k : e.k.length ≤ 1000000
  o : e.o.length ≤ 1000000
  l : e.l.length ≤ 1000000
  n : e.n < 1000000000
def F_record : FSp := fun as κ R _ => ∃ e : Ent, as = [.d (.str e.k), .d (.str e.o), .d (.str e.l), .d (.int (e.n : Nat))] ∧ κ = [] ∧ szE e ∧ R (.d (.str (recS e))) []
def F__law_text : FSp := fun as κ R _ => ∃ e : Ent, as = [.d (entD e)] ∧ κ = [] ∧ szE e ∧ R (.d (.str (recS e))) []
abbrev N_record : List Str := ["kind", "other", "label", "number", "head"]
def a_record (K : PySem.W.Frag) : AS :=
  (aSeq (aSet 4 (aJoined (aJCons (aFmt (aVar 0)) (aJCons (aC (.d (.str " "))) (aJCons (aFmt (aVar 1)) (aJCons (aC (.d (.str " "))) (aJCons (aFmt (aVar 2)) (aJCons (aC (.d (.str " "))) (aJCons (aFmt (aVar 3)) (aJCons (aC (.d (.str " "))) aJNil)))))))))) (aRet (aOp aAdd (aOp aAdd (aVar 4) (aCB aStrOf (aCons (aCall F__sum_of (fun _ _ => False) (aCons (aVar 4) aNil)) aNil))) (aC (.d (.str "\n"))))))
abbrev N__law_text : List Str := ["entry", "text"]
def a__law_text (K : PySem.W.Frag) : AS :=
  (aSeq (aSet 1 (aOp aAdd (aOp aAdd (aOp aAdd (aOp aAdd (aOp aAdd (aOp aAdd (aOp aAdd (aOp aIx (aVar 0) (aC (.d (.int 0)))) (aC (.d (.str " ")))) (aOp aIx (aVar 0) (aC (.d (.int 1))))) (aC (.d (.str " ")))) (aOp aIx (aVar 0) (aC (.d (.int 2))))) (aC (.d (.str " ")))) (aCB aStrOf (aCons (aOp aIx (aVar 0) (aC (.d (.int 3)))) aNil))) (aC (.d (.str " "))))) (aRet (aOp aAdd (aOp aAdd (aVar 1) (aCB aStrOf (aCons (aCall F__law_sum (fun _ _ => False) (aCons (aVar 1) aNil)) aNil))) (aC (.d (.str "\n"))))))
theorem len_record : ∀ as κ R E', F_record as κ R E' → as.length = (["kind", "other", "label", "number"] : List Str).length := by
  rintro as κ R E' ⟨e, rfl, _⟩; rfl
theorem len__law_text : ∀ as κ R E', F__law_text as κ R E' → as.length = (["entry"] : List Str).length := by
  rintro as κ R E' ⟨e, rfl, _⟩; rfl
theorem rd_record : ∀ as κ R E', F_record as κ R E' → a_record K (endsA K κ.length R) (startA N_record as) κ := by
  rintro as κ R E' ⟨e, rfl, rfl, hz, h⟩
  obtain ⟨h1, h2, h3, h4⟩ := hz
  have hn := num_len h4
  have hs := num_len (Nat.lt_trans (sumL_lt (tl (headS e))) (by decide : 9973 < 1000000000))
  have L : ∀ {n : Nat}, n ≤ 6000000 → n ≤ sizeLine := fun h => Nat.le_trans h (by decide)
  have hE : headS e = Str.empty ++ e.k ++ " " ++ e.o ++ " " ++ e.l ++ " " ++ num e.n ++ " " := by
    unfold headS; rw [emp_app]
  have len_emp : Str.empty.length = 0 := rfl
  have hh : (Str.empty ++ e.k ++ " " ++ e.o ++ " " ++ e.l ++ " " ++ num e.n ++ " ").length ≤ 3000020 := by
    simp only [app_len, len_sp, len_emp]; omega
  unfold recS at h
  rw [hE] at h hs
  refine ⟨L (by omega), L (by simp only [app_len, len_sp, len_emp]; omega), L (by simp only [app_len, len_sp, len_emp]; omega), L (by omega), L (by simp only [app_len, len_sp, len_emp]; omega), L (by simp only [app_len, len_sp, len_emp]; omega), L (by omega), L (by simp only [app_len, len_sp, len_emp]; omega), L (by simp only [app_len, len_sp, len_emp]; omega), log_lt h4, ?_, ?_, ?_⟩
  · show (Str.empty ++ e.k ++ " " ++ e.o ++ " " ++ e.l ++ " " ++ num e.n).length ≤ _
    exact L (by simp only [app_len, len_sp, len_emp]; omega)
  · exact L (Nat.le_trans hh (by decide))
  · refine sum_w ⟨log_lt (Nat.lt_trans (sumL_lt _) (by decide)), ?_, ?_, ?_⟩
    · exact L (Nat.le_trans (Nat.add_le_add hh hs) (by decide))
    · refine L (Nat.le_trans (Nat.le_of_eq (congrArg (· + _) (app_len _ _))) ?_)
      exact Nat.le_trans (Nat.add_le_add (Nat.add_le_add hh hs) (Nat.le_of_eq len_nl)) (by decide)
    · exact ⟨_, _, GhR.refl (Nat.le_refl _), h⟩
theorem rd__law_text : ∀ as κ R E', F__law_text as κ R E' → a__law_text K (endsA K κ.length R) (startA N__law_text as) κ := by
  rintro as κ R E' ⟨e, rfl, rfl, hz, h⟩
  obtain ⟨h1, h2, h3, h4⟩ := hz
  have hn := num_len h4
  have hs := num_len (Nat.lt_trans (sumL_lt (tl (headS e))) (by decide : 9973 < 1000000000))
  have L : ∀ {n : Nat}, n ≤ 6000000 → n ≤ sizeLine := fun h => Nat.le_trans h (by decide)
  have hh : (headS e).length ≤ 3000020 := by
    unfold headS
    simp only [app_len, len_sp]; omega
  unfold recS at h
  refine ⟨_, rfl, L (by rw [len_sp]; omega), _, rfl, L (by simp only [app_len, len_sp]; omega), L (by simp only [app_len, len_sp]; omega), _, rfl, L (by simp only [app_len, len_sp]; omega), L (by simp only [app_len, len_sp]; omega), _, rfl, log_lt h4, ?_, ?_, ?_⟩
  · show (e.k ++ " " ++ e.o ++ " " ++ e.l ++ " ").length + (num e.n).length ≤ _
    exact L (by simp only [app_len, len_sp]; omega)
  · show (e.k ++ " " ++ e.o ++ " " ++ e.l ++ " " ++ num e.n).length + _ ≤ _
    exact L (by simp only [app_len, len_sp]; omega)
  · refine lsum_w (s := headS e) ⟨log_lt (Nat.lt_trans (sumL_lt _) (by decide)), ?_, ?_, ?_⟩
    · exact L (Nat.le_trans (Nat.add_le_add hh hs) (by decide))
    · refine L (Nat.le_trans (Nat.le_of_eq (congrArg (· + _) (app_len _ _))) ?_)
      exact Nat.le_trans (Nat.add_le_add (Nat.add_le_add hh hs) (Nat.le_of_eq len_nl)) (by decide)
    · exact ⟨_, _, GhR.refl (Nat.le_refl _), h⟩
theorem rec_w {e : Ent} {κ : AK} {R : AR} {E : AX → AK → Prop} (hz : szE e) (h : R (.d (.str (recS e))) κ) : callW F_record E [.d (.str e.k), .d (.str e.o), .d (.str e.l), .d (.int (e.n : Nat))] κ R :=
  callW_i ⟨[], _, _, .nil, rfl, rfl, e, rfl, rfl, hz, Nat.zero_le _, rfl, rfl, h⟩
theorem text_w {e : Ent} {κ : AK} {R : AR} {E : AX → AK → Prop} (hz : szE e) (h : R (.d (.str (recS e))) κ) : callW F__law_text E [.d (entD e)] κ R :=
  callW_i ⟨[], _, _, .nil, rfl, rfl, e, rfl, rfl, hz, Nat.zero_le _, rfl, rfl, h⟩
end Tab
set_option Elab.async false
set_option linter.all false
set_option maxRecDepth 100000
set_option maxHeartbeats 4000000
/-! K24d: readings: numbers, spaces, the first record, all records -/
namespace Tab
open PySem L2 Ab Com
variable {K : PySem.W.Frag}
/-! ### numbers -/
theorem dig_mem {c : Nat} : c ∈ tl "0123456789" ↔ 48 ≤ c ∧ c ≤ 57 := by
  have h : tl "0123456789" = (List.range 10).map (48 + ·) := by decide +kernel
  rw [h, List.mem_map]
  constructor
  · rintro ⟨i, hi, rfl⟩; rw [List.mem_range] at hi; omega
  · intro h; exact ⟨c - 48, by rw [List.mem_range]; omega, by omega⟩
def F__is_number : FSp := fun as κ R _ => ∃ d : Str, as = [.d (.str d)] ∧ κ = [] ∧ d.length ≤ 1000000 ∧ ∀ b : Bool, (b = true ↔ isN (tl d)) → R (.d (.bool b)) []
abbrev N__is_number : List Str := ["digits", "sign"]
def a__is_number (K : PySem.W.Frag) : AS :=
  (aSeq (aIfS (aOr (aB (aOp aEq (aVar 0) (aC (.d (.str ""))))) (aOr (aB (aOp aGt (aCB aLen (aCons (aVar 0) aNil)) (aC (.d w_MOST_DIGITS)))) (aB (aOp aEq (aOp aIx (aVar 0) (aC (.d (.int 0)))) (aC (.d (.str "0"))))))) (aRet (aC (.d (.bool false)))) aNext) (aRet (aCB aAll (aCons (aLc (aIter (aVar 0)) (aName 1) aYes (aOp (aIn id) (aVar 1) (aC (.d w_DIGITS))) [1]) aNil))))
theorem len__is_number : ∀ as κ R E', F__is_number as κ R E' → as.length = (["digits"] : List Str).length := by
  rintro as κ R E' ⟨s, rfl, _⟩; rfl
theorem emp_tl {d : Str} : d = "" ↔ tl d = [] := ⟨fun h => by rw [h]; rfl, fun h => tl_inj (by rw [h]; rfl)⟩
theorem zero_tl : tl "0" = [48] := by decide +kernel
theorem all_id {bs : List Bool} : bs.all id = true ↔ ∀ b ∈ bs, b = true := by rw [List.all_eq_true]; rfl
theorem rd__is_number : ∀ as κ R E', F__is_number as κ R E' → a__is_number K (endsA K κ.length R) (startA N__is_number as) κ := by
  rintro as κ R E' ⟨d, rfl, rfl, hl, h⟩
  have fin : ∀ b : Bool, (b = true ↔ isN (tl d)) → (endsA K ([] : AK).length R).rt (.d (.bool b)) [] := fun b e => ⟨_, _, GhR.refl (Nat.le_refl _), h b e⟩
  have L : ∀ {n : Nat}, n ≤ 6000000 → n ≤ sizeLine := fun h => Nat.le_trans h (by decide)
  have no : ¬ isN (tl d) → (false = true ↔ isN (tl d)) := fun hn => ⟨fun e => Bool.noConfusion e, fun e => absurd e hn⟩
  refine bsel_i (fun h1 => fin false (no fun hn => ?_)) fun h1 => ⟨L (by omega), bsel_i (fun h2 => fin false (no fun hn => ?_)) fun h2 => ?_⟩
  · have h1 : decide (d = "") = true := h1
    exact ((isN_iff _).mp hn).1 (emp_tl.mp (of_decide_eq_true h1))
  · have h2 : decide ((9 : Int) < (d.length : Nat)) = true := h2
    have h3 := of_decide_eq_true h2
    have h4 := ((isN_iff _).mp hn).2.1
    rw [tl_len] at h3; omega
  have h1 : decide (d = "") = false := h1
  have h2 : decide ((9 : Int) < (d.length : Nat)) = false := h2
  have h2 := of_decide_eq_false h2
  have hne : tl d ≠ [] := fun e => of_decide_eq_false h1 (emp_tl.mpr e)
  obtain ⟨c, r, ec⟩ : ∃ c r, tl d = c :: r := by
    cases e : tl d with
    | nil => exact absurd e hne
    | cons c r => exact ⟨c, r, rfl⟩
  refine ⟨c, L (by omega), (show atI (tl d) ((0 : Nat) : Int) = some c from at_nat (by rw [ec]; rfl)), bsel_i (fun h3 => fin false (no fun hn => ?_)) fun h3 => ?_⟩
  · have h3 : decide ((⟨#[c]⟩ : Str) = "0") = true := h3
    have h3 := congrArg tl (of_decide_eq_true h3)
    rw [zero_tl] at h3
    have h3 : [c] = [48] := h3
    have := ((isN_iff _).mp hn).2.2.1
    rw [ec] at this
    exact this (congrArg some (List.cons.inj h3).1)
  have h3 : decide ((⟨#[c]⟩ : Str) = "0") = false := h3
  have hc : c ≠ 48 := fun e => of_decide_eq_false h3 (by rw [e]; decide +kernel)
  refine lc_s (fun i acc κ => acc = ((tl d).take i).map (fun c => .bool (decide (c ∈ tl "0123456789"))) ∧ κ = []) ⟨rfl, rfl⟩ ?_ ?_
  · rintro acc κ ⟨rfl, rfl⟩
    refine ⟨((tl d).take d.cps.size).map fun c => decide (c ∈ tl "0123456789"), by rw [List.map_map]; rfl, fin _ ?_⟩
    have e : (tl d).take d.cps.size = tl d := List.take_of_length_le (by rw [← tl_len]; exact Nat.le_refl _)
    rw [e, all_id, isN_iff]
    constructor
    · intro ha
      refine ⟨hne, by rw [← tl_len]; omega, by rw [ec]; exact fun e => hc (Option.some.inj e), fun x hx => dig_mem.mp (of_decide_eq_true (ha _ (List.mem_map.mpr ⟨x, hx, rfl⟩)))⟩
    · rintro ⟨_, _, _, ha⟩ b hb
      obtain ⟨x, hx, rfl⟩ := List.mem_map.mp hb
      exact decide_eq_true (dig_mem.mpr (ha x hx))
  · rintro i x acc κ hx ⟨rfl, rfl⟩
    refine ⟨x, rfl, _, rfl, ?_, ?_, rfl⟩
    · have : (((tl d).take i).map (fun c => PyData.bool (decide (c ∈ tl "0123456789")))).length ≤ (tl d).length := by rw [List.length_map]; exact List.length_take_le' ..
      have := tl_len d
      exact Nat.lt_of_le_of_lt (show _ ≤ 1000000 by omega) (by decide)
    · rw [List.take_succ, cps_at hx, List.map_append]; rfl
theorem isn_w {d : Str} {κ : AK} {R : AR} {E : AX → AK → Prop} (hl : d.length ≤ 1000000) (h : ∀ b : Bool, (b = true ↔ isN (tl d)) → R (.d (.bool b)) κ) : callW F__is_number E [.d (.str d)] κ R :=
  callW_i ⟨[], _, _, .nil, rfl, rfl, d, rfl, rfl, hl, fun b hb => ⟨Nat.zero_le _, rfl, rfl, h b hb⟩⟩
/-! ### spaces -/
def F__behind_spaces : FSp := fun as κ R _ => ∃ (x : Str) (p : Nat), as = [.d (.str x), .d (.int (p : Nat)), .d (.int 4)] ∧ κ = [] ∧ (∀ q, Beh (tl x) 4 p q → R (.d (.int (q : Nat))) []) ∧ (NoB (tl x) 4 p → R (.d .none) [])
abbrev N__behind_spaces : List Str := ["text", "at", "many", "_"]
def a__behind_spaces (K : PySem.W.Frag) : AS :=
  (aSeq (aFor (aRng1 (aCons (aVar 2) aNil)) (aName 3) (aSeq (aSet 1 (aOp aAdd (aBM "str" aFind3 (aVar 0) (aCons (aC (.d (.str " "))) (aCons (aVar 1) aNil))) (aC (.d (.int 1))))) (aIfS (aB (aOp aEq (aVar 1) (aC (.d (.int 0))))) (aRet (aC (.d .none))) aNext))) (aRet (aVar 1)))
theorem len__behind_spaces : ∀ as κ R E', F__behind_spaces as κ R E' → as.length = (["text", "at", "many"] : List Str).length := by
  rintro as κ R E' ⟨s, p, rfl, _⟩; rfl
theorem rd__behind_spaces : ∀ as κ R E', F__behind_spaces as κ R E' → a__behind_spaces K (endsA K κ.length R) (startA N__behind_spaces as) κ := by
  rintro as κ R E' ⟨s, p, rfl, rfl, h1, h2⟩
  refine ⟨by decide, by decide, ?_⟩
  refine for_r (fun i δ κ => ∃ v x, ∃ q : Nat, δ = [some (.d (.str s)), some (.d (.int v)), some (.d (.int 4)), x] ∧ v = (q : Int) ∧ Beh (tl s) i p q ∧ κ = []) ⟨_, _, p, rfl, rfl, .z p, rfl⟩ ?_ ?_
  · rintro δ κ ⟨v, x, q, rfl, rfl, hb, rfl⟩ _
    exact ⟨_, _, GhR.refl (Nat.le_refl _), h1 q hb⟩
  · rintro i δ κ hi ⟨v, x, q, rfl, rfl, hb, rfl⟩ _
    rcases find_cases s q with ⟨h3, h4⟩ | ⟨k, h3, h4, h5, h6⟩
    · refine ⟨rfl, bsel_i (fun _ => ⟨_, _, GhR.refl (Nat.le_refl _), h2 ⟨i, q, hi, hb, h4⟩⟩) fun ht => ?_⟩
      have ht : decide (Txt.find3 s " " (q : Int) + 1 = 0) = false := ht
      rw [h3] at ht; cases ht
    · refine ⟨rfl, bsel_i (fun ht => ?_) fun _ => ⟨_, _, k + 1, rfl, (by show Txt.find3 s " " (q : Int) + 1 = _; rw [h3]; rfl), hb.snoc h4 h5 h6, rfl⟩⟩
      have ht : decide (Txt.find3 s " " (q : Int) + 1 = 0) = true := ht
      have ht := of_decide_eq_true ht
      rw [h3] at ht; omega
theorem beh_w {x : Str} {p : Nat} {κ : AK} {R : AR} {E : AX → AK → Prop} (h1 : ∀ q, Beh (tl x) 4 p q → R (.d (.int (q : Nat))) κ) (h2 : NoB (tl x) 4 p → R (.d .none) κ) : callW F__behind_spaces E [.d (.str x), .d (.int (p : Nat)), .d (.int 4)] κ R :=
  callW_i ⟨[], _, _, .nil, rfl, rfl, x, p, rfl, rfl, fun q hq => ⟨Nat.zero_le _, rfl, rfl, h1 q hq⟩, fun hn => ⟨Nat.zero_le _, rfl, rfl, h2 hn⟩⟩
/-! ### the first record -/
def noRec (l : List Nat) : Prop := ∀ e, okR e → ¬ recL e <+: l
def F__first_record : FSp := fun as κ R _ => ∃ (x : Str) (p : Nat), as = [.d (.str x), .d (.int (p : Nat))] ∧ κ = [] ∧ x.length ≤ 1000000 ∧ p ≤ x.length ∧
  (∀ e, okR e → recL e <+: (tl x).drop p → R (.d (.tuple [entD e, .int ((p + (recL e).length : Nat) : Int)])) []) ∧ (noRec ((tl x).drop p) → R (.d (.tuple [.none, .int (p : Nat)])) [])
abbrev N__first_record : List Str := ["text", "at", "end", "kind", "other", "label", "digits", "_", "written"]
def a__first_record (K : PySem.W.Frag) : AS :=
  (aSeq (aSet 2 (aCall F__behind_spaces (fun _ _ => False) (aCons (aVar 0) (aCons (aVar 1) (aCons (aC (.d (.int 4))) aNil))))) (aSeq (aIfS (aB (aOp (aIsN id) (aVar 2) (aC (.d .none)))) (aRet (aTup (aCons (aC (.d .none)) (aCons (aVar 1) aNil)))) aNext) (aSeq (aAsg (aBM "str" aSplit (aSl (aVar 0) (aPart (aVar 1)) (aPart (aVar 2))) (aCons (aC (.d (.str " "))) aNil)) (aGUnl 5 (aGCons (aName 3) (aGCons (aName 4) (aGCons (aName 5) (aGCons (aName 6) (aGCons (aName 7) aGNil))))))) (aSeq (aIfS (aAnd (aB (aOp (aIn not) (aVar 3) (aC (.d w_KINDS)))) (aB (aOp (aIn not) (aVar 3) (aC (.d w_SUMMARY_KINDS))))) (aRet (aTup (aCons (aC (.d .none)) (aCons (aVar 1) aNil)))) aNext) (aSeq (aIfS (aOr (aNot (aTru (aVar 4))) (aOr (aNot (aTru (aVar 5))) (aNot (aTru (aCall F__is_number (fun _ _ => False) (aCons (aVar 6) aNil)))))) (aRet (aTup (aCons (aC (.d .none)) (aCons (aVar 1) aNil)))) aNext) (aSeq (aSet 8 (aCall F_record (fun _ _ => False) (aCons (aVar 3) (aCons (aVar 4) (aCons (aVar 5) (aCons (aCB aIntS (aCons (aVar 6) aNil)) aNil)))))) (aSeq (aIfS (aNot (aTru (aBM "str" aStarts3 (aVar 0) (aCons (aVar 8) (aCons (aVar 1) aNil))))) (aRet (aTup (aCons (aC (.d .none)) (aCons (aVar 1) aNil)))) aNext) (aRet (aTup (aCons (aTup (aCons (aVar 3) (aCons (aVar 4) (aCons (aVar 5) (aCons (aCB aIntS (aCons (aVar 6) aNil)) aNil))))) (aCons (aOp aAdd (aVar 1) (aCB aLen (aCons (aVar 8) aNil))) aNil)))))))))))
theorem len__first_record : ∀ as κ R E', F__first_record as κ R E' → as.length = (["text", "at"] : List Str).length := by
  rintro as κ R E' ⟨s, p, rfl, _⟩; rfl
theorem cut_mid {x : Str} {p q : Nat} (h1 : p ≤ q) (h2 : q ≤ x.length) : tl (cutS x (some (p : Int)) (some (q : Int))) = ((tl x).drop p).take (q - p) := by
  show ((tl x).drop (HT.sIx x.length 0 (some (p : Int)))).take (HT.sIx x.length x.length (some (q : Int)) - HT.sIx x.length 0 (some (p : Int))) = _
  rw [HT.sIx_nat, HT.sIx_nat, show min p x.length = p by omega, show min q x.length = q by omega]
theorem kind_in (z : Str) : z ∈ (["p", "k", "g", "t", "r"] : List Str) ∨ z ∈ (["a", "n", "y", "x", "w", "z"] : List Str) ↔ z ∈ kindsS := by
  unfold kindsS
  simp only [List.mem_cons, List.mem_nil_iff, or_false, or_assoc]
theorem bsel_and {c d : Bool} {S F X : Prop} (h : (c && d) = true → S) (h' : (c && d) = false → F) (k : bsel d S F → X) : bsel c X (bsel false S F) := by
  cases c with
  | false => exact h' rfl
  | true =>
    refine k ?_
    cases d with
    | false => exact h' rfl
    | true => exact h rfl
theorem pre_len {a b : List Nat} (h : a <+: b) : a.length ≤ b.length := by
  obtain ⟨c, rfl⟩ := h; simp
theorem rd__first_record : ∀ as κ R E', F__first_record as κ R E' → a__first_record K (endsA K κ.length R) (startA N__first_record as) κ := by
  rintro as κ R E' ⟨x, p, rfl, rfl, hx, hp, h1, h2⟩
  have L : ∀ {n : Nat}, n ≤ 6000000 → n ≤ sizeLine := fun h => Nat.le_trans h (by decide)
  have no : noRec ((tl x).drop p) → (endsA K ([] : AK).length R).rt (.d (.tuple [.none, .int (p : Nat)])) [] := fun hn => ⟨_, _, GhR.refl (Nat.le_refl _), h2 hn⟩
  refine beh_w (fun q hq => ?_) fun hn => ?_
  rotate_left
  · exact ⟨(show 2 ≤ sizeLine by decide), no fun e he hpre => no_rec he hpre hn⟩
  obtain ⟨a, b, c, d, ha, hb, hc, hd, e1, e2, hpq, hql⟩ := four hq
  have hql' : q ≤ x.length := by rw [tl_len]; exact hql
  have hs : Txt.split (cutS x (some (p : Int)) (some (q : Int))) " " = [⟨a.toArray⟩, ⟨b.toArray⟩, ⟨c.toArray⟩, ⟨d.toArray⟩, ⟨#[]⟩] := split4 ha hb hc hd (by rw [cut_mid hpq hql']; exact e2)
  have fld : ∀ e', okR e' → recL e' <+: (tl x).drop p → tl e'.k = a ∧ tl e'.o = b ∧ tl e'.l = c ∧ TL.numL e'.n = d := fun e' he' ⟨Z, hZ⟩ => by
    rw [e1] at hZ
    obtain ⟨z1, z2, z3, z4, _⟩ := rec_fields he' ha hb hc hd hZ
    exact ⟨z1, z2, z3, z4⟩
  have hlen : a.length + b.length + c.length + d.length ≤ 1000000 := by
    have := congrArg List.length e1
    rw [List.length_drop, ← tl_len] at this
    simp only [List.length_append, List.length_cons] at this
    omega
  have hcl : (cutS x (some (p : Int)) (some (q : Int))).length ≤ 1000000 := by
    rw [tl_len, cut_mid hpq hql', List.length_take, List.length_drop, ← tl_len]; omega
  refine ⟨L (by omega), rfl, (by decide +kernel), L (by omega), ?_⟩
  rw [hs]
  refine ⟨rfl, rfl, rfl, bsel_and (d := !inD (.str ⟨a.toArray⟩) ((["a", "n", "y", "x", "w", "z"] : List Str).map PyData.str)) (fun hk => ?_) (fun hk => ?_) fun k => ⟨rfl, rfl, k⟩⟩
  · refine ⟨(show 2 ≤ sizeLine by decide), no fun e' he' hp' => ?_⟩
    have hk : ((!inD (.str ⟨a.toArray⟩) ((["p", "k", "g", "t", "r"] : List Str).map PyData.str)) && (!inD (.str ⟨a.toArray⟩) ((["a", "n", "y", "x", "w", "z"] : List Str).map PyData.str))) = true := hk
    rw [inD_str, inD_str, Bool.and_eq_true, Bool.not_eq_true', Bool.not_eq_true', decide_eq_false_iff_not, decide_eq_false_iff_not] at hk
    have : e'.k = ⟨a.toArray⟩ := tl_inj (fld e' he' hp').1
    have hm := (kind_in e'.k).mpr he'.k
    rw [this] at hm
    exact hm.elim hk.1 hk.2
  have hk : ((!inD (.str ⟨a.toArray⟩) ((["p", "k", "g", "t", "r"] : List Str).map PyData.str)) && (!inD (.str ⟨a.toArray⟩) ((["a", "n", "y", "x", "w", "z"] : List Str).map PyData.str))) = false := hk
  have hkm : (⟨a.toArray⟩ : Str) ∈ kindsS := by
    rw [inD_str, inD_str, Bool.and_eq_false_iff, Bool.not_eq_false', Bool.not_eq_false', decide_eq_true_eq, decide_eq_true_eq] at hk
    exact (kind_in _).mp hk
  have el : ∀ l : List Nat, (⟨l.toArray⟩ : Str).length = l.length := fun l => by rw [tl_len]
  refine ⟨L (by rw [el]; omega), bsel_i (fun t1 => ⟨(show 2 ≤ sizeLine by decide), no fun e' he' hp' => ?_⟩) fun t1 => ⟨L (by rw [el]; omega), bsel_i (fun t2 => ⟨(show 2 ≤ sizeLine by decide), no fun e' he' hp' => ?_⟩) fun t2 => isn_w (by rw [el]; omega) fun bb hbb => bsel_i (fun t3 => ⟨(show 2 ≤ sizeLine by decide), no fun e' he' hp' => ?_⟩) fun t3 => ?_⟩⟩
  · have t1 : (!(((⟨b.toArray⟩ : Str).length : Int) != 0)) = true := t1
    rw [el, Bool.not_eq_true', bne_eq_false_iff_eq] at t1
    have hb0 : b = [] := List.length_eq_zero_iff.mp (by omega)
    exact he'.o0 ((fld e' he' hp').2.1.trans hb0)
  · have t2 : (!(((⟨c.toArray⟩ : Str).length : Int) != 0)) = true := t2
    rw [el, Bool.not_eq_true', bne_eq_false_iff_eq] at t2
    have hc0 : c = [] := List.length_eq_zero_iff.mp (by omega)
    exact he'.l0 ((fld e' he' hp').2.2.1.trans hc0)
  · have t3 : (!bb) = true := t3
    have hb : bb = false := by cases bb <;> simp at t3 ⊢
    have : bb = true := hbb.mpr ⟨e'.n, he'.n1, he'.n2, (fld e' he' hp').2.2.2.symm⟩
    rw [hb] at this; cases this
  have t1 : (!(((⟨b.toArray⟩ : Str).length : Int) != 0)) = false := t1
  have t2 : (!(((⟨c.toArray⟩ : Str).length : Int) != 0)) = false := t2
  have t3 : (!bb) = false := t3
  rw [el] at t1 t2
  have hbb' : bb = true := by cases bb <;> simp at t3 ⊢
  obtain ⟨n, n1, n2, en⟩ := hbb.mp hbb'
  have en : d = TL.numL n := en
  have hdn : (⟨d.toArray⟩ : Str) = num n := tl_inj (en.trans (tl_num n).symm)
  have hint : intText? ⟨d.toArray⟩ = some (n : Int) := by
    rw [hdn]; exact TL.int_num (Nat.le_trans (TL.numL_len (k := 9) (by decide) n2) (by decide))
  have hd9 : (⟨d.toArray⟩ : Str).length ≤ 640 := by
    rw [hdn]; exact Nat.le_trans (num_len n2) (by decide)
  obtain ⟨e, ee⟩ : ∃ e : Ent, e = ⟨⟨a.toArray⟩, ⟨b.toArray⟩, ⟨c.toArray⟩, n⟩ := ⟨_, rfl⟩
  have he : okR e := by
    subst ee
    refine ⟨hkm, fun hb0 => ?_, hb, fun hc0 => ?_, hc, n1, n2⟩
    · have hb0 : b = [] := hb0
      rw [hb0] at t1; cases t1
    · have hc0 : c = [] := hc0
      rw [hc0] at t2; cases t2
  have hz : szE e := by
    subst ee
    exact ⟨by rw [el]; omega, by rw [el]; omega, by rw [el]; omega, n2⟩
  have hrl : (recS e).length ≤ 6000000 := by
    have h9 := num_len n2
    have h10 := num_len (Nat.lt_trans (sumL_lt (tl (headS e))) (by decide : 9973 < 1000000000))
    have h3 := hz.k
    have h4 := hz.o
    have h5 := hz.l
    have h6 : e.n = n := by rw [ee]
    unfold recS
    rw [app_len, app_len, len_nl]
    unfold headS at h10 ⊢
    rw [h6] at h10 ⊢
    simp only [app_len, len_sp] at h10 ⊢; omega
  have hst := starts_at (x := x) (y := recS e) (p := p)
  refine ⟨_, hint, hd9, ?_⟩
  have goal : ∀ {R2 : AR}, R2 (.d (.str (recS e))) [] → callW F_record (fun _ _ => False) [.d (.str ⟨a.toArray⟩), .d (.str ⟨b.toArray⟩), .d (.str ⟨c.toArray⟩), .d (.int (n : Int))] [] R2 := fun {R2} h => by
    have := rec_w (E := fun _ _ => False) (κ := []) (R := R2) hz h
    rw [ee] at this; exact this
  refine goal ⟨rfl, bsel_i (fun t4 => ⟨(show 2 ≤ sizeLine by decide), no fun e' he' hp' => ?_⟩) fun t4 => ⟨_, hint, hd9, (show 4 ≤ sizeLine by decide), L hrl, (show 2 ≤ sizeLine by decide), _, _, GhR.refl (Nat.le_refl _), ?_⟩⟩
  · have t4 : (!(Txt.startswith3 x (recS e) (p : Int))) = true := t4
    rw [hst, Bool.not_eq_true', decide_eq_false_iff_not] at t4
    obtain ⟨z1, z2, z3, z4⟩ := fld e' he' hp'
    have : e' = e := by
      rw [ee]
      exact ent_ext z1 z2 z3 (z4.trans en)
    rw [this] at hp'
    have hl := pre_len hp'
    rw [← tl_rec, ← tl_len, List.length_drop, ← tl_len] at hl
    exact t4 ⟨by rw [tl_rec]; exact hp', by omega⟩
  · have t4 : (!(Txt.startswith3 x (recS e) (p : Int))) = false := t4
    rw [hst, Bool.not_eq_false', decide_eq_true_eq, tl_rec] at t4
    have := h1 e he t4.1
    rw [← tl_rec, ← tl_len] at this
    rw [ee] at this ⊢
    exact this
theorem first_w {x : Str} {p : Nat} {κ : AK} {R : AR} {E : AX → AK → Prop} (hx : x.length ≤ 1000000) (hp : p ≤ x.length) (h1 : ∀ e, okR e → recL e <+: (tl x).drop p → R (.d (.tuple [entD e, .int ((p + (recL e).length : Nat) : Int)])) κ) (h2 : noRec ((tl x).drop p) → R (.d (.tuple [.none, .int (p : Nat)])) κ) : callW F__first_record E [.d (.str x), .d (.int (p : Nat))] κ R :=
  callW_i ⟨[], _, _, .nil, rfl, rfl, x, p, rfl, rfl, hx, hp, fun e he hpre => ⟨Nat.zero_le _, rfl, rfl, h1 e he hpre⟩, fun hn => ⟨Nat.zero_le _, rfl, rfl, h2 hn⟩⟩
/-! ### all records -/
def recsL (es : List Ent) : List Nat := es.flatMap recL
theorem recsL_snoc (es : List Ent) (e : Ent) : recsL (es ++ [e]) = recsL es ++ recL e := by unfold recsL; simp
def F_read_records : FSp := fun as κ R _ => ∃ (x : Str) (es : List Ent) (rest : List Nat), as = [.d (.str x)] ∧ κ = [] ∧ x.length ≤ 1000000 ∧ (∀ e ∈ es, okR e) ∧ tl x = recsL es ++ rest ∧ noRec rest ∧ R (.d (.list (es.map entD))) []
abbrev N_read_records : List Str := ["text", "records", "parts", "behind"]
def a_read_records (K : PySem.W.Frag) : AS :=
  (aSeq (aSet 1 (aLst aNil)) (aSeq (aAsg (aCall F__first_record (fun _ _ => False) (aCons (aVar 0) (aCons (aC (.d (.int 0))) aNil))) (aGTup 2 (aGCons (aName 2) (aGCons (aName 3) aGNil)))) (aCut (aWhile (aB (aOp (aIsN not) (aVar 2) (aC (.d .none)))) (aSeq (aDrop (aBM "list" aAppend (aVar 1) (aCons (aVar 2) aNil))) (aAsg (aCall F__first_record (fun _ _ => False) (aCons (aVar 0) (aCons (aVar 3) aNil))) (aGTup 2 (aGCons (aName 2) (aGCons (aName 3) aGNil)))))) (aRet (aVar 1)))))
theorem len_read_records : ∀ as κ R E', F_read_records as κ R E' → as.length = (["text"] : List Str).length := by
  rintro as κ R E' ⟨s, _, _, rfl, _⟩; rfl
theorem rec_pos (e : Ent) : 0 < (recL e).length := by
  unfold recL; rw [List.length_append, List.length_append, List.length_singleton]; omega
theorem recsL_len (es : List Ent) : es.length ≤ (recsL es).length := by
  induction es with
  | nil => exact Nat.zero_le _
  | cons e es ih =>
    have h1 : recsL (e :: es) = recL e ++ recsL es := rfl
    have h2 := rec_pos e
    rw [h1, List.length_append, List.length_cons]; omega
theorem rd_read_records : ∀ as κ R E', F_read_records as κ R E' → a_read_records K (endsA K κ.length R) (startA N_read_records as) κ := by
  rintro as κ R E' ⟨x, es, rest, rfl, rfl, hx, hok, htl, hn, h⟩
  have hle : (recsL es).length ≤ x.length := by rw [tl_len, htl, List.length_append]; omega
  have hes := recsL_len es
  -- the i-th call
  have call : ∀ {κ : AK} {R2 : AR} {E : AX → AK → Prop} (i : Nat), i ≤ es.length → (∀ e, es[i]? = some e → R2 (.d (.tuple [entD e, .int ((recsL (es.take (i + 1))).length : Nat)])) κ) → (i = es.length → R2 (.d (.tuple [.none, .int ((recsL (es.take i)).length : Nat)])) κ) →
      callW F__first_record E [.d (.str x), .d (.int ((recsL (es.take i)).length : Nat))] κ R2 := by
    intro κ R2 E i hi k1 k2
    have hsplit : recsL es = recsL (es.take i) ++ recsL (es.drop i) := by
      unfold recsL; rw [← List.flatMap_append, List.take_append_drop]
    have hdrop : (tl x).drop (recsL (es.take i)).length = recsL (es.drop i) ++ rest := by
      rw [htl, hsplit, List.append_assoc, List.drop_left]
    have hpl : (recsL (es.take i)).length ≤ x.length := by
      rw [hsplit, List.length_append] at hle; omega
    refine first_w hx hpl (fun e he hpre => ?_) fun hnr => ?_
    · rw [hdrop] at hpre
      by_cases hlt : i < es.length
      · have hd : es.drop i = es[i] :: es.drop (i + 1) := List.drop_eq_getElem_cons hlt
        obtain ⟨Z, hZ⟩ := hpre
        rw [hd] at hZ
        have hZ : recL e ++ Z = recL es[i] ++ (recsL (es.drop (i + 1)) ++ rest) := by
          rw [hZ]
          show (recL es[i] ++ recsL (es.drop (i + 1))) ++ rest = _
          rw [List.append_assoc]
        have ee := rec_uniq he (hok _ (List.getElem_mem hlt)) hZ
        have := k1 e (by rw [ee]; exact List.getElem?_eq_getElem hlt)
        have ht : es.take (i + 1) = es.take i ++ [e] := by rw [List.take_succ, List.getElem?_eq_getElem hlt, ee]; rfl
        rw [ht, recsL_snoc, List.length_append] at this
        exact this
      · have hd : es.drop i = [] := List.drop_eq_nil_of_le (by omega)
        rw [hd] at hpre
        exact absurd hpre (hn e he)
    · by_cases hlt : i < es.length
      · rw [hdrop] at hnr
        have hd : es.drop i = es[i] :: es.drop (i + 1) := List.drop_eq_getElem_cons hlt
        refine absurd ⟨recsL (es.drop (i + 1)) ++ rest, ?_⟩ (hnr es[i] (hok _ (List.getElem_mem hlt)))
        rw [hd]
        show _ = (recL es[i] ++ recsL (es.drop (i + 1))) ++ rest
        rw [List.append_assoc]
      · exact k2 (by omega)
  let St : Nat → AD → AK → Prop := fun i δ κ => i ≤ es.length ∧ κ = [.ld ((es.take i).map entD)] ∧ ∃ v p, δ = [some (.d (.str x)), some (.c 0), some (.d v), some (.d (.int p))] ∧ ((∃ e, es[i]? = some e ∧ v = entD e ∧ p = ((recsL (es.take (i + 1))).length : Nat)) ∨ (i = es.length ∧ v = .none))
  refine ⟨Nat.zero_le _, ?_⟩
  refine call 0 (Nat.zero_le _) (fun e he => ⟨rfl, St es.length, ⟨fun m δ κ => ∃ i, m = es.length - i ∧ St i δ κ, ⟨_, 0, rfl, Nat.zero_le _, rfl, _, _, rfl, .inl ⟨e, he, rfl, rfl⟩⟩, ?_⟩, ?_⟩) fun h0 => ⟨rfl, St es.length, ⟨fun m δ κ => ∃ i, m = es.length - i ∧ St i δ κ, ⟨_, 0, rfl, Nat.zero_le _, rfl, _, _, rfl, .inr ⟨h0, rfl⟩⟩, ?_⟩, ?_⟩
  · rintro m δ κ ⟨i, rfl, hi, rfl, v, p, rfl, hv⟩ _
    rcases hv with ⟨e2, he2, rfl, rfl⟩ | ⟨rfl, rfl⟩
    · have hlt : i < es.length := (List.getElem?_eq_some_iff.mp he2).1
      have hsn : (es.take i).map entD ++ [entD e2] = (es.take (i + 1)).map entD := by
        rw [List.take_succ, he2, List.map_append]; rfl
      refine ⟨St (i + 1), fun δ κ hs => ⟨es.length - (i + 1), by omega, i + 1, rfl, hs⟩, rfl, ?_, call (i + 1) hlt (fun e3 he3 => ⟨rfl, ?_⟩) fun h3 => ⟨rfl, ?_⟩⟩
      · rw [List.length_map, List.length_take]
        exact Nat.lt_of_le_of_lt (show _ ≤ 1000000 by omega) (by decide)
      · exact ⟨hlt, congrArg (fun z => [Cell.ld z]) hsn, _, _, rfl, .inl ⟨e3, he3, rfl, rfl⟩⟩
      · exact ⟨hlt, congrArg (fun z => [Cell.ld z]) hsn, _, _, rfl, .inr ⟨h3, rfl⟩⟩
    · exact ⟨Nat.le_refl _, rfl, _, _, rfl, .inr ⟨rfl, rfl⟩⟩
  · rintro δ κ ⟨_, rfl, v, p, rfl, _⟩ _
    refine ⟨_, _, (GhR.freeze (Nat.zero_le _) 0 _ rfl).trans (GhR.take 0 (Nat.le_refl _) (Nat.zero_le _) rfl rfl), ?_⟩
    rw [List.take_length]; exact h
  · rintro m δ κ ⟨i, rfl, hi, rfl, v, p, rfl, hv⟩ _
    rcases hv with ⟨e2, he2, rfl, rfl⟩ | ⟨rfl, rfl⟩
    · have hlt : i < es.length := (List.getElem?_eq_some_iff.mp he2).1
      have hsn : (es.take i).map entD ++ [entD e2] = (es.take (i + 1)).map entD := by
        rw [List.take_succ, he2, List.map_append]; rfl
      refine ⟨St (i + 1), fun δ κ hs => ⟨es.length - (i + 1), by omega, i + 1, rfl, hs⟩, rfl, ?_, call (i + 1) hlt (fun e3 he3 => ⟨rfl, ?_⟩) fun h3 => ⟨rfl, ?_⟩⟩
      · rw [List.length_map, List.length_take]
        exact Nat.lt_of_le_of_lt (show _ ≤ 1000000 by omega) (by decide)
      · exact ⟨hlt, congrArg (fun z => [Cell.ld z]) hsn, _, _, rfl, .inl ⟨e3, he3, rfl, rfl⟩⟩
      · exact ⟨hlt, congrArg (fun z => [Cell.ld z]) hsn, _, _, rfl, .inr ⟨h3, rfl⟩⟩
    · exact ⟨Nat.le_refl _, rfl, _, _, rfl, .inr ⟨rfl, rfl⟩⟩
  · rintro δ κ ⟨_, rfl, v, p, rfl, _⟩ _
    refine ⟨_, _, (GhR.freeze (Nat.zero_le _) 0 _ rfl).trans (GhR.take 0 (Nat.le_refl _) (Nat.zero_le _) rfl rfl), ?_⟩
    rw [List.take_length]; exact h
theorem read_w {x : Str} {es : List Ent} {rest : List Nat} {κ : AK} {R : AR} {E : AX → AK → Prop} (hx : x.length ≤ 1000000) (hok : ∀ e ∈ es, okR e) (ht : tl x = recsL es ++ rest) (hn : noRec rest) (h : R (.d (.list (es.map entD))) κ) : callW F_read_records E [.d (.str x)] κ R :=
  callW_i ⟨[], _, _, .nil, rfl, rfl, x, es, rest, rfl, rfl, hx, hok, ht, hn, Nat.zero_le _, rfl, rfl, h⟩
end Tab
set_option Elab.async false
set_option linter.all false
set_option maxRecDepth 100000
set_option maxHeartbeats 4000000
/-! K24e: readings: drawn records, whole ones, equality -/
namespace Tab
open PySem L2 Ab Com
variable {K : PySem.W.Frag}
structure lowE (e : Ent) : Prop where
  ok : okR e
  o : e.o.length ≤ 13
  l : e.l.length ≤ 27
  oc : ∀ c ∈ tl e.o, c < 128
  lc : ∀ c ∈ tl e.l, c < 128
theorem words_in : ∀ k ∈ kindsS, ∀ c ∈ tl k, c < 128 := by decide +kernel
theorem lowE.sz {e : Ent} (h : lowE e) : szE e := ⟨by rw [(kinds_one _ h.ok.k).2]; decide, Nat.le_trans h.o (by decide), Nat.le_trans h.l (by decide), h.ok.n2⟩
theorem lowE.len {e : Ent} (h : lowE e) : (recL e).length ≤ 100 := by
  have h9 := num_len h.ok.n2
  have h10 := num_len (Nat.lt_trans (sumL_lt (tl (headS e))) (by decide : 9973 < 1000000000))
  have h3 := (kinds_one _ h.ok.k).2
  have h4 := h.o
  have h5 := h.l
  rw [← tl_rec, ← tl_len]
  unfold recS
  rw [app_len, app_len, len_nl]
  unfold headS at h10 ⊢
  simp only [app_len, len_sp] at h10 ⊢; omega
theorem lowE.chars {e : Ent} (h : lowE e) : ∀ c ∈ recL e, c < 128 := by
  intro c hc
  rw [recL_eq] at hc
  simp only [List.mem_append, List.mem_cons, List.mem_nil_iff, or_false] at hc
  rcases hc with hc | hc | hc | hc | hc | hc | hc | hc | hc | hc
  · exact words_in _ h.ok.k c hc
  · omega
  · exact h.oc c hc
  · omega
  · exact h.lc c hc
  · omega
  · have := numL_dig hc; omega
  · omega
  · have := numL_dig hc; omega
  · omega
/-! ### equality -/
theorem ok_low {z : Str} (h : ∀ c ∈ tl z, c < 128) : PyData.strOk z = true := by
  unfold PyData.strOk
  rw [← Array.all_toList, List.all_eq_true]
  exact fun c hc => decide_eq_true (Nat.lt_trans (h c hc) (by decide))
theorem lay_ent {e : Ent} (h : lowE e) : (entD e).canLay0 = true ∧ (entD e).depth ≤ 4 := by
  have h1 := ok_low (words_in _ h.ok.k)
  have h2 := ok_low h.oc
  have h3 := ok_low h.lc
  unfold entD
  simp [PyData.canLay0, PyData.canLayAll0, PyData.depth, PyData.depthAll, h1, h2, h3]
theorem lay_all : ∀ {es : List Ent}, (∀ e ∈ es, lowE e) → PyData.canLayAll0 (es.map entD) = true ∧ PyData.depthAll (es.map entD) ≤ 4
  | [], _ => ⟨rfl, Nat.zero_le _⟩
  | e :: es, h => by
    obtain ⟨h1, h2⟩ := lay_ent (h e (List.mem_cons_self ..))
    obtain ⟨h3, h4⟩ := lay_all fun x hx => h x (List.mem_cons_of_mem _ hx)
    simp only [List.map_cons, PyData.canLayAll0, PyData.depthAll, h1, h3]
    exact ⟨rfl, by omega⟩
theorem sh_es {es : List Ent} (h : ∀ e ∈ es, lowE e) : SeqAt.shaped (.list (es.map entD)) = true := by
  obtain ⟨h1, h2⟩ := lay_all h
  unfold SeqAt.shaped
  have hd : (PyData.list (es.map entD)).depth ≤ 64 := by simp only [PyData.depth]; omega
  rw [decide_eq_true hd]
  simp only [PyData.canLay0, h1, Bool.and_true]
theorem eqv_ent (e : Ent) : PyData.eqv (entD e) (entD e) = true := by
  show ((e.k == e.k) && ((e.o == e.o) && ((e.l == e.l) && (((e.n : Int) == (e.n : Int)) && true)))) = true
  simp
theorem eqv_es : ∀ es : List Ent, PyData.eqv (.list (es.map entD)) (.list (es.map entD)) = true := by
  intro es
  show PyData.eqvAll (es.map entD) (es.map entD) = true
  induction es with
  | nil => rfl
  | cons e es ih =>
    show (PyData.eqv (entD e) (entD e) && PyData.eqvAll (es.map entD) (es.map entD)) = true
    rw [eqv_ent, ih]; rfl
/-! ### drawn records -/
theorem name_low {z : Str} (h : isName z) : tl z ≠ [] ∧ 32 ∉ tl z ∧ z.length ≤ 12 ∧ ∀ c ∈ tl z, c < 128 := by
  obtain ⟨⟨c, r, e, hc, hr, hl⟩, _⟩ := h
  have hb : ∀ x ∈ tl z, 48 ≤ x ∧ x ≤ 122 := by
    intro x hx
    rw [e] at hx
    rcases List.mem_cons.mp hx with rfl | hx
    · unfold low at hc; omega
    · have := hr x hx
      unfold Com.run low dig at this; omega
  refine ⟨by rw [e]; simp, fun hm => ?_, ?_, fun x hx => ?_⟩
  · have := hb 32 hm; omega
  · rw [tl_len, e, List.length_cons]; omega
  · have := hb x hx; omega
theorem kind_at : ∀ c ∈ tl "pkgtranyxwz", (⟨#[c]⟩ : Str) ∈ kindsS := by decide +kernel
theorem kind_len : ("pkgtranyxwz" : Str).length = 11 := by decide +kernel
def F__law_record : FSp := fun as κ R _ => ∃ s : Cell, as = [.c 0] ∧ κ = [s] ∧ isSt s ∧ ∀ e s', isSt s' → lowE e → R (.d (entD e)) [s']
abbrev N__law_record : List Str := ["state", "kind", "other", "label", "number"]
def a__law_record (K : PySem.W.Frag) : AS :=
  (aSeq (aSet 1 (aOp aIx (aC (.d (.str "pkgtranyxwz"))) (aCall F__law_draw (fun _ _ => False) (aCons (aVar 0) (aCons (aC (.d (.int 11))) aNil))))) (aSeq (aSet 2 (aCall F__law_name (fun _ _ => False) (aCons (aVar 0) aNil))) (aSeq (aSet 3 (aCall F__law_name (fun _ _ => False) (aCons (aVar 0) aNil))) (aCut (aIfS (aB (aOp aEq (aCall F__law_draw (fun _ _ => False) (aCons (aVar 0) (aCons (aC (.d (.int 3))) aNil))) (aC (.d (.int 2))))) (aSet 3 (aOp aIx (aLstD (aCons (aC (.d (.str "."))) (aCons (aOp aAdd (aOp aAdd (aVar 3) (aC (.d (.str ".")))) (aVar 2)) aNil))) (aCall F__law_draw (fun _ _ => False) (aCons (aVar 0) (aCons (aC (.d (.int 2))) aNil))))) aNext) (aSeq (aSet 4 (aOp aAdd (aC (.d (.int 1))) (aCall F__law_draw (fun _ _ => False) (aCons (aVar 0) (aCons (aOp aIx (aLstD (aCons (aC (.d (.int 9))) (aCons (aC (.d (.int 999999999))) aNil))) (aCall F__law_draw (fun _ _ => False) (aCons (aVar 0) (aCons (aC (.d (.int 2))) aNil)))) aNil))))) (aRet (aTup (aCons (aVar 1) (aCons (aVar 2) (aCons (aVar 3) (aCons (aVar 4) aNil)))))))))))
theorem len__law_record : ∀ as κ R E', F__law_record as κ R E' → as.length = (["state"] : List Str).length := by
  rintro as κ R E' ⟨s, rfl, _⟩; rfl
theorem rd__law_record : ∀ as κ R E', F__law_record as κ R E' → a__law_record K (endsA K κ.length R) (startA N__law_record as) κ := by
  rintro as κ R E' ⟨s, rfl, rfl, hs, h⟩
  have L : ∀ {n : Nat}, n ≤ 6000000 → n ≤ sizeLine := fun h => Nat.le_trans h (by decide)
  refine draw_w hs (by decide) (by decide) fun v s1 hs1 h0 h1 => ?_
  obtain ⟨c, hc1, hc2, _⟩ := at_mem (xs := tl "pkgtranyxwz") (i := v) h0 (by rw [← tl_len, kind_len]; omega)
  have hk := kind_at c hc2
  refine ⟨c, L (by rw [kind_len]; decide), hc1, ?_⟩
  refine name_tw hs1 fun o s2 hs2 ho => name_tw hs2 fun l s3 hs3 hl => ?_
  obtain ⟨o1, o2, o3, o4⟩ := name_low ho
  obtain ⟨l1, l2, l3, l4⟩ := name_low hl
  have hdot : ∀ c ∈ tl ".", c < 128 := by decide +kernel
  have hdl : (".": Str).length = 1 := by decide +kernel
  refine ⟨fun δ κ => ∃ s l, δ = [some (.c 0), some (.d (.str ⟨#[c]⟩)), some (.d (.str o)), some (.d (.str l)), none] ∧ κ = [s] ∧ isSt s ∧ tl l ≠ [] ∧ 32 ∉ tl l ∧ l.length ≤ 27 ∧ ∀ c ∈ tl l, c < 128, ?_, ?_⟩
  · refine draw_w hs3 (by decide) (by decide) fun v2 s4 hs4 h20 h21 => bsel_i (fun _ => ?_) fun _ => ⟨s4, l, rfl, rfl, hs4, l1, l2, by omega, l4⟩
    refine ⟨L (by rw [hdl]; omega), L (by rw [app_len, hdl]; omega), (show 2 ≤ sizeLine by decide), ?_⟩
    refine draw_w hs4 (by decide) (by decide) fun v3 s5 hs5 h30 h31 => ?_
    have : v3 = 0 ∨ v3 = 1 := by omega
    rcases this with rfl | rfl
    · exact ⟨_, at_nat (j := 0) rfl, s5, _, rfl, rfl, hs5, by decide +kernel, by decide +kernel, by decide +kernel, hdot⟩
    · refine ⟨_, at_nat (j := 1) rfl, s5, _, rfl, rfl, hs5, ?_, ?_, ?_, ?_⟩
      · rw [tl_app, tl_app]; simp [l1]
      · rw [tl_app, tl_app]
        intro hm
        rcases List.mem_append.mp hm with hm | hm
        · rcases List.mem_append.mp hm with hm | hm
          · exact l2 hm
          · exact absurd hm (by decide +kernel)
        · exact o2 hm
      · rw [app_len, app_len, hdl]; omega
      · intro x hm
        rw [tl_app, tl_app] at hm
        rcases List.mem_append.mp hm with hm | hm
        · rcases List.mem_append.mp hm with hm | hm
          · exact l4 x hm
          · exact hdot x hm
        · exact o4 x hm
  · rintro δ κ ⟨s, l, rfl, rfl, hs, q1, q2, q3, q4⟩ _
    have fin : ∀ v s', isSt s' → 0 ≤ v → v < 999999999 → (endsA K [s].length R).rt (.d (.tuple [.str ⟨#[c]⟩, .str o, .str l, .int (1 + v)])) [s'] := fun v s' hs' h0 h1 => by
      refine ⟨_, _, GhR.refl (Nat.le_refl _), ?_⟩
      obtain ⟨n, hn⟩ : ∃ n : Nat, 1 + v = (n : Int) := ⟨(1 + v).toNat, by omega⟩
      rw [hn]
      exact h ⟨⟨#[c]⟩, o, l, n⟩ s' hs' ⟨⟨hk, o1, o2, q1, q2, by show 1 ≤ n; omega, by show n < 1000000000; omega⟩, by show o.length ≤ 13; omega, q3, o4, q4⟩
    refine ⟨by decide, ?_⟩
    refine draw_w hs (by decide) (by decide) fun v3 s5 hs5 h30 h31 => ?_
    have : v3 = 0 ∨ v3 = 1 := by omega
    rcases this with rfl | rfl
    · exact ⟨_, at_nat (j := 0) rfl, draw_w hs5 (by decide) (by decide) fun v4 s6 hs6 h40 h41 => ⟨(show 4 ≤ sizeLine by decide), fin v4 s6 hs6 h40 (by omega)⟩⟩
    · exact ⟨_, at_nat (j := 1) rfl, draw_w hs5 (by decide) (by decide) fun v4 s6 hs6 h40 h41 => ⟨(show 4 ≤ sizeLine by decide), fin v4 s6 hs6 h40 (by omega)⟩⟩
theorem drec_w {s : Cell} {κr : AK} {E : AX → AK → Prop} {R : AR} (hs : isSt s) (k : ∀ e s', isSt s' → lowE e → R (.d (entD e)) (s' :: κr)) : callW F__law_record E [.c 0] (s :: κr) R :=
  callW_i ⟨[0], _, _, by decide, rfl, sel0t hs, s, rfl, rfl, hs, fun e s' hs' he => ⟨Nat.le_refl _, cl1t hs', rfl, k e s' hs' he⟩⟩
/-! ### whole ones -/
def F__law_whole : FSp := fun as κ R _ => ∃ (es : List Ent) (pl : Nat), as = [.d (.list (es.map fun e => .str (recS e))), .d (.int (pl : Nat))] ∧ κ = [] ∧ (∀ e ∈ es, lowE e) ∧
  ∀ w : Nat, w ≤ es.length → (∀ j, j < es.length → ((recsL (es.take (j + 1))).length ≤ pl ↔ j < w)) → R (.d (.int (w : Nat))) []
abbrev N__law_whole : List Str := ["texts", "length", "count", "size", "text"]
def a__law_whole (K : PySem.W.Frag) : AS :=
  (aSeq (aSet 2 (aC (.d (.int 0)))) (aSeq (aSet 3 (aC (.d (.int 0)))) (aSeq (aFor (aIter (aVar 0)) (aName 4) (aSeq (aSet 3 (aOp aAdd (aVar 3) (aCB aLen (aCons (aVar 4) aNil)))) (aIfS (aB (aOp aLe (aVar 3) (aVar 1))) (aSet 2 (aOp aAdd (aVar 2) (aC (.d (.int 1))))) aNext))) (aRet (aVar 2)))))
theorem len__law_whole : ∀ as κ R E', F__law_whole as κ R E' → as.length = (["texts", "length"] : List Str).length := by
  rintro as κ R E' ⟨s, _, rfl, _⟩; rfl
theorem recsL_take {es : List Ent} {i j : Nat} (h : i ≤ j) : (recsL (es.take i)).length ≤ (recsL (es.take j)).length := by
  have : es.take j = es.take i ++ (es.take j).drop i := by
    have := (List.take_append_drop i (es.take j)).symm
    rwa [List.take_take, Nat.min_eq_left h] at this
  rw [this]
  unfold recsL
  rw [List.flatMap_append, List.length_append]; omega
theorem rd__law_whole : ∀ as κ R E', F__law_whole as κ R E' → a__law_whole K (endsA K κ.length R) (startA N__law_whole as) κ := by
  rintro as κ R E' ⟨es, pl, rfl, rfl, hes, h⟩
  have L : ∀ {n : Nat}, n ≤ 6000000 → n ≤ sizeLine := fun h => Nat.le_trans h (by decide)
  refine for_d (fun i δ κ => ∃ a b : Int, ∃ x, ∃ w : Nat, δ = [some (.d (.list (es.map fun e => .str (recS e)))), some (.d (.int (pl : Nat))), some (.d (.int a)), some (.d (.int b)), x] ∧ κ = [] ∧ a = w ∧ b = ((recsL (es.take i)).length : Nat) ∧ w ≤ i ∧ ∀ j, j < i → ((recsL (es.take (j + 1))).length ≤ pl ↔ j < w)) ⟨_, _, _, 0, rfl, rfl, rfl, rfl, Nat.le_refl _, fun j hj => absurd hj (Nat.not_lt_zero _)⟩ ?_ ?_
  · rintro δ κ ⟨a, b, x, w, rfl, rfl, rfl, rfl, hw, hj⟩ _
    rw [List.length_map] at hw hj
    exact ⟨_, _, GhR.refl (Nat.le_refl _), h w hw hj⟩
  · rintro i d δ κ hd ⟨a, b, x, w, rfl, rfl, rfl, rfl, hw, hj⟩ _
    rw [List.getElem?_map] at hd
    obtain ⟨e, he, rfl⟩ := Option.map_eq_some_iff.mp hd
    have hel := (hes e (List.mem_of_getElem? he)).len
    have hsz : (recsL (es.take (i + 1))).length = (recsL (es.take i)).length + (recS e).length := by
      rw [List.take_succ, he]
      show (recsL (es.take i ++ [e])).length = _
      rw [recsL_snoc, List.length_append, ← tl_rec, ← tl_len]
    rw [← tl_rec, ← tl_len] at hel
    have hsi : ((recsL (es.take i)).length : Int) + ((recS e).length : Int) = ((recsL (es.take (i + 1))).length : Nat) := by rw [hsz]; rfl
    refine ⟨L (by omega), bsel_i (fun ht => ?_) fun ht => ?_⟩
    · have ht : decide (((recsL (es.take i)).length : Int) + ((recS e).length : Int) ≤ (pl : Int)) = true := ht
      have ht := of_decide_eq_true ht
      rw [hsi] at ht
      have hwi : w = i := by
        rcases Nat.lt_or_ge w i with hlt | hge
        · have := (hj w hlt).mp (Nat.le_trans (recsL_take (by omega)) (Int.ofNat_le.mp ht))
          omega
        · omega
      refine ⟨_, _, _, w + 1, rfl, rfl, rfl, hsi, by omega, fun j hj' => ?_⟩
      exact ⟨fun _ => by omega, fun _ => Nat.le_trans (recsL_take (by omega)) (Int.ofNat_le.mp ht)⟩
    · have ht : decide (((recsL (es.take i)).length : Int) + ((recS e).length : Int) ≤ (pl : Int)) = false := ht
      have ht := of_decide_eq_false ht
      rw [hsi] at ht
      refine ⟨_, _, _, w, rfl, rfl, rfl, hsi, by omega, fun j hj' => ?_⟩
      by_cases hji : j < i
      · exact hj j hji
      · have : j = i := by omega
        subst this
        exact ⟨fun hl => absurd (Int.ofNat_le.mpr hl) ht, fun hl => by omega⟩
theorem whole_w {es : List Ent} {pl : Nat} {κ : AK} {E : AX → AK → Prop} {R : AR} (hes : ∀ e ∈ es, lowE e) (h : ∀ w : Nat, w ≤ es.length → (∀ j, j < es.length → ((recsL (es.take (j + 1))).length ≤ pl ↔ j < w)) → R (.d (.int (w : Nat))) κ) : callW F__law_whole E [.d (.list (es.map fun e => .str (recS e))), .d (.int (pl : Nat))] κ R :=
  callW_i ⟨[], _, _, .nil, rfl, rfl, es, pl, rfl, rfl, hes, fun w h1 h2 => ⟨Nat.zero_le _, rfl, rfl, h w h1 h2⟩⟩
/-- where a row of records is cut -/
theorem cut_row {es : List Ent} {pl w : Nat} (hes : ∀ e ∈ es, okR e) (hpl : pl ≤ (recsL es).length) (hw : w ≤ es.length) (hj : ∀ j, j < es.length → ((recsL (es.take (j + 1))).length ≤ pl ↔ j < w)) :
    ∃ u, (recsL es).take pl = recsL (es.take w) ++ u ∧ ((w = es.length ∧ u = [] ∧ pl = (recsL es).length) ∨ ∃ e v, es[w]? = some e ∧ recL e = u ++ v ∧ v ≠ [] ∧ recsL es = recsL (es.take w) ++ (u ++ v) ++ recsL (es.drop (w + 1))) := by
  have hsplit : ∀ i, recsL es = recsL (es.take i) ++ recsL (es.drop i) := fun i => by
    unfold recsL; rw [← List.flatMap_append, List.take_append_drop]
  have hge : (recsL (es.take w)).length ≤ pl := by
    cases w with
    | zero => exact Nat.zero_le _
    | succ w => exact (hj w (by omega)).mpr (by omega)
  by_cases hlt : w < es.length
  · have hd : es.drop w = es[w] :: es.drop (w + 1) := List.drop_eq_getElem_cons hlt
    have hno : ¬ (recsL (es.take (w + 1))).length ≤ pl := fun hl => Nat.lt_irrefl _ ((hj w hlt).mp hl)
    have ht : es.take (w + 1) = es.take w ++ [es[w]] := by rw [List.take_succ, List.getElem?_eq_getElem hlt]; rfl
    rw [ht, recsL_snoc, List.length_append] at hno
    have hfull : recsL es = recsL (es.take w) ++ (recL es[w] ++ recsL (es.drop (w + 1))) := by
      rw [hsplit w, hd]; rfl
    have hk : pl - (recsL (es.take w)).length < (recL es[w]).length := by omega
    refine ⟨(recL es[w]).take (pl - (recsL (es.take w)).length), ?_, .inr ⟨es[w], (recL es[w]).drop (pl - (recsL (es.take w)).length), List.getElem?_eq_getElem hlt, (List.take_append_drop _ _).symm, fun h0 => ?_, ?_⟩⟩
    · rw [hfull, List.take_append, List.take_of_length_le hge, List.take_append_of_le_length (by omega)]
    · have := congrArg List.length h0
      rw [List.length_drop] at this
      have : (recL es[w]).length - (pl - (recsL (es.take w)).length) = 0 := this
      omega
    · rw [List.take_append_drop, List.append_assoc]; exact hfull
  · have hwl : w = es.length := by omega
    have hall : es.take w = es := List.take_of_length_le (by omega)
    rw [hall] at hge ⊢
    have : pl = (recsL es).length := by omega
    exact ⟨[], by rw [this, List.take_length, List.append_nil], .inl ⟨hwl, rfl, this⟩⟩
end Tab
set_option Elab.async false
set_option linter.all false
set_option maxRecDepth 100000
set_option maxHeartbeats 4000000
/-! K24f: what the law of records asks for -/
namespace Tab
open PySem L2 Ab Com
variable {K : PySem.W.Frag}
theorem bslt {b : Bool} {A C : Prop} (e : b = true) (h : A) : bsel b A C := bsel_i (fun _ => h) fun z => by rw [e] at z; cases z
theorem bslf {b : Bool} {A C : Prop} (e : b = false) (h : C) : bsel b A C := bsel_i (fun z => by rw [e] at z; cases z) fun _ => h
/-! ### the eight texts behind -/
def oth : List Str := ["p b x 1 764\n", "p b x 01 763\n", "q b x 1 763\n", "p b x 1\n", "p  x 1 763\n", "\n", "p b x 1 763", "p b x 0 763\n"]
theorem rec_has (e : Ent) : 32 ∈ recL e := by
  rw [recL_eq]; simp
theorem noRec_no {l : List Nat} (h : 32 ∉ l) : noRec l := fun e _ ⟨Z, hZ⟩ => h (by rw [← hZ]; exact List.mem_append_left _ (rec_has e))
theorem noRec4 {a b c d t : List Nat} (ha : 32 ∉ a) (hb : 32 ∉ b) (hc : 32 ∉ c) (hd : 32 ∉ d) (h : ∀ e Z, okR e → tl e.k = a → tl e.o = b → tl e.l = c → TL.numL e.n = d → TL.numL (sumL (headL e)) ++ 10 :: Z = t → False) : noRec (a ++ 32 :: (b ++ 32 :: (c ++ 32 :: (d ++ 32 :: t)))) := fun e he ⟨Z, hZ⟩ => by
  obtain ⟨h1, h2, h3, h4, h5⟩ := rec_fields he ha hb hc hd hZ
  exact h e Z he h1 h2 h3 h4 h5
theorem sum763 {e : Ent} (h1 : tl e.k = [112]) (h2 : tl e.o = [98]) (h3 : tl e.l = [120]) (h4 : TL.numL e.n = [49]) : TL.numL (sumL (headL e)) = [55, 54, 51] := by
  have : headL e = [112, 32, 98, 32, 120, 32, 49, 32] := by unfold headL; rw [h1, h2, h3, h4]; rfl
  rw [this]; decide +kernel
theorem no_q : ∀ k ∈ kindsS, tl k ≠ [113] := by decide +kernel
theorem oth_no : ∀ o ∈ oth, noRec (tl o) := by
  intro o ho
  unfold oth at ho
  simp only [List.mem_cons, List.mem_nil_iff, or_false] at ho
  rcases ho with rfl | rfl | rfl | rfl | rfl | rfl | rfl | rfl
  · have e : tl "p b x 1 764\n" = [112] ++ 32 :: ([98] ++ 32 :: ([120] ++ 32 :: ([49] ++ 32 :: [55, 54, 52, 10]))) := by decide +kernel
    rw [e]
    refine noRec4 (by decide) (by decide) (by decide) (by decide) fun e Z he h1 h2 h3 h4 h5 => ?_
    rw [sum763 h1 h2 h3 h4] at h5
    simp at h5
  · have e : tl "p b x 01 763\n" = [112] ++ 32 :: ([98] ++ 32 :: ([120] ++ 32 :: ([48, 49] ++ 32 :: [55, 54, 51, 10]))) := by decide +kernel
    rw [e]
    refine noRec4 (by decide) (by decide) (by decide) (by decide) fun e Z he h1 h2 h3 h4 h5 => ?_
    exact numL_head e.n he.n1 (by rw [h4]; rfl)
  · have e : tl "q b x 1 763\n" = [113] ++ 32 :: ([98] ++ 32 :: ([120] ++ 32 :: ([49] ++ 32 :: [55, 54, 51, 10]))) := by decide +kernel
    rw [e]
    refine noRec4 (by decide) (by decide) (by decide) (by decide) fun e Z he h1 h2 h3 h4 h5 => ?_
    exact no_q _ he.k h1
  · have e : tl "p b x 1\n" = [112] ++ 32 :: ([98] ++ 32 :: ([120] ++ 32 :: [49, 10])) := by decide +kernel
    rw [e]
    rintro e he ⟨Z, hZ⟩
    obtain ⟨h1, h2, h3, h4⟩ := rec_fields3 he (by decide) (by decide) (by decide) hZ
    have : 32 ∈ ([49, 10] : List Nat) := by rw [← h4]; simp
    exact absurd this (by decide)
  · have e : tl "p  x 1 763\n" = [112] ++ 32 :: ([] ++ 32 :: ([120] ++ 32 :: ([49] ++ 32 :: [55, 54, 51, 10]))) := by decide +kernel
    rw [e]
    refine noRec4 (by decide) (by decide) (by decide) (by decide) fun e Z he h1 h2 h3 h4 h5 => ?_
    exact he.o0 h2
  · exact noRec_no (by decide +kernel)
  · have e : tl "p b x 1 763" = [112] ++ 32 :: ([98] ++ 32 :: ([120] ++ 32 :: ([49] ++ 32 :: [55, 54, 51]))) := by decide +kernel
    rw [e]
    refine noRec4 (by decide) (by decide) (by decide) (by decide) fun e Z he h1 h2 h3 h4 h5 => ?_
    have : 10 ∈ ([55, 54, 51] : List Nat) := by rw [← h5]; simp
    exact absurd this (by decide)
  · have e : tl "p b x 0 763\n" = [112] ++ 32 :: ([98] ++ 32 :: ([120] ++ 32 :: ([48] ++ 32 :: [55, 54, 51, 10]))) := by decide +kernel
    rw [e]
    refine noRec4 (by decide) (by decide) (by decide) (by decide) fun e Z he h1 h2 h3 h4 h5 => ?_
    exact numL_head e.n he.n1 (by rw [h4]; rfl)
theorem oth_len : ∀ o ∈ oth, o.length ≤ 20 := by decide +kernel
/-! ### the signs put in -/
def sgn : List Str := ["a", " ", "\n", "7", "0", ".", "p", "-"]
theorem sgn_one : ∀ o ∈ sgn, ∃ x, o = ⟨#[x]⟩ ∧ x < 9973 := by
  intro o ho
  unfold sgn at ho
  simp only [List.mem_cons, List.mem_nil_iff, or_false] at ho
  rcases ho with rfl | rfl | rfl | rfl | rfl | rfl | rfl | rfl
  · exact ⟨97, by decide +kernel, by decide⟩
  · exact ⟨32, by decide +kernel, by decide⟩
  · exact ⟨10, by decide +kernel, by decide⟩
  · exact ⟨55, by decide +kernel, by decide⟩
  · exact ⟨48, by decide +kernel, by decide⟩
  · exact ⟨46, by decide +kernel, by decide⟩
  · exact ⟨112, by decide +kernel, by decide⟩
  · exact ⟨45, by decide +kernel, by decide⟩
/-! ### how many are whole -/
def isW (es : List Ent) (pl w : Nat) : Prop := w ≤ es.length ∧ ∀ j, j < es.length → ((recsL (es.take (j + 1))).length ≤ pl ↔ j < w)
theorem isW_ex (es : List Ent) (pl : Nat) : ∃ w, isW es pl w := by
  have key : ∀ n, n ≤ es.length → ∃ w, w ≤ n ∧ ∀ j, j < n → ((recsL (es.take (j + 1))).length ≤ pl ↔ j < w) := by
    intro n
    induction n with
    | zero => exact fun _ => ⟨0, Nat.le_refl _, fun j hj => absurd hj (Nat.not_lt_zero _)⟩
    | succ n ih =>
      intro hn
      obtain ⟨w, hw, hj⟩ := ih (by omega)
      by_cases hl : (recsL (es.take (n + 1))).length ≤ pl
      · exact ⟨n + 1, Nat.le_refl _, fun j hjn => ⟨fun _ => hjn, fun _ => Nat.le_trans (recsL_take (by omega)) hl⟩⟩
      · refine ⟨w, by omega, fun j hjn => ?_⟩
        by_cases hji : j < n
        · exact hj j hji
        · have : j = n := by omega
          subst this
          exact ⟨fun h => absurd h hl, fun h => by omega⟩
  obtain ⟨w, h1, h2⟩ := key es.length (Nat.le_refl _)
  exact ⟨w, h1, h2⟩
theorem isW_uniq {es : List Ent} {pl w w' : Nat} (h : isW es pl w) (h' : isW es pl w') : w = w' := by
  rcases Nat.lt_trichotomy w w' with hl | he | hl
  · exact absurd ((h.2 w (by have := h'.1; omega)).mp ((h'.2 w (by have := h'.1; omega)).mpr hl)) (Nat.lt_irrefl _)
  · exact he
  · exact absurd ((h'.2 w' (by have := h.1; omega)).mp ((h.2 w' (by have := h.1; omega)).mpr hl)) (Nat.lt_irrefl _)
theorem cut_list {α : Type} (xs : List α) (i : Nat) (h : i ≤ xs.length) : cutD xs none (some (i : Int)) = xs.take i := by
  unfold cutD
  rw [HT.sIx_nat, HT.sIx_none, Nat.min_eq_left h, List.drop_zero, Nat.sub_zero]
theorem cut_from (s : Str) (n : Nat) : tl (cutS s (some (n : Int)) none) = (tl s).drop n := by
  show ((tl s).drop (HT.sIx s.length 0 (some (n : Int)))).take (HT.sIx s.length s.length none - HT.sIx s.length 0 (some (n : Int))) = _
  rw [HT.sIx_nat, HT.sIx_none]
  by_cases h : n ≤ s.length
  · rw [Nat.min_eq_left h, List.take_of_length_le (by rw [List.length_drop, ← tl_len]; exact Nat.le_refl _)]
  · rw [Nat.min_eq_right (by omega), Nat.sub_self, List.take_zero, List.drop_eq_nil_of_le (by rw [← tl_len]; omega)]
theorem tl_joinE : ∀ es : List Ent, tl (Txt.join "" (es.map recS)) = recsL es := by
  intro es
  rw [TL.join_eq]
  have e0 : TL.tl "" = [] := rfl
  show TL.tl _ = _
  rw [TL.tl_join, e0]
  have key : ∀ ls : List (List Nat), TL.joinL [] ls = ls.flatten := by
    intro ls
    induction ls with
    | nil => rfl
    | cons l ls ih =>
      cases ls with
      | nil => simp [TL.joinL]
      | cons m ls =>
        have : TL.joinL [] (l :: m :: ls) = l ++ ([] ++ TL.joinL [] (m :: ls)) := by simp [TL.joinL]
        rw [this, ih]; simp
  rw [key]
  unfold recsL
  rw [List.map_map, List.flatMap_def]
  congr 1
  exact List.map_congr_left fun e _ => tl_rec e
theorem recsL_100 {es : List Ent} (h : ∀ e ∈ es, lowE e) : (recsL es).length ≤ 100 * es.length := by
  induction es with
  | nil => exact Nat.zero_le _
  | cons e es ih =>
    have h1 : recsL (e :: es) = recL e ++ recsL es := rfl
    have h2 := (h e (List.mem_cons_self ..)).len
    have h3 := ih fun x hx => h x (List.mem_cons_of_mem _ hx)
    rw [h1, List.length_append, List.length_cons]; omega
theorem recsL_low {es : List Ent} (h : ∀ e ∈ es, lowE e) : ∀ c ∈ recsL es, c < 128 := by
  intro c hc
  obtain ⟨e, he, hce⟩ := List.mem_flatMap.mp hc
  exact (h e he).chars c hce
theorem noRec_nil : noRec [] := fun e _ => no_nil e
/-- a text cut within -/
theorem cut_es {es : List Ent} {pl w : Nat} (hes : ∀ e ∈ es, lowE e) (hpl : pl ≤ (recsL es).length) (hw : isW es pl w) : ∃ u, (recsL es).take pl = recsL (es.take w) ++ u ∧ noRec u := by
  obtain ⟨u, h1, h2⟩ := cut_row (fun e he => (hes e he).ok) hpl hw.1 hw.2
  refine ⟨u, h1, ?_⟩
  rcases h2 with ⟨_, rfl, _⟩ | ⟨e, v, he, hr, hv, _⟩
  · exact noRec_nil
  · exact cut_no (hes e (List.mem_of_getElem? he)).ok hr hv
/-- a text with one sign spoilt -/
theorem spoil_es {es : List Ent} {pl w c x : Nat} (hes : ∀ e ∈ es, lowE e) (hw : isW es pl w) (hc : (recsL es)[pl]? = some c) (hcx : c ≠ x) (hx : x < 9973) : ∃ r, (recsL es).take pl ++ x :: (recsL es).drop (pl + 1) = recsL (es.take w) ++ r ∧ noRec r := by
  obtain ⟨hlt, hce⟩ := List.getElem?_eq_some_iff.mp hc
  obtain ⟨u, h1, h2⟩ := cut_row (fun e he => (hes e he).ok) (Nat.le_of_lt hlt) hw.1 hw.2
  rcases h2 with ⟨_, _, he⟩ | ⟨e, v, he, hr, hv, hfull⟩
  · omega
  · cases v with
    | nil => exact absurd rfl hv
    | cons c' v =>
      have hd : (recsL es).drop pl = c' :: (v ++ recsL (es.drop (w + 1))) := by
        have h3 := (List.take_append_drop pl (recsL es)).symm
        rw [h1] at h3
        have h4 : recsL (es.take w) ++ u ++ (recsL es).drop pl = recsL (es.take w) ++ u ++ (c' :: (v ++ recsL (es.drop (w + 1)))) := by
          rw [← h3, hfull]; simp
        exact List.append_cancel_left h4
      have hcc : c' = c := by
        have : ((recsL es).drop pl)[0]? = some c := by rw [List.getElem?_drop]; exact hc
        rw [hd] at this
        exact Option.some.inj this
      subst hcc
      refine ⟨(u ++ x :: v) ++ recsL (es.drop (w + 1)), ?_, ?_⟩
      · rw [h1, ← List.drop_drop, hd]; simp
      · exact spoil_no (hes e (List.mem_of_getElem? he)).ok hr hcx (Nat.lt_trans (recsL_low hes c' (List.mem_of_getElem? hc)) (by decide)) hx
end Tab
set_option Elab.async false
set_option linter.all false
set_option maxRecDepth 100000
set_option maxHeartbeats 4000000
namespace K24
open PySem L2 Ab Com Tab
def topS (i : Nat) : Stmt := PySem.Challenge.pw_pactloom_k24_records_of_journals.main.body.getD i (.Pass ⟨0, 0, 0, 0⟩)
abbrev s__law_state : Stmt := topS 12
theorem sc__law_state : FnScope Tab.N__law_state ["script"] (defScope s__law_state) := ⟨rfl, rfl, rfl, by decide +kernel, rfl, by decide +kernel, by decide +kernel⟩
abbrev s__law_draw : Stmt := topS 13
theorem sc__law_draw : FnScope Tab.N__law_draw ["state", "limit"] (defScope s__law_draw) := ⟨rfl, rfl, rfl, by decide +kernel, rfl, by decide +kernel, by decide +kernel⟩
abbrev s__law_name : Stmt := topS 14
theorem sc__law_name : FnScope Tab.N__law_name ["state"] (defScope s__law_name) := ⟨rfl, rfl, rfl, by decide +kernel, rfl, by decide +kernel, by decide +kernel⟩
abbrev s__law_record : Stmt := topS 17
theorem sc__law_record : FnScope Tab.N__law_record ["state"] (defScope s__law_record) := ⟨rfl, rfl, rfl, by decide +kernel, rfl, by decide +kernel, by decide +kernel⟩
abbrev s__law_sum : Stmt := topS 16
theorem sc__law_sum : FnScope Tab.N__law_sum ["text"] (defScope s__law_sum) := ⟨rfl, rfl, rfl, by decide +kernel, rfl, by decide +kernel, by decide +kernel⟩
abbrev s__law_text : Stmt := topS 18
theorem sc__law_text : FnScope Tab.N__law_text ["entry"] (defScope s__law_text) := ⟨rfl, rfl, rfl, by decide +kernel, rfl, by decide +kernel, by decide +kernel⟩
abbrev s__sum_of : Stmt := topS 6
theorem sc__sum_of : FnScope Tab.N__sum_of ["head"] (defScope s__sum_of) := ⟨rfl, rfl, rfl, by decide +kernel, rfl, by decide +kernel, by decide +kernel⟩
abbrev s_record : Stmt := topS 5
theorem sc_record : FnScope Tab.N_record ["kind", "other", "label", "number"] (defScope s_record) := ⟨rfl, rfl, rfl, by decide +kernel, rfl, by decide +kernel, by decide +kernel⟩
abbrev s__behind_spaces : Stmt := topS 9
theorem sc__behind_spaces : FnScope Tab.N__behind_spaces ["text", "at", "many"] (defScope s__behind_spaces) := ⟨rfl, rfl, rfl, by decide +kernel, rfl, by decide +kernel, by decide +kernel⟩
abbrev s__is_number : Stmt := topS 10
theorem sc__is_number : FnScope Tab.N__is_number ["digits"] (defScope s__is_number) := ⟨rfl, rfl, rfl, by decide +kernel, rfl, by decide +kernel, by decide +kernel⟩
abbrev s__first_record : Stmt := topS 8
theorem sc__first_record : FnScope Tab.N__first_record ["text", "at"] (defScope s__first_record) := ⟨rfl, rfl, rfl, by decide +kernel, rfl, by decide +kernel, by decide +kernel⟩
abbrev s_read_records : Stmt := topS 7
theorem sc_read_records : FnScope Tab.N_read_records ["text"] (defScope s_read_records) := ⟨rfl, rfl, rfl, by decide +kernel, rfl, by decide +kernel, by decide +kernel⟩
abbrev s__law_whole : Stmt := topS 19
theorem sc__law_whole : FnScope Tab.N__law_whole ["texts", "length"] (defScope s__law_whole) := ⟨rfl, rfl, rfl, by decide +kernel, rfl, by decide +kernel, by decide +kernel⟩
abbrev s_law : Stmt := topS 20
abbrev N_law : List Str := ["script", "state", "entries", "texts", "k", "text", "kind", "place", "others", "sign", "spoiled", "entry"]
theorem sc_law : FnScope N_law ["script"] (defScope s_law) := ⟨rfl, rfl, rfl, by decide +kernel, rfl, by decide +kernel, by decide +kernel⟩

def a_law (K : PySem.W.Frag) : AS :=
  (aSeq (aSet 1 (aCall Tab.F__law_state (fun _ _ => False) (aCons (aVar 0) aNil))) (aSeq (aSet 2 (aLc (aRng1 (aCons (aCall Tab.F__law_draw (fun _ _ => False) (aCons (aVar 1) (aCons (aC (.d (.int 9))) aNil))) aNil)) (aName 4) aYes (aCall Tab.F__law_record (fun _ _ => False) (aCons (aVar 1) aNil)) [4])) (aSeq (aSet 3 (aLc (aIter (aVar 2)) (aName 11) aYes (aCall Tab.F__law_text (fun _ _ => False) (aCons (aVar 11) aNil)) [11])) (aSeq (aFor (aRng1 (aCons (aCB aLen (aCons (aVar 2) aNil)) aNil)) (aName 4) (aIfS (aB (aOp aNe (aCall Tab.F_record (fun _ _ => False) (aCons (aOp aIx (aOp aIx (aVar 2) (aVar 4)) (aC (.d (.int 0)))) (aCons (aOp aIx (aOp aIx (aVar 2) (aVar 4)) (aC (.d (.int 1)))) (aCons (aOp aIx (aOp aIx (aVar 2) (aVar 4)) (aC (.d (.int 2)))) (aCons (aOp aIx (aOp aIx (aVar 2) (aVar 4)) (aC (.d (.int 3)))) aNil))))) (aOp aIx (aVar 3) (aVar 4)))) (aRet (aC (.d (.bool false)))) aNext)) (aSeq (aSet 5 (aBM "str" aJoin (aC (.d (.str ""))) (aCons (aVar 3) aNil))) (aSeq (aSet 6 (aCall Tab.F__law_draw (fun _ _ => False) (aCons (aVar 1) (aCons (aC (.d (.int 4))) aNil)))) (aSeq (aSet 7 (aCall Tab.F__law_draw (fun _ _ => False) (aCons (aVar 1) (aCons (aOp aAdd (aCB aLen (aCons (aVar 5) aNil)) (aC (.d (.int 1)))) aNil)))) (aSeq (aIfS (aB (aOp aEq (aVar 6) (aC (.d (.int 0))))) (aRet (aOp aEq (aCall Tab.F_read_records (fun _ _ => False) (aCons (aVar 5) aNil)) (aVar 2))) aNext) (aSeq (aIfS (aB (aOp aEq (aVar 6) (aC (.d (.int 1))))) (aRet (aOp aEq (aCall Tab.F_read_records (fun _ _ => False) (aCons (aSl (aVar 5) aNoPart (aPart (aVar 7))) aNil)) (aSl (aVar 2) aNoPart (aPart (aCall Tab.F__law_whole (fun _ _ => False) (aCons (aVar 3) (aCons (aVar 7) aNil))))))) aNext) (aSeq (aIfS (aB (aOp aEq (aVar 6) (aC (.d (.int 2))))) (aSeq (aSet 8 (aLstD (aCons (aC (.d (.str "p b x 1 764\n"))) (aCons (aC (.d (.str "p b x 01 763\n"))) (aCons (aC (.d (.str "q b x 1 763\n"))) (aCons (aC (.d (.str "p b x 1\n"))) (aCons (aC (.d (.str "p  x 1 763\n"))) (aCons (aC (.d (.str "\n"))) (aCons (aC (.d (.str "p b x 1 763"))) (aCons (aC (.d (.str "p b x 0 763\n"))) aNil)))))))))) (aRet (aOp aEq (aCall Tab.F_read_records (fun _ _ => False) (aCons (aOp aAdd (aVar 5) (aOp aIx (aVar 8) (aCall Tab.F__law_draw (fun _ _ => False) (aCons (aVar 1) (aCons (aC (.d (.int 8))) aNil))))) aNil)) (aVar 2)))) aNext) (aSeq (aIfS (aB (aOp aEq (aVar 7) (aCB aLen (aCons (aVar 5) aNil)))) (aRet (aC (.d (.bool true)))) aNext) (aSeq (aSet 9 (aOp aIx (aLstD (aCons (aC (.d (.str "a"))) (aCons (aC (.d (.str " "))) (aCons (aC (.d (.str "\n"))) (aCons (aC (.d (.str "7"))) (aCons (aC (.d (.str "0"))) (aCons (aC (.d (.str "."))) (aCons (aC (.d (.str "p"))) (aCons (aC (.d (.str "-"))) aNil))))))))) (aCall Tab.F__law_draw (fun _ _ => False) (aCons (aVar 1) (aCons (aC (.d (.int 8))) aNil))))) (aSeq (aIfS (aB (aOp aEq (aOp aIx (aVar 5) (aVar 7)) (aVar 9))) (aRet (aC (.d (.bool true)))) aNext) (aSeq (aSet 10 (aOp aAdd (aOp aAdd (aSl (aVar 5) aNoPart (aPart (aVar 7))) (aVar 9)) (aSl (aVar 5) (aPart (aOp aAdd (aVar 7) (aC (.d (.int 1))))) aNoPart))) (aRet (aOp aEq (aCall Tab.F_read_records (fun _ _ => False) (aCons (aVar 10) aNil)) (aSl (aVar 2) aNoPart (aPart (aCall Tab.F__law_whole (fun _ _ => False) (aCons (aVar 3) (aCons (aVar 7) aNil)))))))))))))))))))))

variable {K : PySem.W.Frag}
theorem rd_law : ∀ as κ R E', F_law as κ R E' → a_law K (endsA K κ.length R) (startA N_law as) κ := by
  rintro as κ R E' ⟨ns, rfl, rfl, hn, h⟩
  have L : ∀ {n : Nat}, n ≤ 6000000 → n ≤ sizeLine := fun h => Nat.le_trans h (by decide)
  have fin : ∀ s : Cell, (endsA K ([] : AK).length R).rt (.d (.bool true)) [s] := fun s => ⟨_, _, GhR.take 0 (Nat.le_refl _) (show 0 ≤ 1 by decide) rfl rfl, h⟩
  have eqfin : ∀ (es : List Ent) (s : Cell), (endsA K ([] : AK).length R).rt (.d (.bool (id (PyData.eqv (.list (es.map entD)) (.list (es.map entD)))))) [s] := fun es s => by rw [eqv_es]; exact fin s
  refine state_w fun s0 hs0 => ?_
  refine Tab.draw_w hs0 (by decide) (by decide) fun v s1 hs1 h0 h1 => ⟨by omega, by omega, ?_⟩
  refine lc_r (fun i acc κ' => ∃ (s : Cell) (es : List Ent), κ' = [s] ∧ isSt s ∧ acc = es.map entD ∧ (∀ e ∈ es, lowE e) ∧ es.length = i) ⟨s1, [], rfl, hs1, rfl, fun w hw => (by cases hw), rfl⟩ ?_ ?_
  rotate_left
  · rintro i acc κ' hi ⟨s2, es, rfl, hs2, rfl, hes, hel⟩
    refine drec_w hs2 fun e s3 hs3 he => ⟨_, rfl, ?_, s3, es ++ [e], rfl, hs3, by simp, ?_, by simp [hel]⟩
    · rw [List.length_map]; exact Nat.lt_of_lt_of_le (show es.length < 100 by omega) (by decide)
    · intro x hx
      rcases List.mem_append.mp hx with z | z
      · exact hes x z
      · rw [List.mem_singleton.mp z]; exact he
  rintro acc κ' ⟨s2, es, rfl, hs2, rfl, hes, hel⟩
  have hel9 : es.length ≤ 9 := by omega
  refine lc_d (fun i acc κ' => κ' = [s2] ∧ acc = (es.take i).map fun e => PyData.str (recS e)) ⟨rfl, rfl⟩ ?_ ?_
  rotate_left
  · rintro i x acc κ' hx ⟨rfl, rfl⟩
    rw [List.getElem?_map] at hx
    obtain ⟨e, he, rfl⟩ := Option.map_eq_some_iff.mp hx
    refine text_w (hes e (List.mem_of_getElem? he)).sz ⟨_, rfl, ?_, rfl, ?_⟩
    · rw [List.length_map, List.length_take]
      exact Nat.lt_of_le_of_lt (show min i es.length ≤ 1000000 by omega) (by decide)
    · rw [List.take_succ, he]; simp
  rintro acc κ' ⟨rfl, rfl⟩
  rw [List.length_map, List.take_length]
  refine ⟨by rw [List.length_map]; omega, by rw [List.length_map]; omega, ?_⟩
  refine for_r (fun i δ κ => ∃ x y : Option AV, δ = [some (.d (.list (ns.map .int))), some (.c 0), some (.d (.list (es.map entD))), some (.d (.list (es.map fun e => .str (recS e)))), x, none, none, none, none, none, none, y] ∧ κ = [s2]) ⟨_, _, rfl, rfl⟩ ?_ ?_
  rotate_left
  · rintro i δ κ hi ⟨x, y, rfl, rfl⟩ _
    have hlt : i < es.length := by
      have : i < ((es.map entD).length : Int).toNat := hi
      rw [List.length_map] at this; omega
    have he : es[i]? = some es[i] := List.getElem?_eq_getElem hlt
    have hat : atI (es.map entD) (0 + (i : Int)) = some (entD es[i]) := by
      rw [Int.zero_add]; exact at_nat (by rw [List.getElem?_map, he]; rfl)
    have hat2 : atI (es.map fun e => PyData.str (recS e)) (0 + (i : Int)) = some (.str (recS es[i])) := by
      rw [Int.zero_add]; exact at_nat (by rw [List.getElem?_map, he]; rfl)
    exact ⟨entD es[i], hat, _, at_nat (j := 0) rfl, entD es[i], hat, _, at_nat (j := 1) rfl, entD es[i], hat, _, at_nat (j := 2) rfl, entD es[i], hat, _, at_nat (j := 3) rfl, rec_w (hes _ (List.getElem_mem hlt)).sz ⟨_, hat2, bslf (show (!decide (recS es[i] = recS es[i])) = false by rw [decide_eq_true rfl]; rfl) ⟨_, _, rfl, rfl⟩⟩⟩
  rintro δ κ ⟨x, y, rfl, rfl⟩ _
  have hsum : ∀ es : List Ent, ((es.map recS).map (·.length)).sum = (recsL es).length := by
    intro es
    induction es with
    | nil => rfl
    | cons e es ih =>
      have h1 : recsL (e :: es) = recL e ++ recsL es := rfl
      rw [h1, List.length_append, List.map_cons, List.map_cons, List.sum_cons, ih, ← tl_rec, ← tl_len]
  have h100 := recsL_100 hes
  refine ⟨rfl, es.map recS, by rw [List.map_map]; rfl, ?_, ?_⟩
  · rw [hsum]
    show (recsL es).length + (es.map recS).length * 0 ≤ _
    omega
  have htl := tl_joinE es
  generalize Txt.join "" (es.map recS) = text at htl
  have hlen : text.length = (recsL es).length := by rw [tl_len, htl]
  have hok : ∀ e ∈ es, okR e := fun e he => (hes e he).ok
  refine Tab.draw_w hs2 (by decide) (by decide) fun k s3 hs3 k0 k1 => ⟨L (by omega), ?_⟩
  refine Tab.draw_w hs3 (by omega) (by omega) fun p s4 hs4 p0 p1 => ?_
  obtain ⟨q, rfl⟩ := Int.eq_ofNat_of_zero_le p0
  have hq : q ≤ (recsL es).length := by omega
  obtain ⟨w, hw⟩ := isW_ex es q
  have hesw : ∀ e ∈ es.take w, lowE e := fun e he => hes e (List.mem_of_mem_take he)
  have key : ∀ (s : Cell) (ds : List PyData), ds = (es.take w).map entD → SeqAt.shaped (.list ((es.take w).map entD)) = true ∧ SeqAt.shaped (.list ds) = true ∧ (endsA K ([] : AK).length R).rt (.d (.bool (id (PyData.eqv (.list ((es.take w).map entD)) (.list ds))))) [s] := by
    rintro s _ rfl
    exact ⟨sh_es hesw, sh_es hesw, eqfin _ s⟩
  have hcut : ∀ w', w' ≤ es.length → (∀ j, j < es.length → ((recsL (es.take (j + 1))).length ≤ q ↔ j < w')) → cutD (es.map entD) none (some (w' : Int)) = (es.take w).map entD := fun w' h1 h2 => by
    have := isW_uniq hw ⟨h1, h2⟩
    rw [cut_list _ _ (by rw [List.length_map]; exact h1), ← this, List.map_take]
  have hct : tl (cutS text none (some (q : Int))) = (recsL es).take q := by rw [Tab.cut_to, htl]
  have hcl : (cutS text none (some (q : Int))).length ≤ 900 := by
    rw [tl_len, hct, List.length_take]; omega
  refine bsel_i (fun _ => read_w (es := es) (rest := []) (by omega) hok (by rw [htl, List.append_nil]) noRec_nil ⟨sh_es hes, sh_es hes, eqfin es s4⟩) fun _ => ?_
  refine bsel_i (fun _ => ?_) fun _ => ?_
  · obtain ⟨u, hu1, hu2⟩ := cut_es hes hq hw
    exact ⟨L (by omega), read_w (es := es.take w) (rest := u) (by omega) (fun e he => (hesw e he).ok) (hct.trans hu1) hu2 (whole_w hes fun w' h1 h2 => key s4 _ (hcut w' h1 h2))⟩
  refine bsel_i (fun _ => ⟨(show 8 ≤ sizeLine by decide), ?_⟩) fun _ => ?_
  · refine Tab.draw_w hs4 (by decide) (by decide) fun v2 s5 hs5 h20 h21 => ?_
    obtain ⟨o, ho1, ho2, ho3⟩ := at_mem (xs := oth) (i := v2) h20 (by show v2 < 8; exact h21)
    obtain ⟨j, rfl⟩ := Int.eq_ofNat_of_zero_le h20
    have hat : atI (oth.map PyData.str) (j : Int) = some (.str o) := at_nat (by
      rw [List.getElem?_map, show oth[j]? = some o from by simpa using ho3]; rfl)
    have hol := oth_len o ho2
    exact ⟨_, hat, L (by omega), read_w (es := es) (rest := tl o) (by rw [app_len]; omega) hok (by rw [tl_app, htl]) (oth_no o ho2) ⟨sh_es hes, sh_es hes, eqfin es s5⟩⟩
  refine ⟨L (by omega), bsel_i (fun _ => fin s4) fun hne => ?_⟩
  have hne : decide ((q : Int) = (text.length : Int)) = false := hne
  have hne := of_decide_eq_false hne
  have hql : q < (recsL es).length := by omega
  refine ⟨(show 8 ≤ sizeLine by decide), ?_⟩
  refine Tab.draw_w hs4 (by decide) (by decide) fun v2 s5 hs5 h20 h21 => ?_
  obtain ⟨o, ho1, ho2, ho3⟩ := at_mem (xs := sgn) (i := v2) h20 (by show v2 < 8; exact h21)
  obtain ⟨j, rfl⟩ := Int.eq_ofNat_of_zero_le h20
  have hat : atI (sgn.map PyData.str) (j : Int) = some (.str o) := at_nat (by
    rw [List.getElem?_map, show sgn[j]? = some o from by simpa using ho3]; rfl)
  obtain ⟨z, rfl, hz⟩ := sgn_one o ho2
  have hc : (recsL es)[q]? = some (recsL es)[q] := List.getElem?_eq_getElem hql
  generalize (recsL es)[q] = c at hc
  have hatc : atI (tl text) (q : Int) = some c := at_nat (by rw [htl]; exact hc)
  refine ⟨_, hat, c, L (by omega), hatc, bsel_i (fun _ => fin s5) fun hcx => ?_⟩
  have hcx : decide ((⟨#[c]⟩ : Str) = ⟨#[z]⟩) = false := hcx
  have hcx : c ≠ z := fun e => of_decide_eq_false hcx (by rw [e])
  obtain ⟨r, hr1, hr2⟩ := spoil_es hes hw hc hcx hz
  have hct2 : tl (cutS text (some ((q : Int) + 1)) none) = (recsL es).drop (q + 1) := by
    show tl (cutS text (some ((q + 1 : Nat) : Int)) none) = _
    rw [Tab.cut_from, htl]
  have hcl2 : (cutS text (some ((q : Int) + 1)) none).length ≤ 900 := by
    rw [tl_len, hct2, List.length_drop]; omega
  have h1l : (⟨#[z]⟩ : Str).length = 1 := rfl
  have hsp : tl (cutS text none (some (q : Int)) ++ ⟨#[z]⟩ ++ cutS text (some ((q : Int) + 1)) none) = recsL (es.take w) ++ r := by
    rw [tl_app, tl_app, hct, hct2, ← hr1]; simp [tl_one]
  exact ⟨L (by omega), L (by rw [h1l]; omega), L (by omega), L (by rw [app_len, h1l]; omega), read_w (es := es.take w) (rest := r) (by rw [app_len, app_len, h1l]; omega) (fun e he => (hesw e he).ok) hsp hr2 (whole_w hes fun w' h1 h2 => key s5 _ (hcut w' h1 h2))⟩
structure Txt (K : PySem.W.Frag) (mg : Str → Option Value) where
  m_all : mg "all" = none
  m_int : mg "int" = none
  m_len : mg "len" = none
  m_list : mg "list" = none
  m_ord : mg "ord" = none
  m_range : mg "range" = none
  m_str : mg "str" = none
  v_DIGITS : V
  u_DIGITS : Value
  g_DIGITS : mg "DIGITS" = some u_DIGITS
  r_DIGITS : RelV v_DIGITS u_DIGITS
  d_DIGITS : ∀ B, Dp K B v_DIGITS w_DIGITS
  v_KINDS : V
  u_KINDS : Value
  g_KINDS : mg "KINDS" = some u_KINDS
  r_KINDS : RelV v_KINDS u_KINDS
  d_KINDS : ∀ B, Dp K B v_KINDS w_KINDS
  v_MOST_DIGITS : V
  u_MOST_DIGITS : Value
  g_MOST_DIGITS : mg "MOST_DIGITS" = some u_MOST_DIGITS
  r_MOST_DIGITS : RelV v_MOST_DIGITS u_MOST_DIGITS
  d_MOST_DIGITS : ∀ B, Dp K B v_MOST_DIGITS w_MOST_DIGITS
  v_SUMMARY_KINDS : V
  u_SUMMARY_KINDS : Value
  g_SUMMARY_KINDS : mg "SUMMARY_KINDS" = some u_SUMMARY_KINDS
  r_SUMMARY_KINDS : RelV v_SUMMARY_KINDS u_SUMMARY_KINDS
  d_SUMMARY_KINDS : ∀ B, Dp K B v_SUMMARY_KINDS w_SUMMARY_KINDS
  f__law_state : Addr
  fd__law_state : FuncData
  g__law_state : mg "_law_state" = some (.ref f__law_state)
  F__law_state : Fun K "_law_state" "_law_state" s__law_state f__law_state fd__law_state
  b__law_state : Binds K fd__law_state ["script"] []
  f__law_draw : Addr
  fd__law_draw : FuncData
  g__law_draw : mg "_law_draw" = some (.ref f__law_draw)
  F__law_draw : Fun K "_law_draw" "_law_draw" s__law_draw f__law_draw fd__law_draw
  b__law_draw : Binds K fd__law_draw ["state", "limit"] []
  f__law_name : Addr
  fd__law_name : FuncData
  g__law_name : mg "_law_name" = some (.ref f__law_name)
  F__law_name : Fun K "_law_name" "_law_name" s__law_name f__law_name fd__law_name
  b__law_name : Binds K fd__law_name ["state"] []
  f__law_record : Addr
  fd__law_record : FuncData
  g__law_record : mg "_law_record" = some (.ref f__law_record)
  F__law_record : Fun K "_law_record" "_law_record" s__law_record f__law_record fd__law_record
  b__law_record : Binds K fd__law_record ["state"] []
  f__law_sum : Addr
  fd__law_sum : FuncData
  g__law_sum : mg "_law_sum" = some (.ref f__law_sum)
  F__law_sum : Fun K "_law_sum" "_law_sum" s__law_sum f__law_sum fd__law_sum
  b__law_sum : Binds K fd__law_sum ["text"] []
  f__law_text : Addr
  fd__law_text : FuncData
  g__law_text : mg "_law_text" = some (.ref f__law_text)
  F__law_text : Fun K "_law_text" "_law_text" s__law_text f__law_text fd__law_text
  b__law_text : Binds K fd__law_text ["entry"] []
  f__sum_of : Addr
  fd__sum_of : FuncData
  g__sum_of : mg "_sum_of" = some (.ref f__sum_of)
  F__sum_of : Fun K "_sum_of" "_sum_of" s__sum_of f__sum_of fd__sum_of
  b__sum_of : Binds K fd__sum_of ["head"] []
  f_record : Addr
  fd_record : FuncData
  g_record : mg "record" = some (.ref f_record)
  F_record : Fun K "record" "record" s_record f_record fd_record
  b_record : Binds K fd_record ["kind", "other", "label", "number"] []
  f__behind_spaces : Addr
  fd__behind_spaces : FuncData
  g__behind_spaces : mg "_behind_spaces" = some (.ref f__behind_spaces)
  F__behind_spaces : Fun K "_behind_spaces" "_behind_spaces" s__behind_spaces f__behind_spaces fd__behind_spaces
  b__behind_spaces : Binds K fd__behind_spaces ["text", "at", "many"] []
  f__is_number : Addr
  fd__is_number : FuncData
  g__is_number : mg "_is_number" = some (.ref f__is_number)
  F__is_number : Fun K "_is_number" "_is_number" s__is_number f__is_number fd__is_number
  b__is_number : Binds K fd__is_number ["digits"] []
  f__first_record : Addr
  fd__first_record : FuncData
  g__first_record : mg "_first_record" = some (.ref f__first_record)
  F__first_record : Fun K "_first_record" "_first_record" s__first_record f__first_record fd__first_record
  b__first_record : Binds K fd__first_record ["text", "at"] []
  f_read_records : Addr
  fd_read_records : FuncData
  g_read_records : mg "read_records" = some (.ref f_read_records)
  F_read_records : Fun K "read_records" "read_records" s_read_records f_read_records fd_read_records
  b_read_records : Binds K fd_read_records ["text"] []
  f__law_whole : Addr
  fd__law_whole : FuncData
  g__law_whole : mg "_law_whole" = some (.ref f__law_whole)
  F__law_whole : Fun K "_law_whole" "_law_whole" s__law_whole f__law_whole fd__law_whole
  b__law_whole : Binds K fd__law_whole ["texts", "length"] []
  f_law : Addr
  fd_law : FuncData
  g_law : mg "law" = some (.ref f_law)
  F_law : Fun K "law" "law" s_law f_law fd_law
  b_law : Binds K fd_law ["script"] []
section
variable {P : Program} {w : World} {K : PySem.W.Frag} {mg : Str → Option Value} {base : Heap}
theorem ok__law_state (T : Txt K mg)  : FnOk P w K mg base CX0 1 T.f__law_state T.fd__law_state ["script"] (spA K Tab.F__law_state) :=
  fn_ok T.F__law_state sc__law_state Tab.len__law_state fun cdv A outer s H E hr => ⟨_, Tab.a__law_state K, (sa_one (sa_ret (ea_lst (aa_cons (ea_ct (ca_list false) (by rfl) T.m_list (by decide +kernel) (aa_cons (av 0) aa_nil)) (aa_cons ea_int (aa_cons ea_int (aa_cons ea_int (aa_cons ea_bl (aa_cons ea_int aa_nil))))))))), Tab.rd__law_state⟩
theorem ok__law_draw (T : Txt K mg)  : FnOk P w K mg base CX0 1 T.f__law_draw T.fd__law_draw ["state", "limit"] (spA K Tab.F__law_draw) :=
  fn_ok T.F__law_draw sc__law_draw Tab.len__law_draw fun cdv A outer s H E hr => ⟨_, Tab.a__law_draw K, (sa_cut (sa_if (ta_cmp (oa_eq hr) (ea_ix (av 0) ea_int) ea_int) (sa_cons (sa_if (ta_cmp oa_ge (ea_ix (av 0) ea_int) (ea_cb ca_len (by rfl) T.m_len (by decide +kernel) (aa_cons (ea_ix (av 0) ea_int) aa_nil))) (sa_one (sa_ret ea_int)) sa_nil) (sa_cons (sa_set (i := 2) sc__law_draw.nd rfl (Or.inl rfl) (ea_ix (ea_ix (av 0) ea_int) (ea_ix (av 0) ea_int))) (sa_cut (sa_if (ta_cmp oa_lt (av 2) ea_int) (sa_one (sa_set (i := 2) sc__law_draw.nd rfl (Or.inl rfl) (ea_op oa_sub (ea_neg ea_int) (av 2)))) sa_nil) (sa_cons (sa_asg (ea_op oa_add (ea_ix (av 0) ea_int) ea_int) (ga_sub (av 0) ea_int sta_list)) (sa_cons (sa_asg (av 2) (ga_sub (av 0) ea_int sta_list)) (sa_cons (sa_asg (ea_cmp oa_ge (av 2) (ea_op oa_pow ea_int ea_int)) (ga_sub (av 0) ea_int sta_list)) (sa_cons (sa_asg ea_int (ga_sub (av 0) ea_int sta_list)) (sa_one (sa_if (ta_tru (ea_ix (av 0) ea_int)) (sa_one (sa_asg ea_int (ga_sub (av 0) ea_int sta_list))) sa_nil))))))))) sa_nil) (sa_cons (sa_asg (ea_op oa_sub (ea_ix (av 0) ea_int) ea_int) (ga_sub (av 0) ea_int sta_list)) (sa_cons (sa_if (ta_tru (ea_ix (av 0) ea_int)) (sa_cons (sa_set (i := 3) sc__law_draw.nd rfl (Or.inl rfl) (ea_op oa_mod (ea_ct ca_int (by rfl) T.m_int (by decide +kernel) (aa_cons (ea_ix (av 0) ea_int) aa_nil)) (av 1))) (sa_cons (sa_asg (ea_op oa_div (ea_ix (av 0) ea_int) (av 1)) (ga_sub (av 0) ea_int sta_list)) (sa_cut (sa_if (ta_cmp (oa_eq hr) (ea_ix (av 0) ea_int) ea_int) (sa_one (sa_asg ea_int (ga_sub (av 0) ea_int sta_list))) sa_nil) (sa_one (sa_ret (av 3)))))) sa_nil) (sa_cons (sa_set (i := 4) sc__law_draw.nd rfl (Or.inl rfl) (ea_op oa_mod (ea_ct ca_int (by rfl) T.m_int (by decide +kernel) (aa_cons (ea_op oa_add (ea_op oa_add (ea_op oa_mul (ea_ix (av 0) ea_int) ea_int) (ea_op oa_mul (ea_ix (av 0) ea_int) ea_int)) ea_int) aa_nil)) ea_int)) (sa_cons (sa_set (i := 4) sc__law_draw.nd rfl (Or.inl rfl) (ea_op oa_mod (ea_ct ca_int (by rfl) T.m_int (by decide +kernel) (aa_cons (ea_op oa_add (ea_op oa_add (ea_op oa_mul (av 4) (av 4)) (ea_op oa_mul (ea_ix (av 0) ea_int) ea_int)) (ea_ix (av 0) ea_int)) aa_nil)) ea_int)) (sa_one (sa_ret (ea_op oa_mod (ea_ct ca_int (by rfl) T.m_int (by decide +kernel) (aa_cons (av 4) aa_nil)) (av 1))))))))), Tab.rd__law_draw⟩
theorem ok__law_name (T : Txt K mg) (G__law_draw : FnOk P w K mg base CX0 1 T.f__law_draw T.fd__law_draw ["state", "limit"] (spA K Tab.F__law_draw)) : FnOk P w K mg base CX0 2 T.f__law_name T.fd__law_name ["state"] (spA K Tab.F__law_name) :=
  fn_ok T.F__law_name sc__law_name Tab.len__law_name fun cdv A outer s H E hr => ⟨_, Tab.a__law_name K, (sa_cons (sa_set (i := 1) sc__law_name.nd rfl (Or.inl rfl) ea_str) (sa_cons (sa_set (i := 2) sc__law_name.nd rfl (Or.inl rfl) (ea_op oa_add (av 1) ea_str)) (sa_cons (sa_set (i := 3) sc__law_name.nd rfl (Or.inl rfl) (ea_call (G__law_draw.mono (k := 1) (by decide)) hr (by rfl) T.g__law_draw T.F__law_draw.kp T.b__law_draw (aa_cons (av 0) (aa_cons ea_int aa_nil)))) (sa_cons (sa_set (i := 4) sc__law_name.nd rfl (Or.inl rfl) (ea_ix (av 1) (ea_op oa_mod (ea_ct ca_int (by rfl) T.m_int (by decide +kernel) (aa_cons (ea_op oa_div (av 3) ea_int) aa_nil)) ea_int))) (sa_cons (sa_set (i := 5) sc__law_name.nd rfl (Or.inl rfl) (ea_op oa_add (ea_op oa_add (ea_ix (av 2) (ea_op oa_mod (ea_ct ca_int (by rfl) T.m_int (by decide +kernel) (aa_cons (ea_op oa_div (av 3) ea_int) aa_nil)) ea_int)) (ea_ix (av 2) (ea_op oa_mod (ea_ct ca_int (by rfl) T.m_int (by decide +kernel) (aa_cons (ea_op oa_div (av 3) ea_int) aa_nil)) ea_int))) (ea_ix (av 2) (ea_op oa_mod (ea_ct ca_int (by rfl) T.m_int (by decide +kernel) (aa_cons (av 3) aa_nil)) ea_int)))) (sa_cut (sa_if (ta_cmp (oa_eq hr) (ea_call (G__law_draw.mono (k := 1) (by decide)) hr (by rfl) T.g__law_draw T.F__law_draw.kp T.b__law_draw (aa_cons (av 0) (aa_cons ea_int aa_nil))) ea_int) (sa_one (sa_set (i := 4) sc__law_name.nd rfl (Or.inl rfl) (ea_slice (ea_op oa_add (av 4) (ea_op oa_mulT (av 5) ea_int)) oa_none (oa_some (ea_op oa_add ea_int (ea_call (G__law_draw.mono (k := 1) (by decide)) hr (by rfl) T.g__law_draw T.F__law_draw.kp T.b__law_draw (aa_cons (av 0) (aa_cons ea_int aa_nil)))))))) (sa_one (sa_set (i := 4) sc__law_name.nd rfl (Or.inl rfl) (ea_op oa_add (av 4) (ea_slice (av 5) oa_none (oa_some (ea_op oa_mod (ea_ct ca_int (by rfl) T.m_int (by decide +kernel) (aa_cons (av 3) aa_nil)) ea_int))))))) (sa_cons (sa_if (ta_cmp oa_in (av 4) (ea_lstD (aa_cons ea_str (aa_cons ea_str (aa_cons ea_str (aa_cons ea_str (aa_cons ea_str (aa_cons ea_str aa_nil)))))))) (sa_one (sa_ret (ea_op oa_add (av 4) ea_str))) sa_nil) (sa_one (sa_ret (av 4)))))))))), Tab.rd__law_name⟩
theorem ok__law_record (T : Txt K mg) (G__law_draw : FnOk P w K mg base CX0 1 T.f__law_draw T.fd__law_draw ["state", "limit"] (spA K Tab.F__law_draw)) (G__law_name : FnOk P w K mg base CX0 2 T.f__law_name T.fd__law_name ["state"] (spA K Tab.F__law_name)) : FnOk P w K mg base CX0 3 T.f__law_record T.fd__law_record ["state"] (spA K Tab.F__law_record) :=
  fn_ok T.F__law_record sc__law_record Tab.len__law_record fun cdv A outer s H E hr => ⟨_, Tab.a__law_record K, (sa_cons (sa_set (i := 1) sc__law_record.nd rfl (Or.inl rfl) (ea_ix ea_str (ea_call (G__law_draw.mono (k := 2) (by decide)) hr (by rfl) T.g__law_draw T.F__law_draw.kp T.b__law_draw (aa_cons (av 0) (aa_cons ea_int aa_nil))))) (sa_cons (sa_set (i := 2) sc__law_record.nd rfl (Or.inl rfl) (ea_call (G__law_name.mono (k := 2) (by decide)) hr (by rfl) T.g__law_name T.F__law_name.kp T.b__law_name (aa_cons (av 0) aa_nil))) (sa_cons (sa_set (i := 3) sc__law_record.nd rfl (Or.inl rfl) (ea_call (G__law_name.mono (k := 2) (by decide)) hr (by rfl) T.g__law_name T.F__law_name.kp T.b__law_name (aa_cons (av 0) aa_nil))) (sa_cut (sa_if (ta_cmp (oa_eq hr) (ea_call (G__law_draw.mono (k := 2) (by decide)) hr (by rfl) T.g__law_draw T.F__law_draw.kp T.b__law_draw (aa_cons (av 0) (aa_cons ea_int aa_nil))) ea_int) (sa_one (sa_set (i := 3) sc__law_record.nd rfl (Or.inl rfl) (ea_ix (ea_lstD (aa_cons ea_str (aa_cons (ea_op oa_add (ea_op oa_add (av 3) ea_str) (av 2)) aa_nil))) (ea_call (G__law_draw.mono (k := 2) (by decide)) hr (by rfl) T.g__law_draw T.F__law_draw.kp T.b__law_draw (aa_cons (av 0) (aa_cons ea_int aa_nil)))))) sa_nil) (sa_cons (sa_set (i := 4) sc__law_record.nd rfl (Or.inl rfl) (ea_op oa_add ea_int (ea_call (G__law_draw.mono (k := 2) (by decide)) hr (by rfl) T.g__law_draw T.F__law_draw.kp T.b__law_draw (aa_cons (av 0) (aa_cons (ea_ix (ea_lstD (aa_cons ea_int (aa_cons ea_int aa_nil))) (ea_call (G__law_draw.mono (k := 2) (by decide)) hr (by rfl) T.g__law_draw T.F__law_draw.kp T.b__law_draw (aa_cons (av 0) (aa_cons ea_int aa_nil)))) aa_nil))))) (sa_one (sa_ret (ea_tup (aa_cons (av 1) (aa_cons (av 2) (aa_cons (av 3) (aa_cons (av 4) aa_nil)))))))))))), Tab.rd__law_record⟩
theorem ok__law_sum (T : Txt K mg)  : FnOk P w K mg base CX0 1 T.f__law_sum T.fd__law_sum ["text"] (spA K Tab.F__law_sum) :=
  fn_ok T.F__law_sum sc__law_sum Tab.len__law_sum fun cdv A outer s H E hr => ⟨_, Tab.a__law_sum K, (sa_cons (sa_set (i := 1) sc__law_sum.nd rfl (Or.inl rfl) ea_int) (sa_cons (sa_for PassesOwn.never rfl (ia_any (av 0)) (ga_name (i := 2) sc__law_sum.nd rfl (Or.inl rfl)) (sa_one (sa_set (i := 1) sc__law_sum.nd rfl (Or.inl rfl) (ea_op oa_mod (ea_ct ca_int (by rfl) T.m_int (by decide +kernel) (aa_cons (ea_op oa_add (ea_op oa_mul (av 1) ea_int) (ea_cb ca_ord (by rfl) T.m_ord (by decide +kernel) (aa_cons (av 2) aa_nil))) aa_nil)) ea_int)))) (sa_one (sa_ret (av 1))))), Tab.rd__law_sum⟩
theorem ok__law_text (T : Txt K mg) (G__law_sum : FnOk P w K mg base CX0 1 T.f__law_sum T.fd__law_sum ["text"] (spA K Tab.F__law_sum)) : FnOk P w K mg base CX0 2 T.f__law_text T.fd__law_text ["entry"] (spA K Tab.F__law_text) :=
  fn_ok T.F__law_text sc__law_text Tab.len__law_text fun cdv A outer s H E hr => ⟨_, Tab.a__law_text K, (sa_cons (sa_set (i := 1) sc__law_text.nd rfl (Or.inl rfl) (ea_op oa_add (ea_op oa_add (ea_op oa_add (ea_op oa_add (ea_op oa_add (ea_op oa_add (ea_op oa_add (ea_ix (av 0) ea_int) ea_str) (ea_ix (av 0) ea_int)) ea_str) (ea_ix (av 0) ea_int)) ea_str) (ea_ct ca_str (by rfl) T.m_str (by decide +kernel) (aa_cons (ea_ix (av 0) ea_int) aa_nil))) ea_str)) (sa_one (sa_ret (ea_op oa_add (ea_op oa_add (av 1) (ea_ct ca_str (by rfl) T.m_str (by decide +kernel) (aa_cons (ea_call (G__law_sum.mono (k := 1) (by decide)) hr (by rfl) T.g__law_sum T.F__law_sum.kp T.b__law_sum (aa_cons (av 1) aa_nil)) aa_nil))) ea_str)))), Tab.rd__law_text⟩
theorem ok__sum_of (T : Txt K mg)  : FnOk P w K mg base CX0 1 T.f__sum_of T.fd__sum_of ["head"] (spA K Tab.F__sum_of) :=
  fn_ok T.F__sum_of sc__sum_of Tab.len__sum_of fun cdv A outer s H E hr => ⟨_, Tab.a__sum_of K, (sa_cons (sa_set (i := 1) sc__sum_of.nd rfl (Or.inl rfl) ea_int) (sa_cons (sa_for PassesOwn.never rfl (ia_any (av 0)) (ga_name (i := 2) sc__sum_of.nd rfl (Or.inl rfl)) (sa_one (sa_set (i := 1) sc__sum_of.nd rfl (Or.inl rfl) (ea_op oa_mod (ea_op oa_add (ea_op oa_mul ea_int (av 1)) (ea_cb ca_ord (by rfl) T.m_ord (by decide +kernel) (aa_cons (av 2) aa_nil))) ea_int)))) (sa_one (sa_ret (av 1))))), Tab.rd__sum_of⟩
theorem ok_record (T : Txt K mg) (G__sum_of : FnOk P w K mg base CX0 1 T.f__sum_of T.fd__sum_of ["head"] (spA K Tab.F__sum_of)) : FnOk P w K mg base CX0 2 T.f_record T.fd_record ["kind", "other", "label", "number"] (spA K Tab.F_record) :=
  fn_ok T.F_record sc_record Tab.len_record fun cdv A outer s H E hr => ⟨_, Tab.a_record K, (sa_cons (sa_set (i := 4) sc_record.nd rfl (Or.inl rfl) (ea_joined (ja_cons (ea_fmt (av 0)) (ja_cons ea_str (ja_cons (ea_fmt (av 1)) (ja_cons ea_str (ja_cons (ea_fmt (av 2)) (ja_cons ea_str (ja_cons (ea_fmt (av 3)) (ja_cons ea_str ja_nil)))))))))) (sa_one (sa_ret (ea_op oa_add (ea_op oa_add (av 4) (ea_ct ca_str (by rfl) T.m_str (by decide +kernel) (aa_cons (ea_call (G__sum_of.mono (k := 1) (by decide)) hr (by rfl) T.g__sum_of T.F__sum_of.kp T.b__sum_of (aa_cons (av 4) aa_nil)) aa_nil))) ea_str)))), Tab.rd_record⟩
theorem ok__behind_spaces (T : Txt K mg)  : FnOk P w K mg base CX0 1 T.f__behind_spaces T.fd__behind_spaces ["text", "at", "many"] (spA K Tab.F__behind_spaces) :=
  fn_ok T.F__behind_spaces sc__behind_spaces Tab.len__behind_spaces fun cdv A outer s H E hr => ⟨_, Tab.a__behind_spaces K, (sa_cons (sa_for PassesOwn.never rfl (ia_rng1 (by rfl) T.m_range (aa_cons (av 2) aa_nil)) (ga_name (i := 3) sc__behind_spaces.nd rfl (Or.inl rfl)) (sa_cons (sa_set (i := 1) sc__behind_spaces.nd rfl (Or.inl rfl) (ea_op oa_add (ea_bm ma_find3 PySem.F.plainAttrs_str PySem.F.slot_str_find PySem.F.type_str_find (av 0) (aa_cons ea_str (aa_cons (av 1) aa_nil))) ea_int)) (sa_one (sa_if (ta_cmp (oa_eq hr) (av 1) ea_int) (sa_one (sa_ret ea_non)) sa_nil)))) (sa_one (sa_ret (av 1)))), Tab.rd__behind_spaces⟩
theorem ok__is_number (T : Txt K mg)  : FnOk P w K mg base CX0 1 T.f__is_number T.fd__is_number ["digits"] (spA K Tab.F__is_number) :=
  fn_ok T.F__is_number sc__is_number Tab.len__is_number fun cdv A outer s H E hr => ⟨_, Tab.a__is_number K, (sa_cons (sa_if (PWa.pt (wa_or (ta_cmp (oa_eq hr) (av 0) ea_str) (wa_or (ta_cmp oa_gt (ea_cb ca_len (by rfl) T.m_len (by decide +kernel) (aa_cons (av 0) aa_nil)) (ea_glob (by rfl) T.g_MOST_DIGITS T.r_MOST_DIGITS T.d_MOST_DIGITS)) (wa_or1 (ta_cmp (oa_eq hr) (ea_ix (av 0) ea_int) ea_str))))) (sa_one (sa_ret ea_bl)) sa_nil) (sa_one (sa_ret (ea_cb (ca_all rfl) (by rfl) T.m_all (by decide +kernel) (aa_cons (ea_lc (own := [("sign", 1)]) rfl sc__is_number.nd (ia_any (av 0)) (blkOk_by (own := [("sign", 1)]) (N := Tab.N__is_number) (sc := defScope s__is_number) (by decide +kernel)) (fun _ _ _ _ _ => (pg_name (i := 1) sc__is_number.nd rfl (Or.inl rfl))) (sgw_name (by decide)) (fun _ _ _ _ _ => tsa_nil) (fun _ _ _ _ _ => (ea_cmp oa_in (av 1) (ea_glob (by rfl) T.g_DIGITS T.r_DIGITS T.d_DIGITS)))) aa_nil))))), Tab.rd__is_number⟩
theorem ok__first_record (T : Txt K mg) (G__behind_spaces : FnOk P w K mg base CX0 1 T.f__behind_spaces T.fd__behind_spaces ["text", "at", "many"] (spA K Tab.F__behind_spaces)) (G__is_number : FnOk P w K mg base CX0 1 T.f__is_number T.fd__is_number ["digits"] (spA K Tab.F__is_number)) (G_record : FnOk P w K mg base CX0 2 T.f_record T.fd_record ["kind", "other", "label", "number"] (spA K Tab.F_record)) : FnOk P w K mg base CX0 3 T.f__first_record T.fd__first_record ["text", "at"] (spA K Tab.F__first_record) :=
  fn_ok T.F__first_record sc__first_record Tab.len__first_record fun cdv A outer s H E hr => ⟨_, Tab.a__first_record K, (sa_cons (sa_set (i := 2) sc__first_record.nd rfl (Or.inl rfl) (ea_call (G__behind_spaces.mono (k := 2) (by decide)) hr (by rfl) T.g__behind_spaces T.F__behind_spaces.kp T.b__behind_spaces (aa_cons (av 0) (aa_cons (av 1) (aa_cons ea_int aa_nil))))) (sa_cons (sa_if (ta_cmp oa_is (av 2) ea_non) (sa_one (sa_ret (ea_tup (aa_cons ea_non (aa_cons (av 1) aa_nil))))) sa_nil) (sa_cons (sa_asg (ea_bm ma_split PySem.F.plainAttrs_str PySem.F.slot_str_split PySem.F.type_str_split (ea_slice (av 0) (oa_some (av 1)) (oa_some (av 2))) (aa_cons ea_str aa_nil)) (ga_unl rfl (gsa_cons (ga_name (i := 3) sc__first_record.nd rfl (Or.inl rfl)) (gsa_cons (ga_name (i := 4) sc__first_record.nd rfl (Or.inl rfl)) (gsa_cons (ga_name (i := 5) sc__first_record.nd rfl (Or.inl rfl)) (gsa_cons (ga_name (i := 6) sc__first_record.nd rfl (Or.inl rfl)) (gsa_cons (ga_name (i := 7) sc__first_record.nd rfl (Or.inl rfl)) gsa_nil))))))) (sa_cons (sa_if (PWa.pt (wa_and (ta_cmp oa_notin (av 3) (ea_glob (by rfl) T.g_KINDS T.r_KINDS T.d_KINDS)) (wa_and1 (ta_cmp oa_notin (av 3) (ea_glob (by rfl) T.g_SUMMARY_KINDS T.r_SUMMARY_KINDS T.d_SUMMARY_KINDS))))) (sa_one (sa_ret (ea_tup (aa_cons ea_non (aa_cons (av 1) aa_nil))))) sa_nil) (sa_cons (sa_if (PWa.pt (wa_or (ta_not (ta_tru (av 4))) (wa_or (ta_not (ta_tru (av 5))) (wa_or1 (ta_not (ta_tru (ea_call (G__is_number.mono (k := 2) (by decide)) hr (by rfl) T.g__is_number T.F__is_number.kp T.b__is_number (aa_cons (av 6) aa_nil)))))))) (sa_one (sa_ret (ea_tup (aa_cons ea_non (aa_cons (av 1) aa_nil))))) sa_nil) (sa_cons (sa_set (i := 8) sc__first_record.nd rfl (Or.inl rfl) (ea_call (G_record.mono (k := 2) (by decide)) hr (by rfl) T.g_record T.F_record.kp T.b_record (aa_cons (av 3) (aa_cons (av 4) (aa_cons (av 5) (aa_cons (ea_ct ca_intS (by rfl) T.m_int (by decide +kernel) (aa_cons (av 6) aa_nil)) aa_nil)))))) (sa_cons (sa_if (ta_not (ta_tru (ea_bm ma_starts3 PySem.F.plainAttrs_str PySem.F.slot_str_startswith PySem.F.type_str_startswith (av 0) (aa_cons (av 8) (aa_cons (av 1) aa_nil))))) (sa_one (sa_ret (ea_tup (aa_cons ea_non (aa_cons (av 1) aa_nil))))) sa_nil) (sa_one (sa_ret (ea_tup (aa_cons (ea_tup (aa_cons (av 3) (aa_cons (av 4) (aa_cons (av 5) (aa_cons (ea_ct ca_intS (by rfl) T.m_int (by decide +kernel) (aa_cons (av 6) aa_nil)) aa_nil))))) (aa_cons (ea_op oa_add (av 1) (ea_cb ca_len (by rfl) T.m_len (by decide +kernel) (aa_cons (av 8) aa_nil))) aa_nil)))))))))))), Tab.rd__first_record⟩
theorem ok_read_records (T : Txt K mg) (G__first_record : FnOk P w K mg base CX0 3 T.f__first_record T.fd__first_record ["text", "at"] (spA K Tab.F__first_record)) : FnOk P w K mg base CX0 4 T.f_read_records T.fd_read_records ["text"] (spA K Tab.F_read_records) :=
  fn_ok T.F_read_records sc_read_records Tab.len_read_records fun cdv A outer s H E hr => ⟨_, Tab.a_read_records K, (sa_cons (sa_set (i := 1) sc_read_records.nd rfl (Or.inl rfl) (ea_lst aa_nil)) (sa_cons (sa_asg (ea_call (G__first_record.mono (k := 3) (by decide)) hr (by rfl) T.g__first_record T.F__first_record.kp T.b__first_record (aa_cons (av 0) (aa_cons ea_int aa_nil))) (ga_tup rfl (gsa_cons (ga_name (i := 2) sc_read_records.nd rfl (Or.inl rfl)) (gsa_cons (ga_name (i := 3) sc_read_records.nd rfl (Or.inl rfl)) gsa_nil)))) (sa_cut (sa_while PassesOwn.never (ta_cmp oa_isnot (av 2) ea_non) (sa_cons (sa_drop (ea_bm ma_append PySem.F.plainAttrs_list PySem.F.slot_list_append PySem.F.type_list_append (av 1) (aa_cons (av 2) aa_nil))) (sa_one (sa_asg (ea_call (G__first_record.mono (k := 3) (by decide)) hr (by rfl) T.g__first_record T.F__first_record.kp T.b__first_record (aa_cons (av 0) (aa_cons (av 3) aa_nil))) (ga_tup rfl (gsa_cons (ga_name (i := 2) sc_read_records.nd rfl (Or.inl rfl)) (gsa_cons (ga_name (i := 3) sc_read_records.nd rfl (Or.inl rfl)) gsa_nil))))))) (sa_one (sa_ret (av 1)))))), Tab.rd_read_records⟩
theorem ok__law_whole (T : Txt K mg)  : FnOk P w K mg base CX0 1 T.f__law_whole T.fd__law_whole ["texts", "length"] (spA K Tab.F__law_whole) :=
  fn_ok T.F__law_whole sc__law_whole Tab.len__law_whole fun cdv A outer s H E hr => ⟨_, Tab.a__law_whole K, (sa_cons (sa_set (i := 2) sc__law_whole.nd rfl (Or.inl rfl) ea_int) (sa_cons (sa_set (i := 3) sc__law_whole.nd rfl (Or.inl rfl) ea_int) (sa_cons (sa_for PassesOwn.never rfl (ia_any (av 0)) (ga_name (i := 4) sc__law_whole.nd rfl (Or.inl rfl)) (sa_cons (sa_set (i := 3) sc__law_whole.nd rfl (Or.inl rfl) (ea_op oa_add (av 3) (ea_cb ca_len (by rfl) T.m_len (by decide +kernel) (aa_cons (av 4) aa_nil)))) (sa_one (sa_if (ta_cmp oa_le (av 3) (av 1)) (sa_one (sa_set (i := 2) sc__law_whole.nd rfl (Or.inl rfl) (ea_op oa_add (av 2) ea_int))) sa_nil)))) (sa_one (sa_ret (av 2)))))), Tab.rd__law_whole⟩
theorem ok_law (T : Txt K mg) (G__law_state : FnOk P w K mg base CX0 1 T.f__law_state T.fd__law_state ["script"] (spA K Tab.F__law_state)) (G__law_record : FnOk P w K mg base CX0 3 T.f__law_record T.fd__law_record ["state"] (spA K Tab.F__law_record)) (G__law_draw : FnOk P w K mg base CX0 1 T.f__law_draw T.fd__law_draw ["state", "limit"] (spA K Tab.F__law_draw)) (G__law_text : FnOk P w K mg base CX0 2 T.f__law_text T.fd__law_text ["entry"] (spA K Tab.F__law_text)) (G_record : FnOk P w K mg base CX0 2 T.f_record T.fd_record ["kind", "other", "label", "number"] (spA K Tab.F_record)) (G_read_records : FnOk P w K mg base CX0 4 T.f_read_records T.fd_read_records ["text"] (spA K Tab.F_read_records)) (G__law_whole : FnOk P w K mg base CX0 1 T.f__law_whole T.fd__law_whole ["texts", "length"] (spA K Tab.F__law_whole)) : FnOk P w K mg base CX0 5 T.f_law T.fd_law ["script"] (spA K F_law) :=
  fn_ok T.F_law sc_law Ab.len_law fun cdv A outer s H E hr => ⟨_, a_law K, (sa_cons (sa_set (i := 1) sc_law.nd rfl (Or.inr rfl) (ea_call (G__law_state.mono (k := 4) (by decide)) hr (by rfl) T.g__law_state T.F__law_state.kp T.b__law_state (aa_cons (av 0) aa_nil))) (sa_cons (sa_setLc (i := 2) (own := [("k", 4)]) rfl sc_law.nd rfl rfl (sw_true rfl rfl rfl (by decide +kernel)) (ia_rng1 (by rfl) T.m_range (aa_cons (ea_call (G__law_draw.mono (k := 4) (by decide)) hr (by rfl) T.g__law_draw T.F__law_draw.kp T.b__law_draw (aa_cons (av 1) (aa_cons ea_int aa_nil))) aa_nil)) (blkOk_by (own := [("k", 4)]) (N := N_law) (sc := defScope s_law) (by decide +kernel)) (fun _ _ _ _ _ => (pg_name (i := 4) sc_law.nd rfl (Or.inl rfl))) (sgw_name (by decide)) (fun _ _ _ _ _ => tsa_nil) (fun _ _ _ _ _ => (ea_call (G__law_record.mono (k := 4) (by decide)) hr (by rfl) T.g__law_record T.F__law_record.kp T.b__law_record (aa_cons (av 1) aa_nil)))) (sa_cons (sa_setLc (i := 3) (own := [("entry", 11)]) rfl sc_law.nd rfl rfl (sw_true rfl rfl rfl (by decide +kernel)) (ia_any (av 2)) (blkOk_by (own := [("entry", 11)]) (N := N_law) (sc := defScope s_law) (by decide +kernel)) (fun _ _ _ _ _ => (pg_name (i := 11) sc_law.nd rfl (Or.inl rfl))) (sgw_name (by decide)) (fun _ _ _ _ _ => tsa_nil) (fun _ _ _ _ _ => (ea_call (G__law_text.mono (k := 4) (by decide)) hr (by rfl) T.g__law_text T.F__law_text.kp T.b__law_text (aa_cons (av 11) aa_nil)))) (sa_cons (sa_for PassesOwn.never rfl (ia_rng1 (by rfl) T.m_range (aa_cons (ea_cb ca_len (by rfl) T.m_len (by decide +kernel) (aa_cons (av 2) aa_nil)) aa_nil)) (ga_name (i := 4) sc_law.nd rfl (Or.inl rfl)) (sa_one (sa_if (ta_cmp (oa_ne hr) (ea_call (G_record.mono (k := 4) (by decide)) hr (by rfl) T.g_record T.F_record.kp T.b_record (aa_cons (ea_ix (ea_ix (av 2) (av 4)) ea_int) (aa_cons (ea_ix (ea_ix (av 2) (av 4)) ea_int) (aa_cons (ea_ix (ea_ix (av 2) (av 4)) ea_int) (aa_cons (ea_ix (ea_ix (av 2) (av 4)) ea_int) aa_nil))))) (ea_ix (av 3) (av 4))) (sa_one (sa_ret ea_bl)) sa_nil))) (sa_cons (sa_set (i := 5) sc_law.nd rfl (Or.inl rfl) (ea_bm ma_join PySem.F.plainAttrs_str PySem.F.slot_str_join PySem.F.type_str_join ea_str (aa_cons (av 3) aa_nil))) (sa_cons (sa_set (i := 6) sc_law.nd rfl (Or.inl rfl) (ea_call (G__law_draw.mono (k := 4) (by decide)) hr (by rfl) T.g__law_draw T.F__law_draw.kp T.b__law_draw (aa_cons (av 1) (aa_cons ea_int aa_nil)))) (sa_cons (sa_set (i := 7) sc_law.nd rfl (Or.inl rfl) (ea_call (G__law_draw.mono (k := 4) (by decide)) hr (by rfl) T.g__law_draw T.F__law_draw.kp T.b__law_draw (aa_cons (av 1) (aa_cons (ea_op oa_add (ea_cb ca_len (by rfl) T.m_len (by decide +kernel) (aa_cons (av 5) aa_nil)) ea_int) aa_nil)))) (sa_cons (sa_if (ta_cmp (oa_eq hr) (av 6) ea_int) (sa_one (sa_ret (ea_cmp (oa_eq hr) (ea_call (G_read_records.mono (k := 4) (by decide)) hr (by rfl) T.g_read_records T.F_read_records.kp T.b_read_records (aa_cons (av 5) aa_nil)) (av 2)))) sa_nil) (sa_cons (sa_if (ta_cmp (oa_eq hr) (av 6) ea_int) (sa_one (sa_ret (ea_cmp (oa_eq hr) (ea_call (G_read_records.mono (k := 4) (by decide)) hr (by rfl) T.g_read_records T.F_read_records.kp T.b_read_records (aa_cons (ea_slice (av 5) oa_none (oa_some (av 7))) aa_nil)) (ea_slice (av 2) oa_none (oa_some (ea_call (G__law_whole.mono (k := 4) (by decide)) hr (by rfl) T.g__law_whole T.F__law_whole.kp T.b__law_whole (aa_cons (av 3) (aa_cons (av 7) aa_nil)))))))) sa_nil) (sa_cons (sa_if (ta_cmp (oa_eq hr) (av 6) ea_int) (sa_cons (sa_set (i := 8) sc_law.nd rfl (Or.inl rfl) (ea_lstD (aa_cons ea_str (aa_cons ea_str (aa_cons ea_str (aa_cons ea_str (aa_cons ea_str (aa_cons ea_str (aa_cons ea_str (aa_cons ea_str aa_nil)))))))))) (sa_one (sa_ret (ea_cmp (oa_eq hr) (ea_call (G_read_records.mono (k := 4) (by decide)) hr (by rfl) T.g_read_records T.F_read_records.kp T.b_read_records (aa_cons (ea_op oa_add (av 5) (ea_ix (av 8) (ea_call (G__law_draw.mono (k := 4) (by decide)) hr (by rfl) T.g__law_draw T.F__law_draw.kp T.b__law_draw (aa_cons (av 1) (aa_cons ea_int aa_nil))))) aa_nil)) (av 2))))) sa_nil) (sa_cons (sa_if (ta_cmp (oa_eq hr) (av 7) (ea_cb ca_len (by rfl) T.m_len (by decide +kernel) (aa_cons (av 5) aa_nil))) (sa_one (sa_ret ea_bl)) sa_nil) (sa_cons (sa_set (i := 9) sc_law.nd rfl (Or.inl rfl) (ea_ix (ea_lstD (aa_cons ea_str (aa_cons ea_str (aa_cons ea_str (aa_cons ea_str (aa_cons ea_str (aa_cons ea_str (aa_cons ea_str (aa_cons ea_str aa_nil))))))))) (ea_call (G__law_draw.mono (k := 4) (by decide)) hr (by rfl) T.g__law_draw T.F__law_draw.kp T.b__law_draw (aa_cons (av 1) (aa_cons ea_int aa_nil))))) (sa_cons (sa_if (ta_cmp (oa_eq hr) (ea_ix (av 5) (av 7)) (av 9)) (sa_one (sa_ret ea_bl)) sa_nil) (sa_cons (sa_set (i := 10) sc_law.nd rfl (Or.inl rfl) (ea_op oa_add (ea_op oa_add (ea_slice (av 5) oa_none (oa_some (av 7))) (av 9)) (ea_slice (av 5) (oa_some (ea_op oa_add (av 7) ea_int)) oa_none))) (sa_one (sa_ret (ea_cmp (oa_eq hr) (ea_call (G_read_records.mono (k := 4) (by decide)) hr (by rfl) T.g_read_records T.F_read_records.kp T.b_read_records (aa_cons (av 10) aa_nil)) (ea_slice (av 2) oa_none (oa_some (ea_call (G__law_whole.mono (k := 4) (by decide)) hr (by rfl) T.g__law_whole T.F__law_whole.kp T.b__law_whole (aa_cons (av 3) (aa_cons (av 7) aa_nil)))))))))))))))))))))), rd_law⟩
theorem all_ok (T : Txt K mg) : FnOk P w K mg base CX0 5 T.f_law T.fd_law ["script"] (spA K F_law) := by
  have G__law_state := ok__law_state (P := P) (w := w) (base := base) T 
  have G__law_draw := ok__law_draw (P := P) (w := w) (base := base) T 
  have G__law_name := ok__law_name (P := P) (w := w) (base := base) T G__law_draw
  have G__law_record := ok__law_record (P := P) (w := w) (base := base) T G__law_draw G__law_name
  have G__law_sum := ok__law_sum (P := P) (w := w) (base := base) T 
  have G__law_text := ok__law_text (P := P) (w := w) (base := base) T G__law_sum
  have G__sum_of := ok__sum_of (P := P) (w := w) (base := base) T 
  have G_record := ok_record (P := P) (w := w) (base := base) T G__sum_of
  have G__behind_spaces := ok__behind_spaces (P := P) (w := w) (base := base) T 
  have G__is_number := ok__is_number (P := P) (w := w) (base := base) T 
  have G__first_record := ok__first_record (P := P) (w := w) (base := base) T G__behind_spaces G__is_number G_record
  have G_read_records := ok_read_records (P := P) (w := w) (base := base) T G__first_record
  have G__law_whole := ok__law_whole (P := P) (w := w) (base := base) T 
  have G_law := ok_law (P := P) (w := w) (base := base) T G__law_state G__law_record G__law_draw G__law_text G_record G_read_records G__law_whole
  exact G_law
theorem all_mk {K : PySem.W.Frag} {h : Heap} {mg : Str → Option Value} {fa : Addr} (X : K.In h) (Gn : h.Ns mainGlobals mg) (hfa : mg "law" = some (.ref fa))
    {f0 : Addr} {od0 an0 : Option Addr} {sl0 : Array (Option Value)} {oc0 kV0 dc0 pm0 cd0 ct0 : Value}
    {f1 : Addr} {od1 an1 : Option Addr} {sl1 : Array (Option Value)} {oc1 kV1 dc1 pm1 cd1 ct1 : Value}
    {f2 : Addr} {od2 an2 : Option Addr} {sl2 : Array (Option Value)} {oc2 kV2 dc2 pm2 cd2 ct2 : Value}
    {f3 : Addr} {od3 an3 : Option Addr} {sl3 : Array (Option Value)} {oc3 kV3 dc3 pm3 cd3 ct3 : Value}
    {f4 : Addr} {od4 an4 : Option Addr} {sl4 : Array (Option Value)} {oc4 kV4 dc4 pm4 cd4 ct4 : Value}
    {f5 : Addr} {od5 an5 : Option Addr} {sl5 : Array (Option Value)} {oc5 kV5 dc5 pm5 cd5 ct5 : Value}
    {f6 : Addr} {od6 an6 : Option Addr} {sl6 : Array (Option Value)} {oc6 kV6 dc6 pm6 cd6 ct6 : Value}
    {f7 : Addr} {od7 an7 : Option Addr} {sl7 : Array (Option Value)} {oc7 kV7 dc7 pm7 cd7 ct7 : Value}
    {f8 : Addr} {od8 an8 : Option Addr} {sl8 : Array (Option Value)} {oc8 kV8 dc8 pm8 cd8 ct8 : Value}
    {f9 : Addr} {od9 an9 : Option Addr} {sl9 : Array (Option Value)} {oc9 kV9 dc9 pm9 cd9 ct9 : Value}
    {f10 : Addr} {od10 an10 : Option Addr} {sl10 : Array (Option Value)} {oc10 kV10 dc10 pm10 cd10 ct10 : Value}
    {f11 : Addr} {od11 an11 : Option Addr} {sl11 : Array (Option Value)} {oc11 kV11 dc11 pm11 cd11 ct11 : Value}
    {f12 : Addr} {od12 an12 : Option Addr} {sl12 : Array (Option Value)} {oc12 kV12 dc12 pm12 cd12 ct12 : Value}
    {f13 : Addr} {od13 an13 : Option Addr} {sl13 : Array (Option Value)} {oc13 kV13 dc13 pm13 cd13 ct13 : Value}
    {tk0 : Tok}
    {fq1 : Addr} {oq1 : Obj} {nq1 : Nat} {tq1_0 : Tok} {tq1_1 : Tok} {tq1_2 : Tok} {tq1_3 : Tok} {tq1_4 : Tok}
    {tk2 : Tok}
    {fq3 : Addr} {oq3 : Obj} {nq3 : Nat} {tq3_0 : Tok} {tq3_1 : Tok} {tq3_2 : Tok} {tq3_3 : Tok} {tq3_4 : Tok} {tq3_5 : Tok}
    (a0 : PySem.W.nsIn K mainGlobals "_law_state" = some (some (.ref f0)))
    (l0 : K.lookup f0 = some ⟨oc0, od0, .func (PySem.W.fnOf "_law_state" "_law_state" (defArgs s__law_state) (defBody s__law_state) (defScope s__law_state) .none kV0 dc0 pm0 an0 cd0 ct0), sl0⟩) (c0 : PySem.W.codeIn K cd0 "_law_state" = true) (k0 : PySem.W.keepIn K (.ref f0) = true)
    (a1 : PySem.W.nsIn K mainGlobals "_law_draw" = some (some (.ref f1)))
    (l1 : K.lookup f1 = some ⟨oc1, od1, .func (PySem.W.fnOf "_law_draw" "_law_draw" (defArgs s__law_draw) (defBody s__law_draw) (defScope s__law_draw) .none kV1 dc1 pm1 an1 cd1 ct1), sl1⟩) (c1 : PySem.W.codeIn K cd1 "_law_draw" = true) (k1 : PySem.W.keepIn K (.ref f1) = true)
    (a2 : PySem.W.nsIn K mainGlobals "_law_name" = some (some (.ref f2)))
    (l2 : K.lookup f2 = some ⟨oc2, od2, .func (PySem.W.fnOf "_law_name" "_law_name" (defArgs s__law_name) (defBody s__law_name) (defScope s__law_name) .none kV2 dc2 pm2 an2 cd2 ct2), sl2⟩) (c2 : PySem.W.codeIn K cd2 "_law_name" = true) (k2 : PySem.W.keepIn K (.ref f2) = true)
    (a3 : PySem.W.nsIn K mainGlobals "_law_record" = some (some (.ref f3)))
    (l3 : K.lookup f3 = some ⟨oc3, od3, .func (PySem.W.fnOf "_law_record" "_law_record" (defArgs s__law_record) (defBody s__law_record) (defScope s__law_record) .none kV3 dc3 pm3 an3 cd3 ct3), sl3⟩) (c3 : PySem.W.codeIn K cd3 "_law_record" = true) (k3 : PySem.W.keepIn K (.ref f3) = true)
    (a4 : PySem.W.nsIn K mainGlobals "_law_sum" = some (some (.ref f4)))
    (l4 : K.lookup f4 = some ⟨oc4, od4, .func (PySem.W.fnOf "_law_sum" "_law_sum" (defArgs s__law_sum) (defBody s__law_sum) (defScope s__law_sum) .none kV4 dc4 pm4 an4 cd4 ct4), sl4⟩) (c4 : PySem.W.codeIn K cd4 "_law_sum" = true) (k4 : PySem.W.keepIn K (.ref f4) = true)
    (a5 : PySem.W.nsIn K mainGlobals "_law_text" = some (some (.ref f5)))
    (l5 : K.lookup f5 = some ⟨oc5, od5, .func (PySem.W.fnOf "_law_text" "_law_text" (defArgs s__law_text) (defBody s__law_text) (defScope s__law_text) .none kV5 dc5 pm5 an5 cd5 ct5), sl5⟩) (c5 : PySem.W.codeIn K cd5 "_law_text" = true) (k5 : PySem.W.keepIn K (.ref f5) = true)
    (a6 : PySem.W.nsIn K mainGlobals "_sum_of" = some (some (.ref f6)))
    (l6 : K.lookup f6 = some ⟨oc6, od6, .func (PySem.W.fnOf "_sum_of" "_sum_of" (defArgs s__sum_of) (defBody s__sum_of) (defScope s__sum_of) .none kV6 dc6 pm6 an6 cd6 ct6), sl6⟩) (c6 : PySem.W.codeIn K cd6 "_sum_of" = true) (k6 : PySem.W.keepIn K (.ref f6) = true)
    (a7 : PySem.W.nsIn K mainGlobals "record" = some (some (.ref f7)))
    (l7 : K.lookup f7 = some ⟨oc7, od7, .func (PySem.W.fnOf "record" "record" (defArgs s_record) (defBody s_record) (defScope s_record) .none kV7 dc7 pm7 an7 cd7 ct7), sl7⟩) (c7 : PySem.W.codeIn K cd7 "record" = true) (k7 : PySem.W.keepIn K (.ref f7) = true)
    (a8 : PySem.W.nsIn K mainGlobals "_behind_spaces" = some (some (.ref f8)))
    (l8 : K.lookup f8 = some ⟨oc8, od8, .func (PySem.W.fnOf "_behind_spaces" "_behind_spaces" (defArgs s__behind_spaces) (defBody s__behind_spaces) (defScope s__behind_spaces) .none kV8 dc8 pm8 an8 cd8 ct8), sl8⟩) (c8 : PySem.W.codeIn K cd8 "_behind_spaces" = true) (k8 : PySem.W.keepIn K (.ref f8) = true)
    (a9 : PySem.W.nsIn K mainGlobals "_is_number" = some (some (.ref f9)))
    (l9 : K.lookup f9 = some ⟨oc9, od9, .func (PySem.W.fnOf "_is_number" "_is_number" (defArgs s__is_number) (defBody s__is_number) (defScope s__is_number) .none kV9 dc9 pm9 an9 cd9 ct9), sl9⟩) (c9 : PySem.W.codeIn K cd9 "_is_number" = true) (k9 : PySem.W.keepIn K (.ref f9) = true)
    (a10 : PySem.W.nsIn K mainGlobals "_first_record" = some (some (.ref f10)))
    (l10 : K.lookup f10 = some ⟨oc10, od10, .func (PySem.W.fnOf "_first_record" "_first_record" (defArgs s__first_record) (defBody s__first_record) (defScope s__first_record) .none kV10 dc10 pm10 an10 cd10 ct10), sl10⟩) (c10 : PySem.W.codeIn K cd10 "_first_record" = true) (k10 : PySem.W.keepIn K (.ref f10) = true)
    (a11 : PySem.W.nsIn K mainGlobals "read_records" = some (some (.ref f11)))
    (l11 : K.lookup f11 = some ⟨oc11, od11, .func (PySem.W.fnOf "read_records" "read_records" (defArgs s_read_records) (defBody s_read_records) (defScope s_read_records) .none kV11 dc11 pm11 an11 cd11 ct11), sl11⟩) (c11 : PySem.W.codeIn K cd11 "read_records" = true) (k11 : PySem.W.keepIn K (.ref f11) = true)
    (a12 : PySem.W.nsIn K mainGlobals "_law_whole" = some (some (.ref f12)))
    (l12 : K.lookup f12 = some ⟨oc12, od12, .func (PySem.W.fnOf "_law_whole" "_law_whole" (defArgs s__law_whole) (defBody s__law_whole) (defScope s__law_whole) .none kV12 dc12 pm12 an12 cd12 ct12), sl12⟩) (c12 : PySem.W.codeIn K cd12 "_law_whole" = true) (k12 : PySem.W.keepIn K (.ref f12) = true)
    (a13 : PySem.W.nsIn K mainGlobals "law" = some (some (.ref f13)))
    (l13 : K.lookup f13 = some ⟨oc13, od13, .func (PySem.W.fnOf "law" "law" (defArgs s_law) (defBody s_law) (defScope s_law) .none kV13 dc13 pm13 an13 cd13 ct13), sl13⟩) (c13 : PySem.W.codeIn K cd13 "law" = true) (k13 : PySem.W.keepIn K (.ref f13) = true)
    (z0 : PySem.W.nsIn K mainGlobals "all" = some none)
    (z1 : PySem.W.nsIn K mainGlobals "int" = some none)
    (z2 : PySem.W.nsIn K mainGlobals "len" = some none)
    (z3 : PySem.W.nsIn K mainGlobals "list" = some none)
    (z4 : PySem.W.nsIn K mainGlobals "ord" = some none)
    (z5 : PySem.W.nsIn K mainGlobals "range" = some none)
    (z6 : PySem.W.nsIn K mainGlobals "str" = some none)
    (q0 : PySem.W.nsIn K mainGlobals "DIGITS" = some (some (.str "0123456789" tk0)))
    (q1 : PySem.W.nsIn K mainGlobals "KINDS" = some (some (.ref fq1))) (qo1 : K.lookup fq1 = some oq1) (qc1 : oq1.cls = .type "tuple") (qd1 : oq1.data = .seq #[.str "p" tq1_0, .str "k" tq1_1, .str "g" tq1_2, .str "t" tq1_3, .str "r" tq1_4] nq1)
    (q2 : PySem.W.nsIn K mainGlobals "MOST_DIGITS" = some (some (.int 9 tk2)))
    (q3 : PySem.W.nsIn K mainGlobals "SUMMARY_KINDS" = some (some (.ref fq3))) (qo3 : K.lookup fq3 = some oq3) (qc3 : oq3.cls = .type "tuple") (qd3 : oq3.data = .seq #[.str "a" tq3_0, .str "n" tq3_1, .str "y" tq3_2, .str "x" tq3_3, .str "w" tq3_4, .str "z" tq3_5] nq3) :
    ∃ fd : FuncData, (∀ (s : Shared) (v : Value), BindsTo s fd ⟨[v], []⟩ [("script", v)]) ∧ ∀ (P : Program) (w : World) (base : Heap), FnOk P w K mg base CX0 5 fa fd ["script"] (spA K F_law) := by
  have e := hfa.symm.trans (PySem.W.mg_of X Gn a13)
  cases e
  have F0 := fun_mk (st := s__law_state) l0 c0 k0
  have F1 := fun_mk (st := s__law_draw) l1 c1 k1
  have F2 := fun_mk (st := s__law_name) l2 c2 k2
  have F3 := fun_mk (st := s__law_record) l3 c3 k3
  have F4 := fun_mk (st := s__law_sum) l4 c4 k4
  have F5 := fun_mk (st := s__law_text) l5 c5 k5
  have F6 := fun_mk (st := s__sum_of) l6 c6 k6
  have F7 := fun_mk (st := s_record) l7 c7 k7
  have F8 := fun_mk (st := s__behind_spaces) l8 c8 k8
  have F9 := fun_mk (st := s__is_number) l9 c9 k9
  have F10 := fun_mk (st := s__first_record) l10 c10 k10
  have F11 := fun_mk (st := s_read_records) l11 c11 k11
  have F12 := fun_mk (st := s__law_whole) l12 c12 k12
  have F13 := fun_mk (st := s_law) l13 c13 k13
  let T : Txt K mg := { m_all := PySem.W.mg_none_of X Gn z0, m_int := PySem.W.mg_none_of X Gn z1, m_len := PySem.W.mg_none_of X Gn z2, m_list := PySem.W.mg_none_of X Gn z3, m_ord := PySem.W.mg_none_of X Gn z4, m_range := PySem.W.mg_none_of X Gn z5, m_str := PySem.W.mg_none_of X Gn z6, v_DIGITS := .str "0123456789", u_DIGITS := _, g_DIGITS := PySem.W.mg_of X Gn q0, r_DIGITS := ⟨_, rfl⟩, d_DIGITS := fun _ => .str _, v_KINDS := .ref fq1, u_KINDS := _, g_KINDS := PySem.W.mg_of X Gn q1, r_KINDS := rfl, d_KINDS := fun _ => dp_strs qo1 qc1 qd1 (show 5 ≤ sizeLine by decide) ((.cons _ _ (.cons _ _ (.cons _ _ (.cons _ _ (.cons _ _ .nil)))))), v_MOST_DIGITS := .int 9, u_MOST_DIGITS := _, g_MOST_DIGITS := PySem.W.mg_of X Gn q2, r_MOST_DIGITS := ⟨_, rfl⟩, d_MOST_DIGITS := fun _ => .int _, v_SUMMARY_KINDS := .ref fq3, u_SUMMARY_KINDS := _, g_SUMMARY_KINDS := PySem.W.mg_of X Gn q3, r_SUMMARY_KINDS := rfl, d_SUMMARY_KINDS := fun _ => dp_strs qo3 qc3 qd3 (show 6 ≤ sizeLine by decide) ((.cons _ _ (.cons _ _ (.cons _ _ (.cons _ _ (.cons _ _ (.cons _ _ .nil))))))), f__law_state := f0, fd__law_state := _, g__law_state := PySem.W.mg_of X Gn a0, F__law_state := F0, b__law_state := F0.binds (ps := ["script"]) fun _ _ _ _ _ _ us hl => (match us, hl with | [_], _ => rfl), f__law_draw := f1, fd__law_draw := _, g__law_draw := PySem.W.mg_of X Gn a1, F__law_draw := F1, b__law_draw := F1.binds (ps := ["state", "limit"]) fun _ _ _ _ _ _ us hl => (match us, hl with | [_, _], _ => rfl), f__law_name := f2, fd__law_name := _, g__law_name := PySem.W.mg_of X Gn a2, F__law_name := F2, b__law_name := F2.binds (ps := ["state"]) fun _ _ _ _ _ _ us hl => (match us, hl with | [_], _ => rfl), f__law_record := f3, fd__law_record := _, g__law_record := PySem.W.mg_of X Gn a3, F__law_record := F3, b__law_record := F3.binds (ps := ["state"]) fun _ _ _ _ _ _ us hl => (match us, hl with | [_], _ => rfl), f__law_sum := f4, fd__law_sum := _, g__law_sum := PySem.W.mg_of X Gn a4, F__law_sum := F4, b__law_sum := F4.binds (ps := ["text"]) fun _ _ _ _ _ _ us hl => (match us, hl with | [_], _ => rfl), f__law_text := f5, fd__law_text := _, g__law_text := PySem.W.mg_of X Gn a5, F__law_text := F5, b__law_text := F5.binds (ps := ["entry"]) fun _ _ _ _ _ _ us hl => (match us, hl with | [_], _ => rfl), f__sum_of := f6, fd__sum_of := _, g__sum_of := PySem.W.mg_of X Gn a6, F__sum_of := F6, b__sum_of := F6.binds (ps := ["head"]) fun _ _ _ _ _ _ us hl => (match us, hl with | [_], _ => rfl), f_record := f7, fd_record := _, g_record := PySem.W.mg_of X Gn a7, F_record := F7, b_record := F7.binds (ps := ["kind", "other", "label", "number"]) fun _ _ _ _ _ _ us hl => (match us, hl with | [_, _, _, _], _ => rfl), f__behind_spaces := f8, fd__behind_spaces := _, g__behind_spaces := PySem.W.mg_of X Gn a8, F__behind_spaces := F8, b__behind_spaces := F8.binds (ps := ["text", "at", "many"]) fun _ _ _ _ _ _ us hl => (match us, hl with | [_, _, _], _ => rfl), f__is_number := f9, fd__is_number := _, g__is_number := PySem.W.mg_of X Gn a9, F__is_number := F9, b__is_number := F9.binds (ps := ["digits"]) fun _ _ _ _ _ _ us hl => (match us, hl with | [_], _ => rfl), f__first_record := f10, fd__first_record := _, g__first_record := PySem.W.mg_of X Gn a10, F__first_record := F10, b__first_record := F10.binds (ps := ["text", "at"]) fun _ _ _ _ _ _ us hl => (match us, hl with | [_, _], _ => rfl), f_read_records := f11, fd_read_records := _, g_read_records := PySem.W.mg_of X Gn a11, F_read_records := F11, b_read_records := F11.binds (ps := ["text"]) fun _ _ _ _ _ _ us hl => (match us, hl with | [_], _ => rfl), f__law_whole := f12, fd__law_whole := _, g__law_whole := PySem.W.mg_of X Gn a12, F__law_whole := F12, b__law_whole := F12.binds (ps := ["texts", "length"]) fun _ _ _ _ _ _ us hl => (match us, hl with | [_, _], _ => rfl), f_law := fa, fd_law := _, g_law := PySem.W.mg_of X Gn a13, F_law := F13, b_law := F13.binds (ps := ["script"]) fun _ _ _ _ _ _ us hl => (match us, hl with | [_], _ => rfl) }
  exact ⟨_, fun s v => .of_eq rfl, fun P w base => all_ok T⟩
end

end K24
open PySem PySem.W PyProof.Rows
set_option maxHeartbeats 0 in
theorem PySem.Challenge.cw_pactloom_k24_records_of_journals_holds : PySem.Challenge.rw_pactloom_k24_records_of_journals.Holds := by
  w_on; o_law; k_head; (case hw => w_witness2)
  k_fill
  refine L2.walk_of (l := PySem.Challenge.rw_pactloom_k24_records_of_journals) (n := 63) (k := 5) (x := "script") (CX := fun _ => L2.CX0) (sp := fun w => Ab.spA _ Ab.F_law) rfl (by decide) rfl ⟨rfl, by decide, by decide⟩ (fun w h Y => PySem.W.kIn_of Y) ?F (fun _ H a ns hl hO hS => Ab.law_start hl hS) (fun _ _ _ _ _ h => h)
  case F =>
    intro w mg fa h KX G hmg
    refine' Ab.fd_all (K24.all_mk KX G hmg ?a0 ?l0 ?c0 ?k0 ?a1 ?l1 ?c1 ?k1 ?a2 ?l2 ?c2 ?k2 ?a3 ?l3 ?c3 ?k3 ?a4 ?l4 ?c4 ?k4 ?a5 ?l5 ?c5 ?k5 ?a6 ?l6 ?c6 ?k6 ?a7 ?l7 ?c7 ?k7 ?a8 ?l8 ?c8 ?k8 ?a9 ?l9 ?c9 ?k9 ?a10 ?l10 ?c10 ?k10 ?a11 ?l11 ?c11 ?k11 ?a12 ?l12 ?c12 ?k12 ?a13 ?l13 ?c13 ?k13 ?z0 ?z1 ?z2 ?z3 ?z4 ?z5 ?z6 ?q0 ?q1 ?qo1 ?qc1 ?qd1 ?q2 ?q3 ?qo3 ?qc3 ?qd3)
    (case a0 => k_is)
    (case l0 => k_is)
    (case c0 => k_is)
    (case k0 => k_is)
    (case a1 => k_is)
    (case l1 => k_is)
    (case c1 => k_is)
    (case k1 => k_is)
    (case a2 => k_is)
    (case l2 => k_is)
    (case c2 => k_is)
    (case k2 => k_is)
    (case a3 => k_is)
    (case l3 => k_is)
    (case c3 => k_is)
    (case k3 => k_is)
    (case a4 => k_is)
    (case l4 => k_is)
    (case c4 => k_is)
    (case k4 => k_is)
    (case a5 => k_is)
    (case l5 => k_is)
    (case c5 => k_is)
    (case k5 => k_is)
    (case a6 => k_is)
    (case l6 => k_is)
    (case c6 => k_is)
    (case k6 => k_is)
    (case a7 => k_is)
    (case l7 => k_is)
    (case c7 => k_is)
    (case k7 => k_is)
    (case a8 => k_is)
    (case l8 => k_is)
    (case c8 => k_is)
    (case k8 => k_is)
    (case a9 => k_is)
    (case l9 => k_is)
    (case c9 => k_is)
    (case k9 => k_is)
    (case a10 => k_is)
    (case l10 => k_is)
    (case c10 => k_is)
    (case k10 => k_is)
    (case a11 => k_is)
    (case l11 => k_is)
    (case c11 => k_is)
    (case k11 => k_is)
    (case a12 => k_is)
    (case l12 => k_is)
    (case c12 => k_is)
    (case k12 => k_is)
    (case a13 => k_is)
    (case l13 => k_is)
    (case c13 => k_is)
    (case k13 => k_is)
    (case z0 => k_is)
    (case z1 => k_is)
    (case z2 => k_is)
    (case z3 => k_is)
    (case z4 => k_is)
    (case z5 => k_is)
    (case z6 => k_is)
    (case q0 => k_is)
    (case q1 => k_is)
    (case qo1 => k_is)
    (case qc1 => rfl)
    (case qd1 => rfl)
    (case q2 => k_is)
    (case q3 => k_is)
    (case qo3 => k_is)
    (case qc3 => rfl)
    (case qd3 => rfl)

