import PyProof.Rows.All
import Wide.All
import OpenK.AllK
import Wide.FinOn
import PySem.Challenge.RW_pactloom_k08_printed_forms
import HandS.ForMost
import HandS.IsInst
import HandS.TupAny
import HandS.StrMore
import HandS.Codes
import HandS.Dict
import HandS.More
import HandS.Text
import HandS.FStr
set_option Elab.async false
set_option linter.all false
set_option maxRecDepth 100000
set_option maxHeartbeats 4000000
/-! Ab: readings over data instead of heaps: values that never change are data (PyData), what changes are cells by their number. -/
namespace Ab
open PySem L2

inductive AV where
  | d (x : PyData)
  | c (k : Nat)
  | r (v : V)

inductive Cell where
  | dead
  /-- a list of data; a list, a tuple of any things -/
  | ld (xs : List PyData)
  | lst (xs : List AV)
  | tup (xs : List AV)
  | dK (kvs : List (Key × PyData))
  | dT (kvs : List (List Key × PyData))
  | ins (C : Addr) (fs : List (Str × AV))

abbrev AD := List (Option AV)
abbrev AK := List Cell
abbrev AR := AV → AK → Prop
abbrev AE := AD → AK → AR → Prop
abbrev AT := AD → AK → (Bool → AK → Prop) → Prop
abbrev AA := AD → AK → (List AV → AK → Prop) → Prop

mutual
theorem dp_up {K : PySem.W.Frag} {B B' : Hp} (s : Same B B') : ∀ (d : PyData) (v : V), Dp K B v d → Dp K B' v d
  | .none, _, h => by cases h; exact .non
  | .bool b, _, h => by cases h; exact .bl b
  | .int i, _, h => by cases h; exact .int i
  | .str x, _, h => by cases h; exact .str x
  | .list ds, _, h => by
    cases h with
    | lst hs ha => exact .lst (s.seq hs) (dpa_up s ds _ ha)
  | .tuple ds, _, h => by
    cases h with
    | tup hs ha =>
      refine .tup ?_ (dpa_up s ds _ ha)
      rcases hs with (h | ⟨o, h⟩) | h
      · exact .inl (.inl (s _ _ h))
      · exact .inl (.inr ⟨o, s _ _ h⟩)
      · exact .inr h
  | .dict _, _, h => by cases h
theorem dpa_up {K : PySem.W.Frag} {B B' : Hp} (s : Same B B') : ∀ (ds : List PyData) (vs : List V), DpAll K B vs ds → DpAll K B' vs ds
  | [], _, h => by cases h; exact .nil
  | d :: ds, _, h => by
    cases h with
    | cons h1 h2 => exact .cons (dp_up s d _ h1) (dpa_up s ds _ h2)
end

variable {K : PySem.W.Frag} {B B' B2 H H' H2 : Hp} {ρ ρ' ρ2 : List Addr} {κ κ' : AK} {δ : AD} {σ : L2.St} {p : Addr} {k : Nat} {v x y z : V} {a b c : AV}

def Rep (K : PySem.W.Frag) (B : Hp) (ρ : List Addr) : AV → V → Prop
  | .d x, v => Dp K B v x
  | .c k, v => ∃ p, ρ[k]? = some p ∧ v = .ref p
  | .r u, v => v = u
abbrev Reps (K : PySem.W.Frag) (B : Hp) (ρ : List Addr) : List AV → List V → Prop := Paired (Rep K B ρ)
/-- entries with data -/
def DpKs {κ : Type} (K : PySem.W.Frag) (B : Hp) : List (κ × PyData) → List (κ × V) → Prop := Paired fun p q => p.1 = q.1 ∧ Dp K B q.2 p.2
theorem DpKs.up {κ : Type} (u : Same B B') {as : List (κ × PyData)} {vs : List (κ × V)} (h : DpKs K B as vs) : DpKs K B' as vs := Paired.mapP h fun _ _ r => ⟨r.1, dp_up u _ _ r.2⟩
def RepKs {κ : Type} (K : PySem.W.Frag) (B : Hp) (ρ : List Addr) : List (κ × AV) → List (κ × V) → Prop := Paired fun p q => p.1 = q.1 ∧ Rep K B ρ p.2 q.2

/-- from (B, ρ, H) to (B', ρ', H'): data stays data, cells keep their places, what is neither stays as it was -/
structure Up (B : Hp) (ρ : List Addr) (H : Hp) (B' : Hp) (ρ' : List Addr) (H' : Hp) : Prop where
  s : Same B B'
  p : ∀ (i : Nat) (a : Addr), ρ[i]? = some a → ρ'[i]? = some a
  f : ∀ p o, H p = some o → B p = none → p ∉ ρ → H' p = some o ∧ B' p = none ∧ p ∉ ρ'
theorem Up.refl : Up B ρ H B ρ H := ⟨Same.refl B, fun _ _ h => h, fun _ _ h1 h2 h3 => ⟨h1, h2, h3⟩⟩
theorem Up.trans (a : Up B ρ H B' ρ' H') (b : Up B' ρ' H' B2 ρ2 H2) : Up B ρ H B2 ρ2 H2 := ⟨a.s.trans b.s, fun i x h => b.p i x (a.p i x h), fun p o h1 h2 h3 => let ⟨e1, e2, e3⟩ := a.f p o h1 h2 h3; b.f p o e1 e2 e3⟩
/-- the same of the first n cells alone -/
structure UpN (n : Nat) (B : Hp) (ρ : List Addr) (H : Hp) (B' : Hp) (ρ' : List Addr) (H' : Hp) : Prop where
  s : Same B B'
  p : ∀ (i : Nat) (a : Addr), i < n → ρ[i]? = some a → ρ'[i]? = some a
  f : ∀ p o, H p = some o → B p = none → p ∉ ρ → H' p = some o ∧ B' p = none ∧ p ∉ ρ'
theorem Up.n {n : Nat} (a : Up B ρ H B' ρ' H') : UpN n B ρ H B' ρ' H' := ⟨a.s, fun i x _ h => a.p i x h, a.f⟩
theorem UpN.refl {n : Nat} : UpN n B ρ H B ρ H := Up.refl.n
theorem UpN.trans {n : Nat} (a : UpN n B ρ H B' ρ' H') (b : UpN n B' ρ' H' B2 ρ2 H2) : UpN n B ρ H B2 ρ2 H2 := ⟨a.s.trans b.s, fun i x hi h => b.p i x hi (a.p i x hi h), fun p o h1 h2 h3 => let ⟨e1, e2, e3⟩ := a.f p o h1 h2 h3; b.f p o e1 e2 e3⟩
theorem UpN.full {n : Nat} (a : UpN n B ρ H B' ρ' H') (h : ρ.length ≤ n) : Up B ρ H B' ρ' H' := ⟨a.s, fun i x e => a.p i x (Nat.lt_of_lt_of_le (List.getElem?_eq_some_iff.mp e).1 h) e, a.f⟩
/-- data and cells alone -/
structure Ug (B : Hp) (ρ : List Addr) (B' : Hp) (ρ' : List Addr) : Prop where
  s : Same B B'
  p : ∀ (i : Nat) (a : Addr), ρ[i]? = some a → ρ'[i]? = some a
theorem Ug.refl : Ug B ρ B ρ := ⟨Same.refl B, fun _ _ h => h⟩
theorem Up.g (u : Up B ρ H B' ρ' H') : Ug B ρ B' ρ' := ⟨u.s, u.p⟩
theorem Rep.up (u : Ug B ρ B' ρ') : ∀ {a : AV} {v : V}, Rep K B ρ a v → Rep K B' ρ' a v
  | .d x, _, h => dp_up u.s x _ h
  | .c k, _, ⟨p, h, e⟩ => ⟨p, u.p _ _ h, e⟩
  | .r _, _, h => h
theorem Reps.up (u : Ug B ρ B' ρ') {as : List AV} {vs : List V} (h : Reps K B ρ as vs) : Reps K B' ρ' as vs := Paired.mapP h fun _ _ r => r.up u
theorem RepKs.up {κ : Type} (u : Ug B ρ B' ρ') {as : List (κ × AV)} {vs : List (κ × V)} (h : RepKs K B ρ as vs) : RepKs K B' ρ' as vs := Paired.mapP h fun _ _ r => ⟨r.1, r.2.up u⟩

def CellOk (K : PySem.W.Frag) (B : Hp) (ρ : List Addr) (H : Hp) (p : Addr) : Cell → Prop
  | .dead => H p ≠ none
  | .ld xs => B p = none ∧ ∃ vs, DpAll K B vs xs ∧ H p = some (.lst vs)
  | .lst xs => B p = none ∧ ∃ vs, Reps K B ρ xs vs ∧ H p = some (.lst vs)
  | .tup xs => B p = none ∧ ∃ vs, Reps K B ρ xs vs ∧ H p = some (.tup vs)
  | .dK kvs => B p = none ∧ ∃ ws, DpKs K B kvs ws ∧ H p = some (.dK ws)
  | .dT kvs => B p = none ∧ ∃ ws, DpKs K B kvs ws ∧ H p = some (.dT ws)
  | .ins C fs => B p = none ∧ ∃ dx ws, RepKs K B ρ fs ws ∧ H p = some (.ins C dx ws)
theorem CellOk.nn {cl : Cell} (h : CellOk K B ρ H p cl) : H p ≠ none := by
  cases cl with
  | dead => exact h
  | ld xs => obtain ⟨_, _, _, e⟩ := h; rw [e]; simp
  | lst xs => obtain ⟨_, _, _, e⟩ := h; rw [e]; simp
  | tup xs => obtain ⟨_, _, _, e⟩ := h; rw [e]; simp
  | dK xs => obtain ⟨_, _, _, e⟩ := h; rw [e]; simp
  | dT xs => obtain ⟨_, _, _, e⟩ := h; rw [e]; simp
  | ins C xs => obtain ⟨_, _, _, _, e⟩ := h; rw [e]; simp
/-- the cell stays: its own object, and it is not in the base -/
theorem CellOk.up {cl : Cell} (u : Ug B ρ B' ρ') (h : CellOk K B ρ H p cl) (hb : B p = none → B' p = none) (hh : ∀ o, H p = some o → H' p = some o) : CellOk K B' ρ' H' p cl := by
  cases cl with
  | dead =>
    show H' p ≠ none
    cases e : H p with
    | none => exact absurd e h
    | some o => rw [hh o e]; simp
  | ld xs => obtain ⟨n, vs, r, e⟩ := h; exact ⟨hb n, vs, dpa_up u.s _ _ r, hh _ e⟩
  | lst xs => obtain ⟨n, vs, r, e⟩ := h; exact ⟨hb n, vs, Reps.up u r, hh _ e⟩
  | tup xs => obtain ⟨n, vs, r, e⟩ := h; exact ⟨hb n, vs, Reps.up u r, hh _ e⟩
  | dK xs => obtain ⟨n, vs, r, e⟩ := h; exact ⟨hb n, vs, DpKs.up u.s r, hh _ e⟩
  | dT xs => obtain ⟨n, vs, r, e⟩ := h; exact ⟨hb n, vs, DpKs.up u.s r, hh _ e⟩
  | ins C xs => obtain ⟨n, dx, vs, r, e⟩ := h; exact ⟨hb n, dx, vs, RepKs.up u r, hh _ e⟩

structure G (K : PySem.W.Frag) (B : Hp) (ρ : List Addr) (κ : AK) (H : Hp) : Prop where
  ex : Same B H
  len : ρ.length = κ.length
  inj : ∀ (i j : Nat) (p : Addr), ρ[i]? = some p → ρ[j]? = some p → i = j
  at' : ∀ (k : Nat) (p : Addr) (c : Cell), ρ[k]? = some p → κ[k]? = some c → CellOk K B ρ H p c
structure S (K : PySem.W.Frag) (B : Hp) (ρ : List Addr) (δ : AD) (σ : L2.St) : Prop where
  len : δ.length = σ.length
  at' : ∀ (i : Nat) (a : AV), δ[i]? = some (some a) → ∃ v, σ[i]? = some (some v) ∧ Rep K B ρ a v
theorem S.up (u : Ug B ρ B' ρ') (s : S K B ρ δ σ) : S K B' ρ' δ σ := ⟨s.len, fun i a h => let ⟨v, e, r⟩ := s.at' i a h; ⟨v, e, r.up u⟩⟩
theorem S.set {i : Nat} (s : S K B ρ δ σ) (r : Rep K B ρ a v) : S K B ρ (δ.set i (some a)) (σ.set i (some v)) := by
  refine ⟨by rw [List.length_set, List.length_set]; exact s.len, fun j b h => ?_⟩
  by_cases e : i = j
  · subst e
    have hl : i < δ.length := by
      have := (List.getElem?_eq_some_iff.mp h).1
      rw [List.length_set] at this
      exact this
    rw [List.getElem?_set_self hl] at h
    cases h
    exact ⟨v, List.getElem?_set_self (s.len ▸ hl), r⟩
  · rw [List.getElem?_set_ne e] at h
    obtain ⟨w, e2, r2⟩ := s.at' j b h
    exact ⟨w, by rw [List.getElem?_set_ne e]; exact e2, r2⟩
theorem S.clr {i : Nat} (s : S K B ρ δ σ) {u : Option V} : S K B ρ (δ.set i none) (σ.set i u) := by
  refine ⟨by rw [List.length_set, List.length_set]; exact s.len, fun j b h => ?_⟩
  by_cases e : i = j
  · subst e
    have hl : i < δ.length := by
      have := (List.getElem?_eq_some_iff.mp h).1
      rw [List.length_set] at this
      exact this
    rw [List.getElem?_set_self hl] at h
    cases h
  · rw [List.getElem?_set_ne e] at h
    obtain ⟨w, e2, r2⟩ := s.at' j b h
    exact ⟨w, by rw [List.getElem?_set_ne e]; exact e2, r2⟩

theorem get_app {α : Type} {l : List α} {m : List α} {i : Nat} {a : α} (h : l[i]? = some a) : (l ++ m)[i]? = some a := by
  rw [List.getElem?_append_left (List.getElem?_eq_some_iff.mp h).1]; exact h
theorem get_snoc {α : Type} {l : List α} {i : Nat} {x a : α} (h : (l ++ [x])[i]? = some a) : (i < l.length ∧ l[i]? = some a) ∨ (i = l.length ∧ a = x) := by
  by_cases hl : i < l.length
  · rw [List.getElem?_append_left hl] at h; exact .inl ⟨hl, h⟩
  · have hb := (List.getElem?_eq_some_iff.mp h).1
    rw [List.length_append] at hb
    have e : i = l.length := by
      have : ([x] : List α).length = 1 := rfl
      omega
    subst e
    rw [List.getElem?_append_right (Nat.le_refl _)] at h
    simp at h
    exact .inr ⟨rfl, h.symm⟩
theorem up_snoc : Ug B ρ B (ρ ++ [p]) := ⟨Same.refl B, fun _ _ h => get_app h⟩
theorem G.fresh (g : G K B ρ κ H) (n : H p = none) : B p = none := g.ex.free n
theorem G.nin (g : G K B ρ κ H) (n : H p = none) {i : Nat} {q : Addr} (h : ρ[i]? = some q) : q ≠ p := fun e => by
  subst e
  have hi : i < κ.length := by rw [← g.len]; exact (List.getElem?_eq_some_iff.mp h).1
  exact (g.at' i q _ h (List.getElem?_eq_getElem hi)).nn n
theorem same_upd {o : HO} (h : H p = none) : Same H (upd H p o) := fun b x e => by
  rw [upd_ne (ne_of_none e h)]; exact e
/-- a new cell -/
theorem G.alloc (g : G K B ρ κ H) (n : H p = none) {o : HO} {cl : Cell} (hc : CellOk K B ρ (upd H p o) p cl) : G K B (ρ ++ [p]) (κ ++ [cl]) (upd H p o) := by
  refine ⟨fun b u e => same_upd n b u (g.ex b u e), by rw [List.length_append, List.length_append, g.len] <;> rfl, fun i j q h1 h2 => ?_, fun i q c h1 h2 => ?_⟩
  · rcases get_snoc h1 with ⟨l1, e1⟩ | ⟨l1, e1⟩
    · rcases get_snoc h2 with ⟨l2, e2⟩ | ⟨l2, e2⟩
      · exact g.inj i j q e1 e2
      · subst e2; exact absurd rfl (g.nin n e1)
    · rcases get_snoc h2 with ⟨l2, e2⟩ | ⟨l2, e2⟩
      · subst e1; exact absurd rfl (g.nin n e2)
      · rw [l1, l2]
  · rcases get_snoc h1 with ⟨l1, e1⟩ | ⟨l1, e1⟩
    · rw [List.getElem?_append_left (g.len ▸ l1)] at h2
      have hq := g.nin n e1
      exact (g.at' i q c e1 h2).up up_snoc (fun z => z) fun o' e => by rw [upd_ne hq]; exact e
    · subst e1
      rcases get_snoc h2 with ⟨l2, e2⟩ | ⟨l2, e2⟩
      · rw [l1, g.len] at l2; exact absurd l2 (Nat.lt_irrefl _)
      · subst e2; exact hc.up up_snoc (fun z => z) fun _ e => e
theorem rep_new (g : G K B ρ κ H) : Rep K B (ρ ++ [p]) (.c κ.length) (.ref p) := ⟨p, by rw [← g.len]; simp, rfl⟩
/-- new data in the base -/
theorem G.data (g : G K B ρ κ H) (n : H p = none) {o : HO} : Up B ρ H (upd B p o) ρ (upd H p o) ∧ G K (upd B p o) ρ κ (upd H p o) := by
  have nb := g.fresh n
  have u : Up B ρ H (upd B p o) ρ (upd H p o) := ⟨same_upd nb, fun _ _ h => h, fun q o' h1 h2 h3 => by
    have hq := ne_of_none h1 n
    rw [upd_ne hq, upd_ne hq]; exact ⟨h1, h2, h3⟩⟩
  refine ⟨u, ⟨fun b x e => ?_, g.len, g.inj, fun i q c h1 h2 => ?_⟩⟩
  · by_cases hb : b = p
    · subst hb; rw [upd_same] at e ⊢; exact e
    · rw [upd_ne hb] at e ⊢; exact g.ex b x e
  · have hq := g.nin n h1
    exact (g.at' i q c h1 h2).up u.g (fun z => by rw [upd_ne hq]; exact z) fun o' e => by rw [upd_ne hq]; exact e
theorem G.allocUp (g : G K B ρ κ H) (n : H p = none) {o : HO} : Up B ρ H B (ρ ++ [p]) (upd H p o) := ⟨Same.refl B, fun _ _ h => get_app h, fun q o' h1 h2 h3 => by
  have hq := ne_of_none h1 n
  rw [upd_ne hq]
  refine ⟨h1, h2, fun z => ?_⟩
  rcases List.mem_append.mp z with z | z
  · exact h3 z
  · exact hq (by simpa using z)⟩
theorem mem_of_get {α : Type} {l : List α} {i : Nat} {a : α} (h : l[i]? = some a) : a ∈ l := List.mem_of_getElem? h
theorem G.writeUp (hp : ρ[k]? = some p) {o : HO} : Up B ρ H B ρ (upd H p o) := ⟨Same.refl B, fun _ _ h => h, fun q o' h1 h2 h3 => by
  have hq : q ≠ p := fun e => h3 (e ▸ mem_of_get hp)
  rw [upd_ne hq]; exact ⟨h1, h2, h3⟩⟩
/-- a cell changes -/
theorem G.write (g : G K B ρ κ H) (hp : ρ[k]? = some p) (hb : B p = none) {o : HO} {cl : Cell} (hc : CellOk K B ρ (upd H p o) p cl) : G K B ρ (κ.set k cl) (upd H p o) := by
  refine ⟨fun b x e => ?_, by rw [List.length_set]; exact g.len, g.inj, fun i q c h1 h2 => ?_⟩
  · have : b ≠ p := ne_of_none e hb
    rw [upd_ne this]; exact g.ex b x e
  · by_cases e : k = i
    · subst e
      rw [hp] at h1; cases h1
      have hl : k < κ.length := by
        have := (List.getElem?_eq_some_iff.mp h2).1
        rw [List.length_set] at this; exact this
      rw [List.getElem?_set_self hl] at h2
      cases h2; exact hc
    · rw [List.getElem?_set_ne e] at h2
      have hq : q ≠ p := fun z => by subst z; exact e (g.inj k i q hp h1)
      exact (g.at' i q c h1 h2).up Ug.refl (fun z => z) fun o' eo => by rw [upd_ne hq]; exact eo
theorem G.cell (g : G K B ρ κ H) {cl : Cell} (h : κ[k]? = some cl) : ∃ p, ρ[k]? = some p ∧ CellOk K B ρ H p cl := by
  have hl : k < ρ.length := by rw [g.len]; exact (List.getElem?_eq_some_iff.mp h).1
  exact ⟨_, List.getElem?_eq_getElem hl, g.at' k _ cl (List.getElem?_eq_getElem hl) h⟩

theorem Reps.of_all : ∀ {ds : List PyData} {vs : List V}, Reps K B ρ (ds.map .d) vs → DpAll K B vs ds
  | [], _, h => by cases h; exact .nil
  | d :: ds, _, h => by
    cases h with
    | cons h1 h2 => exact .cons h1 (Reps.of_all h2)
theorem Reps.all : ∀ {ds : List PyData} {vs : List V}, DpAll K B vs ds → Reps K B ρ (ds.map .d) vs
  | [], _, h => by cases h; exact .nil
  | d :: ds, _, h => by
    cases h with
    | cons h1 h2 => exact .cons h1 (Reps.all h2)
theorem dpa_len : ∀ {ds : List PyData} {vs : List V}, DpAll K B vs ds → vs.length = ds.length
  | [], _, h => by cases h; rfl
  | d :: ds, _, h => by
    cases h with
    | cons h1 h2 => rw [List.length_cons, List.length_cons, dpa_len h2]
theorem dpa_get : ∀ {ds : List PyData} {vs : List V} {i : Nat} {d : PyData}, DpAll K B vs ds → ds[i]? = some d → ∃ v, vs[i]? = some v ∧ Dp K B v d
  | [], _, _, _, _, e => by simp at e
  | d :: ds, _, i, d', h, e => by
    cases h with
    | cons h1 h2 =>
      cases i with
      | zero => simp at e; subst e; exact ⟨_, rfl, h1⟩
      | succ i =>
        obtain ⟨v, e1, r⟩ := dpa_get h2 (by simpa using e)
        exact ⟨v, by simpa using e1, r⟩
theorem Reps.get : ∀ {as : List AV} {vs : List V} {i : Nat} {a : AV}, Reps K B ρ as vs → as[i]? = some a → ∃ v, vs[i]? = some v ∧ Rep K B ρ a v
  | _, _, _, _, .nil, e => by simp at e
  | _, _, 0, _, .cons r _, e => by simp at e; subst e; exact ⟨_, rfl, r⟩
  | _, _, i + 1, x, .cons _ t, e => by
    obtain ⟨u, h1, h2⟩ := Reps.get (i := i) (a := x) t (by simpa using e)
    exact ⟨u, by simpa using h1, h2⟩
theorem Reps.snoc {as : List AV} {vs : List V} (h : Reps K B ρ as vs) (r : Rep K B ρ a v) : Reps K B ρ (as ++ [a]) (vs ++ [v]) := Paired.snoc h r
theorem Reps.len {as : List AV} {vs : List V} (h : Reps K B ρ as vs) : as.length = vs.length := Paired.length h
theorem Reps.set : ∀ {as : List AV} {vs : List V} (i : Nat), Reps K B ρ as vs → Rep K B ρ a v → Reps K B ρ (as.set i a) (vs.set i v)
  | _, _, _, .nil, _ => .nil
  | _, _, 0, .cons _ t, r => .cons r t
  | _, _, i + 1, .cons q t, r => .cons q (Reps.set i t r)

/-! ### readings over data -/
/-- what is wanted behind -/
abbrev Nx (K : PySem.W.Frag) (B : Hp) (ρ : List Addr) (H : Hp) (R : AR) (Q : VK) : Prop := ∀ B' ρ' κ' H' a v, Up B ρ H B' ρ' H' → G K B' ρ' κ' H' → Rep K B' ρ' a v → R a κ' → Q v H'
theorem Nx.at0 {R : AR} {Q : VK} (q : Nx K B ρ H R Q) (g : G K B ρ κ H) (r : Rep K B ρ a v) (h : R a κ) : Q v H := q _ _ _ _ _ _ Up.refl g r h
theorem Nx.later {R : AR} {Q : VK} (q : Nx K B ρ H R Q) (u : Up B ρ H B' ρ' H') : Nx K B' ρ' H' R Q := fun _ _ _ _ _ _ u2 g r h => q _ _ _ _ _ _ (u.trans u2) g r h
def SE (K : PySem.W.Frag) (t : TE) (e : AE) : Prop := ∀ B ρ δ κ σ H (R : AR) (Q : VK), S K B ρ δ σ → G K B ρ κ H → e δ κ R → Nx K B ρ H R Q → t σ H Q
def ST (K : PySem.W.Frag) (t : TT) (e : AT) : Prop := ∀ B ρ δ κ σ H (R : Bool → AK → Prop) (Q : Bool → Hp → Prop), S K B ρ δ σ → G K B ρ κ H → e δ κ R →
  (∀ B' ρ' κ' H' b, Up B ρ H B' ρ' H' → G K B' ρ' κ' H' → R b κ' → Q b H') → t σ H Q
def SA (K : PySem.W.Frag) (t : TA) (e : AA) : Prop := ∀ B ρ δ κ σ H (R : List AV → AK → Prop) (Q : List V → Hp → Prop), S K B ρ δ σ → G K B ρ κ H → e δ κ R →
  (∀ B' ρ' κ' H' as vs, Up B ρ H B' ρ' H' → G K B' ρ' κ' H' → Reps K B' ρ' as vs → R as κ' → Q vs H') → t σ H Q
structure PEa (K : PySem.W.Frag) (X : Cx) (e : Expr) (t : TE) (f : AE) : Prop where
  pe : PE X e t
  sd : SE K t f
structure PTa (K : PySem.W.Frag) (X : Cx) (e : Expr) (t : TT) (f : AT) : Prop where
  pt : PT X e t
  sd : ST K t f
structure PWa (K : PySem.W.Frag) (X : Cx) (e : Expr) (t : TT) (f : AT) : Prop where
  pw : PW X e t
  sd : ST K t f
theorem PWa.pt {K : PySem.W.Frag} {X : Cx} {e : Expr} {t : TT} {f : AT} (h : PWa K X e t f) : PTa K X e t f := ⟨h.pw.pt, h.sd⟩
structure PAa (K : PySem.W.Frag) (X : Cx) (es : List Expr) (t : TA) (f : AA) : Prop where
  pa : PA X es t
  sd : SA K t f

/-! ### names, constants -/
def aVar (i : Nat) : AE := fun δ κ R => match δ[i]? with
  | some (some a) => R a κ
  | _ => False
def aC (a : AV) : AE := fun _ κ R => R a κ
theorem se_var {i : Nat} : SE K (tVar i) (aVar i) := fun B ρ δ κ σ H R Q s g h q => by
  unfold aVar at h
  split at h
  · rename_i a e
    obtain ⟨v, e1, r⟩ := s.at' i a e
    exact ⟨v, e1, q.at0 g r h⟩
  · exact h.elim
theorem se_c {v : V} {a : AV} (hr : ∀ B ρ, Rep K B ρ a v) : SE K (tC v) (aC a) := fun B ρ δ κ σ H R Q s g h q => q.at0 g (hr B ρ) h
section
variable {X : Cx} {e e2 : Expr} {t u : TE} {f f2 : AE} {pos : Pos}
theorem av (i : Nat) {x : Str} {pos : Pos} (hN : X.N[i]? = some x := by rfl) (hv : Vis X.env.scope x := by first | exact Or.inl rfl | exact Or.inr (Or.inl rfl) | exact Or.inr (Or.inr rfl)) (hd : (x == ("__debug__" : Str)) = false := by decide)
    (hcd : (x == ("__classdict__" : Str)) = false := by decide) : PEa K X (.Name x pos) (tVar i) (aVar i) := ⟨pv i hN hv hd hcd, se_var⟩
theorem ea_int {i : Int} {q : Pos} {j} : PEa K X (.Constant (.int i) j q) (tC (.int i)) (aC (.d (.int i))) := ⟨pe_int, se_c fun _ _ => .int i⟩
theorem ea_str {x : Str} {q : Pos} {j} : PEa K X (.Constant (.str x) j q) (tC (.str x)) (aC (.d (.str x))) := ⟨pe_str, se_c fun _ _ => .str x⟩
theorem ea_bl {x : Bool} {q : Pos} {j} : PEa K X (.Constant (.bool x) j q) (tC (.bl x)) (aC (.d (.bool x))) := ⟨pe_bl, se_c fun _ _ => .bl x⟩
theorem ea_non {q : Pos} {j} : PEa K X (.Constant .none j q) (tC .non) (aC (.d .none)) := ⟨pe_non, se_c fun _ _ => .non⟩
/-- a module's constant -/
theorem ea_glob {x : Str} {v : V} {u : Value} {d : PyData} {pos : Pos} (hg : Gl X x) (hm : X.mg x = some u) (r : RelV v u) (hd : ∀ B, Dp K B v d) (hdb : (x == ("__debug__" : Str)) = false := by decide) : PEa K X (.Name x pos) (tC v) (aC (.d d)) := ⟨pe_glob hg hm r hdb, se_c fun B _ => hd B⟩
/-- a built-in class as a value -/
theorem ea_ty {x : Str} {T : String} {pos : Pos} (hg : Gl X x) (hm : X.mg x = none) (hv : bootBuiltins x = some (.type T)) (hn : x ≠ "__name__" := by decide) (hdb : (x == ("__debug__" : Str)) = false := by decide) : PEa K X (.Name x pos) (tC (.ty T)) (aC (.r (.ty T))) := ⟨pe_bltn hg hm hv rfl hn hdb, se_c fun _ _ => rfl⟩
end
end Ab
set_option Elab.async false
set_option linter.all false
set_option maxRecDepth 100000
set_option maxHeartbeats 4000000
/-! Ab2: operators, comparisons, subscripts, built-in calls, methods -/
namespace Ab
open PySem L2
variable {K : PySem.W.Frag} {B B' B2 H H' H2 : Hp} {ρ ρ' ρ2 : List Addr} {κ κ' : AK} {δ : AD} {σ : L2.St} {p : Addr} {k : Nat} {v x y z : V} {a b c : AV}

abbrev AO := AV → AV → AK → AR → Prop
def SR (K : PySem.W.Frag) (r : R2) (f : AO) : Prop := ∀ B ρ κ H x y a b (R : AR) (Q : VK), G K B ρ κ H → Rep K B ρ a x → Rep K B ρ b y → f a b κ R → Nx K B ρ H R Q → r x y H Q
def SU (K : PySem.W.Frag) (r : V → Hp → VK → Prop) (f : AV → AK → AR → Prop) : Prop := ∀ B ρ κ H x a (R : AR) (Q : VK), G K B ρ κ H → Rep K B ρ a x → f a κ R → Nx K B ρ H R Q → r x H Q
def SL (K : PySem.W.Frag) (r : List V → Hp → VK → Prop) (f : List AV → AK → AR → Prop) : Prop := ∀ B ρ κ H xs as (R : AR) (Q : VK), G K B ρ κ H → Reps K B ρ as xs → f as κ R → Nx K B ρ H R Q → r xs H Q
def SM (K : PySem.W.Frag) (T : String) (r : V → List V → Hp → VK → Prop) (f : AV → List AV → AK → AR → Prop) : Prop := ∀ B ρ κ H x xs a as (R : AR) (Q : VK), G K B ρ κ H → Rep K B ρ a x → Reps K B ρ as xs → f a as κ R → Nx K B ρ H R Q → tyV K T x H ∧ r x xs H Q

def aOp (f : AO) (ea eb : AE) : AE := fun δ κ R => ea δ κ fun a κ1 => eb δ κ1 fun b κ2 => f a b κ2 R
def aUn (f : AV → AK → AR → Prop) (ea : AE) : AE := fun δ κ R => ea δ κ fun a κ1 => f a κ1 R
theorem se_op {r : R2} {f : AO} {ta tb : TE} {ea eb : AE} (hr : SR K r f) (ha : SE K ta ea) (hb : SE K tb eb) : SE K (tOp r ta tb) (aOp f ea eb) := fun B ρ δ κ σ H R Q s g h q =>
  ha B ρ δ κ σ H _ _ s g h fun B1 ρ1 κ1 H1 a x u1 g1 r1 h1 => hb B1 ρ1 δ κ1 σ H1 _ _ (s.up u1.g) g1 h1 fun B2 ρ2 κ2 H2 b y u2 g2 r2 h2 =>
    hr B2 ρ2 κ2 H2 x y a b R Q g2 (r1.up u2.g) r2 h2 fun B3 ρ3 κ3 H3 c z u3 g3 r3 h3 => q _ _ _ _ _ _ ((u1.trans u2).trans u3) g3 r3 h3
theorem se_un {r : V → Hp → VK → Prop} {f : AV → AK → AR → Prop} {ta : TE} {ea : AE} (hr : SU K r f) (ha : SE K ta ea) : SE K (tUn r ta) (aUn f ea) := fun B ρ δ κ σ H R Q s g h q =>
  ha B ρ δ κ σ H _ _ s g h fun B1 ρ1 κ1 H1 a x u1 g1 r1 h1 => hr B1 ρ1 κ1 H1 x a R Q g1 r1 h1 fun B3 ρ3 κ3 H3 c z u3 g3 r3 h3 => q _ _ _ _ _ _ (u1.trans u3) g3 r3 h3

theorem opr_or {X : Cx} {f : Value → Value → Sem Value} {r r' : R2} (h : OpR X f r) (h' : OpR X f r') : OpR X f (fun x y H Q => r x y H Q ∨ r' x y H Q) := fun pins s σ H x y v u Q I rx ry q => q.elim (h pins s σ H x y v u Q I rx ry) (h' pins s σ H x y v u Q I rx ry)
theorem callr_or {X : Cx} {f : Value} {r r' : List V → Hp → VK → Prop} (h : CallR X f r) (h' : CallR X f r') : CallR X f (fun xs H Q => r xs H Q ∨ r' xs H Q) := fun pins s σ H xs us Q I rx q => q.elim (h pins s σ H xs us Q I rx) (h' pins s σ H xs us Q I rx)

structure OpA (K : PySem.W.Frag) (X : Cx) (f : Value → Value → Sem Value) (r : R2) (g : AO) : Prop where
  op : OpR X f r
  sd : SR K r g
section
variable {X : Cx} {e e2 : Expr} {t u : TE} {f f2 : AE} {pos : Pos}
theorem ea_op {op : Operator} {r : R2} {g : AO} (ho : OpA K X (binaryOp op) r g) (h1 : PEa K X e t f) (h2 : PEa K X e2 u f2) : PEa K X (.BinOp e op e2 pos) (tOp r t u) (aOp g f f2) := ⟨pe_op ho.op h1.pe h2.pe, se_op ho.sd h1.sd h2.sd⟩
theorem ea_cmp {op : CmpOp} {r : R2} {g : AO} (ho : OpA K X (compareOp op) r g) (h1 : PEa K X e t f) (h2 : PEa K X e2 u f2) (hm : behindInMarks op e2 = false := by first | exact nomark _ | rfl) : PEa K X (.Compare e [op] [e2] pos) (tOp r t u) (aOp g f f2) := ⟨pe_cmpR ho.op h1.pe h2.pe hm, se_op ho.sd h1.sd h2.sd⟩
theorem ea_un {op : UnaryOp} {r : V → Hp → VK → Prop} {g : AV → AK → AR → Prop} (ho : UnR X (unaryOp op) r) (hs : SU K r g) (h1 : PEa K X e t f) : PEa K X (.UnaryOp op e pos) (tUn r t) (aUn g f) := ⟨pe_un ho h1.pe, se_un hs h1.sd⟩

/-! ### numbers, texts -/
def aAdd : AO := fun a b κ R => match a, b with
  | .d (.int i), .d (.int j) => R (.d (.int (i + j))) κ
  | .d (.str s), .d (.str t) => s.length + t.length ≤ sizeLine ∧ R (.d (.str (s ++ t))) κ
  | .d (.tuple xs), .d (.tuple ys) => xs.length + ys.length ≤ sizeLine ∧ R (.d (.tuple (xs ++ ys))) κ
  | _, _ => False
theorem rp_int (i : Int) : Rep K B ρ (.d (.int i)) (.int i) := Dp.int i
theorem rp_str (i : Str) : Rep K B ρ (.d (.str i)) (.str i) := Dp.str i
theorem rp_bl (i : Bool) : Rep K B ρ (.d (.bool i)) (.bl i) := Dp.bl i
theorem rp_non : Rep K B ρ (.d .none) .non := Dp.non
theorem Rep.int {i : Int} (h : Rep K B ρ (.d (.int i)) v) : v = .int i := by cases h; rfl
theorem Rep.str {i : Str} (h : Rep K B ρ (.d (.str i)) v) : v = .str i := by cases h; rfl
theorem Rep.bool {i : Bool} (h : Rep K B ρ (.d (.bool i)) v) : v = .bl i := by cases h; rfl
theorem Rep.non (h : Rep K B ρ (.d .none) v) : v = .non := by cases h; rfl
theorem Rep.list {ds : List PyData} (h : Rep K B ρ (.d (.list ds)) v) : ∃ p xs, v = .ref p ∧ SqL K B p xs ∧ DpAll K B xs ds := by
  cases h with
  | lst hs ha => exact ⟨_, _, rfl, hs, ha⟩
theorem Rep.tuple {ds : List PyData} (h : Rep K B ρ (.d (.tuple ds)) v) : ∃ p xs, v = .ref p ∧ SqT K B p xs ∧ DpAll K B xs ds := by
  cases h with
  | tup hs ha => exact ⟨_, _, rfl, hs, ha⟩
theorem sqt_up (s : Same B B') {xs : List V} (h : SqT K B p xs) : SqT K B' p xs := by
  rcases h with (h | ⟨o, h⟩) | h
  · exact .inl (.inl (s _ _ h))
  · exact .inl (.inr ⟨o, s _ _ h⟩)
  · exact .inr h
theorem dpa_app : ∀ {ds es : List PyData} {vs us : List V}, DpAll K B vs ds → DpAll K B us es → DpAll K B (vs ++ us) (ds ++ es)
  | [], _, _, _, h, h2 => by cases h; exact h2
  | d :: ds, _, _, _, h, h2 => by
    cases h with
    | cons a b => exact .cons a (dpa_app b h2)
theorem of_listG (g : G K B ρ κ H) {ds : List PyData} (h : Rep K B ρ (.d (.list ds)) v) : ∃ p xs, v = .ref p ∧ SqL K H p xs ∧ DpAll K B xs ds := by
  obtain ⟨p, xs, e, h1, h2⟩ := h.list; exact ⟨p, xs, e, g.ex.seq h1, h2⟩
theorem of_tupG (g : G K B ρ κ H) {ds : List PyData} (h : Rep K B ρ (.d (.tuple ds)) v) : ∃ p xs, v = .ref p ∧ SqT K H p xs ∧ DpAll K B xs ds := by
  obtain ⟨p, xs, e, h1, h2⟩ := h.tuple; exact ⟨p, xs, e, sqt_up g.ex h1, h2⟩
theorem new_tup (g : G K B ρ κ H) (n : H p = none) {ds : List PyData} {vs : List V} (h : DpAll K B vs ds) : Up B ρ H (upd B p (.tup vs)) ρ (upd H p (.tup vs)) ∧ G K (upd B p (.tup vs)) ρ κ (upd H p (.tup vs)) ∧ Rep K (upd B p (.tup vs)) ρ (.d (.tuple ds)) (.ref p) := by
  obtain ⟨u, g'⟩ := g.data n (o := .tup vs)
  exact ⟨u, g', .tup (.inl (.inl upd_same)) (dpa_up u.s _ _ h)⟩
theorem new_lst (g : G K B ρ κ H) (n : H p = none) {ds : List PyData} {vs : List V} (h : DpAll K B vs ds) : Up B ρ H (upd B p (.lst vs)) ρ (upd H p (.lst vs)) ∧ G K (upd B p (.lst vs)) ρ κ (upd H p (.lst vs)) ∧ Rep K (upd B p (.lst vs)) ρ (.d (.list ds)) (.ref p) := by
  obtain ⟨u, g'⟩ := g.data n (o := .lst vs)
  exact ⟨u, g', .lst (.inl (.inl upd_same)) (dpa_up u.s _ _ h)⟩
/-- a new list of data as a cell -/
theorem new_ld (g : G K B ρ κ H) (n : H p = none) {as : List PyData} {vs : List V} (h : DpAll K B vs as) : Up B ρ H B (ρ ++ [p]) (upd H p (.lst vs)) ∧ G K B (ρ ++ [p]) (κ ++ [.ld as]) (upd H p (.lst vs)) ∧ Rep K B (ρ ++ [p]) (.c κ.length) (.ref p) :=
  ⟨g.allocUp n, g.alloc n (show CellOk K B ρ _ p (.ld as) from ⟨g.fresh n, vs, h, upd_same⟩), rep_new g⟩
/-- a new list as a cell -/
theorem new_cell (g : G K B ρ κ H) (n : H p = none) {as : List AV} {vs : List V} (h : Reps K B ρ as vs) : Up B ρ H B (ρ ++ [p]) (upd H p (.lst vs)) ∧ G K B (ρ ++ [p]) (κ ++ [.lst as]) (upd H p (.lst vs)) ∧ Rep K B (ρ ++ [p]) (.c κ.length) (.ref p) :=
  ⟨g.allocUp n, g.alloc n ⟨g.fresh n, vs, h, upd_same⟩, rep_new g⟩
theorem new_tcell (g : G K B ρ κ H) (n : H p = none) {as : List AV} {vs : List V} (h : Reps K B ρ as vs) : Up B ρ H B (ρ ++ [p]) (upd H p (.tup vs)) ∧ G K B (ρ ++ [p]) (κ ++ [.tup as]) (upd H p (.tup vs)) ∧ Rep K B (ρ ++ [p]) (.c κ.length) (.ref p) :=
  ⟨g.allocUp n, g.alloc n ⟨g.fresh n, vs, h, upd_same⟩, rep_new g⟩
theorem ne_nil_of {ds : List PyData} {vs : List V} (h : DpAll K B vs ds) (n : ds ≠ []) : vs ≠ [] := fun e => by
  subst e
  have := dpa_len h
  cases ds with
  | nil => exact n rfl
  | cons _ _ => simp at this


def rAddA (K : PySem.W.Frag) : R2 := fun x y H Q => rI0 (fun i j => .int (i + j)) x y H Q ∨ ((fun x y H Q => ∃ i j, x = .str i ∧ y = .str j ∧ i.length + j.length ≤ sizeLine ∧ Q (.str (i ++ j)) H) : R2) x y H Q ∨ rCatA K x y H Q
theorem oa_add (hK : X.K = K := by rfl) : OpA K X (binaryOp .Add) (rAddA K) aAdd := by
  subst hK
  refine ⟨opr_or op_add (opr_or op_add_str op_catA), ?_⟩
  intro B ρ κ H x y a b R Q g rx ry h q
  unfold aAdd at h
  split at h
  · rename_i i j
    exact .inl ⟨i, j, rx.int, ry.int, q.at0 g (rp_int _) h⟩
  · rename_i s t
    exact .inr (.inl ⟨s, t, rx.str, ry.str, h.1, q.at0 g (rp_str _) h.2⟩)
  · rename_i xs ys
    obtain ⟨p, vs, rfl, s1, d1⟩ := of_tupG g rx
    obtain ⟨p', vs', rfl, s2, d2⟩ := of_tupG g ry
    have e1 := dpa_len d1
    have e2 := dpa_len d2
    obtain ⟨h1, h2⟩ : xs.length + ys.length ≤ sizeLine ∧ R (.d (.tuple (xs ++ ys))) κ := h
    refine .inr (.inr ⟨_, _, vs, vs', rfl, rfl, s1, s2, by omega, fun z => ?_, fun _ z => ?_, fun _ _ p hp => ?_⟩)
    · subst z
      cases xs with
      | nil => exact q.at0 g ry h2
      | cons _ _ => simp at e1
    · subst z
      cases ys with
      | nil => rw [List.append_nil] at h2; exact q.at0 g rx h2
      | cons _ _ => simp at e2
    · obtain ⟨u, g', r⟩ := new_tup g hp (dpa_app d1 d2)
      exact q _ _ _ _ _ _ u g' r h2
  · exact h.elim
/-- numbers in, a number out -/
def aI (C : Int → Int → Prop) (f : Int → Int → Int) : AO := fun a b κ R => match a, b with
  | .d (.int i), .d (.int j) => C i j ∧ R (.d (.int (f i j))) κ
  | _, _ => False
def aI0 (f : Int → Int → Int) : AO := fun a b κ R => match a, b with
  | .d (.int i), .d (.int j) => R (.d (.int (f i j))) κ
  | _, _ => False
theorem sr_I {C : Int → Int → Prop} {f : Int → Int → Int} : SR K (rI C fun i j => .int (f i j)) (aI C f) := by
  intro B ρ κ H x y a b R Q g rx ry h q
  unfold aI at h
  split at h
  · exact ⟨_, _, rx.int, ry.int, h.1, q.at0 g (rp_int _) h.2⟩
  · exact h.elim
theorem sr_I0 {f : Int → Int → Int} : SR K (rI0 fun i j => .int (f i j)) (aI0 f) := by
  intro B ρ κ H x y a b R Q g rx ry h q
  unfold aI0 at h
  split at h
  · exact ⟨_, _, rx.int, ry.int, q.at0 g (rp_int _) h⟩
  · exact h.elim
abbrev aSub : AO := aI0 fun i j => i - j
abbrev aMul : AO := aI CMul fun i j => i * j
abbrev aMod : AO := aI (fun _ j => 0 < j) fun i j => i % j
abbrev aDiv : AO := aI CDiv fun i j => i / j
abbrev aPow : AO := aI CPow fun i j => i ^ j.toNat
theorem oa_sub : OpA K X (binaryOp .Sub) (rI0 fun i j => .int (i - j)) aSub := ⟨op_sub, sr_I0⟩
theorem oa_mul : OpA K X (binaryOp .Mult) (rI CMul fun i j => .int (i * j)) aMul := ⟨op_mul, sr_I⟩
theorem oa_mod : OpA K X (binaryOp .Mod) (rI (fun _ j => 0 < j) fun i j => .int (i % j)) aMod := ⟨op_mod, sr_I⟩
theorem oa_div : OpA K X (binaryOp .FloorDiv) (rI CDiv fun i j => .int (i / j)) aDiv := ⟨op_fdiv, sr_I⟩
theorem oa_pow : OpA K X (binaryOp .Pow) (rI CPow fun i j => .int (i ^ j.toNat)) aPow := ⟨op_pow, sr_I⟩
def aCmpI (f : Int → Int → Bool) : AO := fun a b κ R => match a, b with
  | .d (.int i), .d (.int j) => R (.d (.bool (f i j))) κ
  | _, _ => False
theorem sr_cmpI {f : Int → Int → Bool} : SR K (rI0 fun i j => .bl (f i j)) (aCmpI f) := by
  intro B ρ κ H x y a b R Q g rx ry h q
  unfold aCmpI at h
  split at h
  · exact ⟨_, _, rx.int, ry.int, q.at0 g (rp_bl _) h⟩
  · exact h.elim
abbrev aLt : AO := aCmpI fun i j => decide (i < j)
abbrev aLe : AO := aCmpI fun i j => decide (i ≤ j)
abbrev aGt : AO := aCmpI fun i j => decide (j < i)
abbrev aGe : AO := aCmpI fun i j => decide (j ≤ i)
theorem oa_lt : OpA K X (compareOp .Lt) (rI0 fun i j => .bl (decide (i < j))) aLt := ⟨op_lt, sr_cmpI⟩
theorem oa_le : OpA K X (compareOp .LtE) (rI0 fun i j => .bl (decide (i ≤ j))) aLe := ⟨op_le, sr_cmpI⟩
theorem oa_gt : OpA K X (compareOp .Gt) (rI0 fun i j => .bl (decide (j < i))) aGt := ⟨op_gt, sr_cmpI⟩
theorem oa_ge : OpA K X (compareOp .GtE) (rI0 fun i j => .bl (decide (j ≤ i))) aGe := ⟨op_ge, sr_cmpI⟩

/-! ### == -/
def aEqB (n : Bool → Bool) : AO := fun a b κ R => match a, b with
  | .d (.int i), .d (.int j) => R (.d (.bool (n (decide (i = j))))) κ
  | .d (.str i), .d (.str j) => R (.d (.bool (n (decide (i = j))))) κ
  | .d (.bool i), .d (.bool j) => R (.d (.bool (n (decide (i = j))))) κ
  | .d x, .d y => SeqAt.shaped x = true ∧ SeqAt.shaped y = true ∧ R (.d (.bool (n (PyData.eqv x y)))) κ
  | _, _ => False
abbrev aEq : AO := aEqB id
abbrev aNe : AO := aEqB not
theorem dec_inj {α β : Type} [DecidableEq α] [DecidableEq β] (f : α → β) (hf : ∀ a b, f a = f b → a = b) (a b : α) : decide (f a = f b) = decide (a = b) := by
  by_cases h : a = b
  · subst h; simp
  · rw [decide_eq_false h, decide_eq_false (fun z => h (hf _ _ z))]
theorem dp_G (g : G K B ρ κ H) {d : PyData} (h : Rep K B ρ (.d d) v) : Dp K H v d := dp_up g.ex d v h
def rEqA (K : PySem.W.Frag) : R2 := fun x y H Q => rEq x y H Q ∨ rEqD K x y H Q
def rNeA (K : PySem.W.Frag) : R2 := fun x y H Q => rNe x y H Q ∨ rNeD K x y H Q
theorem oa_eq {l : Nat} (hr : Room l X.A) (hK : X.K = K := by rfl) : OpA K X (compareOp .Eq) (rEqA K) aEq := by
  subst hK
  refine ⟨opr_or op_eq (op_eqD hr.units), ?_⟩
  intro B ρ κ H x y a b R Q g rx ry h q
  have h : aEqB _ a b κ R := h
  unfold aEqB at h
  split at h
  · cases rx.int; cases ry.int
    refine .inl ⟨rfl, ?_⟩
    rw [dec_inj V.int fun _ _ e => V.int.inj e]
    exact q.at0 g (rp_bl _) h
  · cases rx.str; cases ry.str
    refine .inl ⟨rfl, ?_⟩
    rw [dec_inj V.str fun _ _ e => V.str.inj e]
    exact q.at0 g (rp_bl _) h
  · cases rx.bool; cases ry.bool
    refine .inl ⟨rfl, ?_⟩
    rw [dec_inj V.bl fun _ _ e => V.bl.inj e]
    exact q.at0 g (rp_bl _) h
  · exact .inr ⟨_, _, dp_G g rx, dp_G g ry, h.1, h.2.1, q.at0 g (rp_bl _) h.2.2⟩
  · exact h.elim
theorem oa_ne {l : Nat} (hr : Room l X.A) (hK : X.K = K := by rfl) : OpA K X (compareOp .NotEq) (rNeA K) aNe := by
  subst hK
  refine ⟨opr_or op_ne (op_neD hr.units), ?_⟩
  intro B ρ κ H x y a b R Q g rx ry h q
  have h : aEqB _ a b κ R := h
  unfold aEqB at h
  split at h
  · cases rx.int; cases ry.int
    refine .inl ⟨rfl, ?_⟩
    rw [dec_inj V.int fun _ _ e => V.int.inj e]
    exact q.at0 g (rp_bl _) h
  · cases rx.str; cases ry.str
    refine .inl ⟨rfl, ?_⟩
    rw [dec_inj V.str fun _ _ e => V.str.inj e]
    exact q.at0 g (rp_bl _) h
  · cases rx.bool; cases ry.bool
    refine .inl ⟨rfl, ?_⟩
    rw [dec_inj V.bl fun _ _ e => V.bl.inj e]
    exact q.at0 g (rp_bl _) h
  · exact .inr ⟨_, _, dp_G g rx, dp_G g ry, h.1, h.2.1, q.at0 g (rp_bl _) h.2.2⟩
  · exact h.elim
/-- is None, is not None -/
def aIsN (n : Bool → Bool) : AO := fun a b κ R => match a, b with
  | .d .none, .d .none => R (.d (.bool (n true))) κ
  | .d _, .d .none => R (.d (.bool (n false))) κ
  | .c _, .d .none => R (.d (.bool (n false))) κ
  | _, _ => False
theorem sr_isN {n : Bool → Bool} : SR K (fun x y H Q => y = .non ∧ Q (.bl (n (decide (x = .non)))) H) (aIsN n) := by
  intro B ρ κ H x y a b R Q g rx ry h q
  unfold aIsN at h
  split at h
  · cases rx.non
    exact ⟨ry.non, q.at0 g (rp_bl _) h⟩
  · rename_i d hd
    refine ⟨ry.non, ?_⟩
    have e : x ≠ .non := by
      intro e; subst e
      have rx' : Dp K B .non d := rx
      cases rx' with
      | non => exact hd rfl
    rw [decide_eq_false e]
    exact q.at0 g (rp_bl _) h
  · obtain ⟨p, _, rfl⟩ := rx
    exact ⟨ry.non, q.at0 g (rp_bl _) h⟩
  · exact h.elim
theorem oa_is : OpA K X (compareOp .Is) (fun x y H Q => y = .non ∧ Q (.bl (decide (x = .non))) H) (aIsN id) := ⟨op_isN, sr_isN (n := id)⟩
theorem oa_isnot : OpA K X (compareOp .IsNot) (fun x y H Q => y = .non ∧ Q (.bl (!decide (x = .non))) H) (aIsN not) := ⟨op_notN, sr_isN (n := not)⟩

/-! ### in -/
def flatD : PyData → Bool
  | .none => true | .bool _ => true | .int _ => true | .str _ => true | _ => false
def eqF : PyData → PyData → Bool
  | .none, .none => true
  | .bool a, .bool b => a == b
  | .bool a, .int b => (if a then 1 else 0) == b
  | .int a, .bool b => a == (if b then 1 else 0)
  | .int a, .int b => a == b
  | .str a, .str b => a == b
  | _, _ => false
def inD (x : PyData) (xs : List PyData) : Bool := xs.any fun y => eqF y x
theorem dp_flat {d : PyData} (h : Dp K B v d) (f : flatD d = true) : flatV v = true ∧ ∀ {w : V} {e : PyData}, Dp K B w e → flatD e = true → eqV v w = eqF d e := by
  cases h <;> first
    | exact ⟨rfl, fun hw hf => by cases hw <;> first | rfl | exact absurd (show false = true from hf) Bool.false_ne_true⟩
    | exact absurd (show false = true from f) Bool.false_ne_true
theorem dpa_flat : ∀ {ds : List PyData} {vs : List V}, DpAll K B vs ds → ds.all flatD = true → vs.all flatV = true
  | [], _, h, _ => by cases h; rfl
  | d :: ds, _, h, f => by
    cases h with
    | cons h1 h2 =>
      rw [List.all_cons, Bool.and_eq_true] at f ⊢
      exact ⟨(dp_flat h1 f.1).1, dpa_flat h2 f.2⟩
theorem inV_D {d : PyData} (h : Dp K B v d) (f : flatD d = true) : ∀ {ds : List PyData} {vs : List V}, DpAll K B vs ds → ds.all flatD = true → inV v vs = inD d ds
  | [], _, h2, _ => by cases h2; rfl
  | e :: ds, _, h2, f2 => by
    cases h2 with
    | cons h1 h3 =>
      rw [List.all_cons, Bool.and_eq_true] at f2
      show (eqV _ v || inV v _) = (eqF e d || inD d ds)
      rw [inV_D h f h3 f2.2, (dp_flat h1 f2.1).2 h f]
/-- one sign in a text; a flat thing in a list or tuple of flat things -/
def aIn (n : Bool → Bool) : AO := fun a b κ R => match a, b with
  | .d (.str s), .d (.str t) => ∃ c, s.cps.toList = [c] ∧ R (.d (.bool (n (decide (c ∈ t.cps.toList))))) κ
  | .d x, .d (.tuple ys) => flatD x = true ∧ ys.all flatD = true ∧ R (.d (.bool (n (inD x ys)))) κ
  | .d x, .d (.list ys) => flatD x = true ∧ ys.all flatD = true ∧ R (.d (.bool (n (inD x ys)))) κ
  | .d x, .c k => match κ[k]? with
    | some (.ld ys) => flatD x = true ∧ ys.all flatD = true ∧ R (.d (.bool (n (inD x ys)))) κ
    | _ => False
  | _, _ => False
def rInA (K : PySem.W.Frag) (b : Bool) : R2 := fun x y H Q => ((fun x y H Q => ∃ (c : Nat) (z : Str), x = .str ⟨#[c]⟩ ∧ y = .str z ∧ Q (.bl (if b then !decide (c ∈ z.cps.toList) else decide (c ∈ z.cps.toList))) H) : R2) x y H Q ∨ rIn K b x y H Q
theorem str_one {s : Str} {c : Nat} (h : s.cps.toList = [c]) : s = ⟨#[c]⟩ := by
  obtain ⟨a⟩ := s
  congr 1
  exact Array.toList_inj.mp h
theorem sr_in {nb : Bool} {n : Bool → Bool} (hn : ∀ b, (if nb then !b else b) = n b) : SR K (rInA K nb) (aIn n) := by
  intro B ρ κ H x y a b R Q g rx ry h q
  unfold aIn at h
  split at h
  · rename_i s t
    obtain ⟨c, e, h⟩ := h
    cases rx.str; cases ry.str
    refine .inl ⟨c, t, by rw [str_one e], rfl, ?_⟩
    rw [hn]
    exact q.at0 g (rp_bl _) h
  · rename_i d ys
    obtain ⟨p, vs, rfl, s1, d1⟩ := of_tupG g ry
    obtain ⟨f1, f2, h⟩ := h
    refine .inr ⟨p, vs, rfl, .inr s1, (dp_flat rx f1).1, dpa_flat d1 f2, ?_⟩
    rw [hn, inV_D rx f1 d1 f2]
    exact q.at0 g (rp_bl _) h
  · rename_i d ys
    obtain ⟨p, vs, rfl, s1, d1⟩ := of_listG g ry
    obtain ⟨f1, f2, h⟩ := h
    refine .inr ⟨p, vs, rfl, .inl s1, (dp_flat rx f1).1, dpa_flat d1 f2, ?_⟩
    rw [hn, inV_D rx f1 d1 f2]
    exact q.at0 g (rp_bl _) h
  · rename_i d k
    obtain ⟨p, hp, rfl⟩ := ry
    split at h
    · rename_i ys ek
      obtain ⟨f1, f2, h⟩ := h
      obtain ⟨p', hp', _, vs, d1, eH⟩ := g.cell ek
      rw [hp] at hp'; cases hp'
      refine .inr ⟨p, vs, rfl, .inl (.inl (.inl eH)), (dp_flat rx f1).1, dpa_flat d1 f2, ?_⟩
      rw [hn, inV_D rx f1 d1 f2]
      exact q.at0 g (rp_bl _) h
    · exact h.elim
  · exact h.elim
theorem oa_in (hK : X.K = K := by rfl) : OpA K X (compareOp .In) (rInA K false) (aIn id) := by
  subst hK
  exact ⟨opr_or (by intro pins s σ H x y v u Q I rx ry h; exact op_in_sign pins s σ H x y v u Q I rx ry h) op_in_seq, sr_in fun b => by cases b <;> rfl⟩
theorem oa_notin (hK : X.K = K := by rfl) : OpA K X (compareOp .NotIn) (rInA K true) (aIn not) := by
  subst hK
  exact ⟨opr_or (by intro pins s σ H x y v u Q I rx ry h; exact op_notIn_sign pins s σ H x y v u Q I rx ry h) op_notIn_seq, sr_in fun b => by cases b <;> rfl⟩
end
end Ab
set_option Elab.async false
set_option linter.all false
set_option maxRecDepth 100000
set_option maxHeartbeats 4000000
/-! Ab3: subscripts, slices, built-in calls, methods, displays, and, or, not, tests -/
namespace Ab
open PySem L2
variable {K : PySem.W.Frag} {B B' B2 H H' H2 : Hp} {ρ ρ' ρ2 : List Addr} {κ κ' : AK} {δ : AD} {σ : L2.St} {p : Addr} {k : Nat} {v x y z : V} {a b c : AV}
variable {X : Cx} {e e2 : Expr} {t u : TE} {f f2 : AE} {pos : Pos}

/-! ### a[i] -/
def aIx : AO := fun a b κ R => match a, b with
  | .d (.list xs), .d (.int i) => ∃ w, atI xs i = some w ∧ R (.d w) κ
  | .d (.tuple xs), .d (.int i) => ∃ w, atI xs i = some w ∧ R (.d w) κ
  | .d (.str s), .d (.int i) => ∃ c, s.length ≤ sizeLine ∧ atI s.cps.toList i = some c ∧ R (.d (.str ⟨#[c]⟩)) κ
  | .c k, .d (.int i) => match κ[k]? with
    | some (.ld xs) => ∃ w, atI xs i = some w ∧ R (.d w) κ
    | some (.lst xs) => ∃ w, atI xs i = some w ∧ R w κ
    | some (.tup xs) => ∃ w, atI xs i = some w ∧ R w κ
    | _ => False
  | _, _ => False
theorem atI_iff {α : Type} {xs : List α} {i : Int} {w : α} (h : atI xs i = some w) : ∃ j, ixN xs.length i = some j ∧ xs[j]? = some w := by
  unfold atI at h
  cases e : ixN xs.length i with
  | none => rw [e] at h; cases h
  | some j => rw [e] at h; exact ⟨j, rfl, h⟩
theorem atI_mk {α : Type} {xs : List α} {i : Int} {j : Nat} {w : α} (h : ixN xs.length i = some j) (h2 : xs[j]? = some w) : atI xs i = some w := by
  unfold atI; rw [h]; exact h2
theorem dpa_at {ds : List PyData} {vs : List V} {i : Int} {w : PyData} (h : DpAll K B vs ds) (e : atI ds i = some w) : ∃ v, atI vs i = some v ∧ Dp K B v w := by
  obtain ⟨j, h1, h2⟩ := atI_iff e
  obtain ⟨v, h3, h4⟩ := dpa_get h h2
  exact ⟨v, atI_mk (by rw [dpa_len h]; exact h1) h3, h4⟩
theorem reps_at {as : List AV} {vs : List V} {i : Int} {w : AV} (h : Reps K B ρ as vs) (e : atI as i = some w) : ∃ v, atI vs i = some v ∧ Rep K B ρ w v := by
  obtain ⟨j, h1, h2⟩ := atI_iff e
  obtain ⟨v, h3, h4⟩ := h.get h2
  exact ⟨v, atI_mk (by rw [← h.len]; exact h1) h3, h4⟩
theorem sr_ix : SR K (rIx K) aIx := by
  intro B ρ κ H x y a b R Q g rx ry h q
  unfold aIx at h
  split at h
  · obtain ⟨w, e, h⟩ := h
    obtain ⟨p, vs, rfl, s1, d1⟩ := of_listG g rx
    obtain ⟨v, e1, r1⟩ := dpa_at d1 e
    cases ry.int
    exact .inl ⟨p, vs, _, v, rfl, rfl, s1, e1, q.at0 (a := .d w) g r1 h⟩
  · obtain ⟨w, e, h⟩ := h
    obtain ⟨p, vs, rfl, s1, d1⟩ := of_tupG g rx
    obtain ⟨v, e1, r1⟩ := dpa_at d1 e
    cases ry.int
    exact .inr (.inl ⟨p, vs, _, v, rfl, rfl, s1, e1, q.at0 (a := .d w) g r1 h⟩)
  · obtain ⟨c, l, e, h⟩ := h
    cases rx.str; cases ry.int
    exact .inr (.inr ⟨_, _, c, rfl, rfl, l, e, q.at0 g (rp_str _) h⟩)
  · rename_i k i
    cases ry.int
    obtain ⟨p, hp, rfl⟩ := rx
    split at h
    · rename_i xs ek
      obtain ⟨w, e, h⟩ := h
      obtain ⟨p', hp', _, vs, r, eH⟩ := g.cell ek
      rw [hp] at hp'; cases hp'
      obtain ⟨v, e1, r1⟩ := dpa_at r e
      exact .inl ⟨p, vs, _, v, rfl, rfl, .inl (.inl eH), e1, q.at0 (a := .d w) g r1 h⟩
    · rename_i xs ek
      obtain ⟨w, e, h⟩ := h
      obtain ⟨p', hp', _, vs, r, eH⟩ := g.cell ek
      rw [hp] at hp'; cases hp'
      obtain ⟨v, e1, r1⟩ := reps_at r e
      exact .inl ⟨p, vs, _, v, rfl, rfl, .inl (.inl eH), e1, q.at0 g r1 h⟩
    · rename_i xs ek
      obtain ⟨w, e, h⟩ := h
      obtain ⟨p', hp', _, vs, r, eH⟩ := g.cell ek
      rw [hp] at hp'; cases hp'
      obtain ⟨v, e1, r1⟩ := reps_at r e
      exact .inr (.inl ⟨p, vs, _, v, rfl, rfl, .inl (.inl eH), e1, q.at0 g r1 h⟩)
    · exact h.elim
  · exact h.elim
theorem ea_ix (h1 : PEa K X e t f) (h2 : PEa K X e2 u f2) (hs : PlainIx e2 := by exact fun _ _ => rfl) (hK : X.K = K := by rfl) : PEa K X (.Subscript e e2 pos) (tOp (rIx K) t u) (aOp aIx f f2) := by
  subst hK
  exact ⟨pe_ix ix_seq h1.pe h2.pe hs, se_op sr_ix h1.sd h2.sd⟩

/-! ### slices -/
abbrev AOp := AD → AK → (Option Int → AK → Prop) → Prop
def aNoPart : AOp := fun _ κ R => R none κ
def aPart (f : AE) : AOp := fun δ κ R => f δ κ fun a κ1 => match a with
  | .d (.int i) => R (some i) κ1
  | _ => False
def SO (K : PySem.W.Frag) (t : TO) (e : AOp) : Prop := ∀ B ρ δ κ σ H (R : Option Int → AK → Prop) (Q : Option Int → Hp → Prop), S K B ρ δ σ → G K B ρ κ H → e δ κ R →
  (∀ B' ρ' κ' H' o, Up B ρ H B' ρ' H' → G K B' ρ' κ' H' → R o κ' → Q o H') → t σ H Q
structure POa (K : PySem.W.Frag) (X : Cx) (e : Option Expr) (t : TO) (f : AOp) : Prop where
  po : PO X e t
  sd : SO K t f
theorem oa_none : POa K X none tNoPart aNoPart := ⟨po_none, fun B ρ δ κ σ H R Q s g h q => q _ _ _ _ _ Up.refl g h⟩
theorem oa_some (h : PEa K X e t f) : POa K X (some e) (tPart t) (aPart f) := ⟨po_some h.pe, fun B ρ δ κ σ H R Q s g hh q =>
  h.sd B ρ δ κ σ H _ _ s g hh fun B1 ρ1 κ1 H1 a x u1 g1 r1 h1 => by
    split at h1
    · exact ⟨_, r1.int, q _ _ _ _ _ u1 g1 h1⟩
    · exact h1.elim⟩
def cutD {α : Type} (xs : List α) (lo hi : Option Int) : List α := (xs.drop (HT.sIx xs.length 0 lo)).take (HT.sIx xs.length xs.length hi - HT.sIx xs.length 0 lo)
def aSl (f : AE) (l h : AOp) : AE := fun δ κ R => f δ κ fun a κ1 => l δ κ1 fun lo κ2 => h δ κ2 fun hi κ3 => match a with
  | .d (.str s) => s.length ≤ sizeLine ∧ R (.d (.str (cutS s lo hi))) κ3
  | .d (.list xs) => R (.d (.list (cutD xs lo hi))) κ3
  | .c k => match κ3[k]? with
    | some (.ld xs) => R (.c κ3.length) (κ3 ++ [.ld (cutD xs lo hi)])
    | some (.lst xs) => R (.c κ3.length) (κ3 ++ [.lst (cutD xs lo hi)])
    | _ => False
  | _ => False
def rSlG (K : PySem.W.Frag) : V → Option Int → Option Int → Hp → VK → Prop := fun x lo hi H Q => rSlS x lo hi H Q ∨ rSlL K x lo hi H Q
theorem sl_or {r r' : V → Option Int → Option Int → Hp → VK → Prop} (h : SlR X r) (h' : SlR X r') : SlR X (fun x lo hi H Q => r x lo hi H Q ∨ r' x lo hi H Q) := by
  intro pins s σ H x v vl vu lo hi sl Q I rx hs pl pu q
  rcases q with q | q
  · exact h pins s σ H x v vl vu lo hi sl Q I rx hs pl pu q
  · exact h' pins s σ H x v vl vu lo hi sl Q I rx hs pl pu q
theorem dpa_take : ∀ {ds : List PyData} {vs : List V} (n : Nat), DpAll K B vs ds → DpAll K B (vs.take n) (ds.take n)
  | [], _, n, h => by cases h; simp; exact .nil
  | d :: ds, _, n, h => by
    cases h with
    | cons h1 h2 =>
      cases n with
      | zero => exact .nil
      | succ n => exact .cons h1 (dpa_take n h2)
theorem dpa_drop : ∀ {ds : List PyData} {vs : List V} (n : Nat), DpAll K B vs ds → DpAll K B (vs.drop n) (ds.drop n)
  | [], _, n, h => by cases h; simp; exact .nil
  | d :: ds, _, n, h => by
    cases h with
    | cons h1 h2 =>
      cases n with
      | zero => exact .cons h1 h2
      | succ n => exact dpa_drop n h2
theorem Reps.take : ∀ {ds : List AV} {vs : List V} (n : Nat), Reps K B ρ ds vs → Reps K B ρ (ds.take n) (vs.take n)
  | _, _, 0, _ => .nil
  | _, _, _ + 1, .nil => .nil
  | _, _, n + 1, .cons r t => .cons r (Reps.take n t)
theorem Reps.drop : ∀ {ds : List AV} {vs : List V} (n : Nat), Reps K B ρ ds vs → Reps K B ρ (ds.drop n) (vs.drop n)
  | _, _, 0, r => r
  | _, _, _ + 1, .nil => .nil
  | _, _, n + 1, .cons _ t => Reps.drop n t
theorem dpa_cut {ds : List PyData} {vs : List V} (h : DpAll K B vs ds) (lo hi : Option Int) : DpAll K B (cutV vs lo hi) (cutD ds lo hi) := by
  unfold cutV cutD
  rw [dpa_len h]
  exact dpa_take _ (dpa_drop _ h)
theorem Reps.cut {ds : List AV} {vs : List V} (h : Reps K B ρ ds vs) (lo hi : Option Int) : Reps K B ρ (cutD ds lo hi) (cutV vs lo hi) := by
  unfold cutV cutD
  rw [← h.len]
  exact Reps.take _ (Reps.drop _ h)
theorem ea_slice {lo hi : Option Expr} {p2 : Pos} {tl th : TO} {fl fh : AOp} (h1 : PEa K X e t f) (hl : POa K X lo tl fl) (hh : POa K X hi th fh) (hK : X.K = K := by rfl) :
    PEa K X (.Subscript e (.Slice lo hi none p2) pos) (tSl (rSlG K) t tl th) (aSl f fl fh) := by
  subst hK
  refine ⟨pe_slice (sl_or sl_str sl_list) h1.pe hl.po hh.po, fun B ρ δ κ σ H R Q s g h q => ?_⟩
  refine h1.sd B ρ δ κ σ H _ _ s g h fun B1 ρ1 κ1 H1 a x u1 g1 r1 h1 => ?_
  refine hl.sd B1 ρ1 δ κ1 σ H1 _ _ (s.up u1.g) g1 h1 fun B2 ρ2 κ2 H2 lo u2 g2 h2 => ?_
  refine hh.sd B2 ρ2 δ κ2 σ H2 _ _ (s.up (u1.trans u2).g) g2 h2 fun B3 ρ3 κ3 H3 hi u3 g3 h3 => ?_
  have r3 := r1.up (u2.trans u3).g
  have q3 := q.later ((u1.trans u2).trans u3)
  split at h3
  · cases r3.str
    exact .inl ⟨_, rfl, h3.1, q3.at0 g3 (rp_str _) h3.2⟩
  · rename_i xs
    obtain ⟨p, vs, rfl, s1, d1⟩ := of_listG g3 r3
    refine .inr ⟨p, vs, rfl, s1, fun p' hp' => ?_⟩
    obtain ⟨u4, g4, r4⟩ := new_lst g3 hp' (dpa_cut d1 lo hi)
    exact q3 _ _ _ _ _ _ u4 g4 r4 h3
  · rename_i k
    obtain ⟨p, hp, rfl⟩ := r3
    split at h3
    · rename_i xs ek
      obtain ⟨p', hp', _, vs, r, eH⟩ := g3.cell ek
      rw [hp] at hp'; cases hp'
      refine .inr ⟨p, vs, rfl, .inl (.inl eH), fun p' hp' => ?_⟩
      obtain ⟨u4, g4, r4⟩ := new_ld g3 hp' (dpa_cut r lo hi)
      exact q3 _ _ _ _ _ _ u4 g4 r4 h3
    · rename_i xs ek
      obtain ⟨p', hp', _, vs, r, eH⟩ := g3.cell ek
      rw [hp] at hp'; cases hp'
      refine .inr ⟨p, vs, rfl, .inl (.inl eH), fun p' hp' => ?_⟩
      obtain ⟨u4, g4, r4⟩ := new_cell g3 hp' (r.cut lo hi)
      exact q3 _ _ _ _ _ _ u4 g4 r4 h3
    · exact h3.elim
  · exact h3.elim

/-! ### argument lists, displays -/
def aNil : AA := fun _ κ R => R [] κ
def aCons (f : AE) (g : AA) : AA := fun δ κ R => f δ κ fun a κ1 => g δ κ1 fun as κ2 => R (a :: as) κ2
variable {es : List Expr} {ta : TA} {fa : AA}
theorem aa_nil : PAa K X [] tNil aNil := ⟨pa_nil, fun B ρ δ κ σ H R Q s g h q => q _ _ _ _ _ _ Up.refl g .nil h⟩
theorem aa_cons (h1 : PEa K X e t f) (h2 : PAa K X es ta fa) (hs : starEach (e :: es) X.env = (false, eval e X.env) :: starEach es X.env := by rfl) : PAa K X (e :: es) (tCons t ta) (aCons f fa) :=
  ⟨pa_cons h1.pe h2.pa hs, fun B ρ δ κ σ H R Q s g h q => h1.sd B ρ δ κ σ H _ _ s g h fun B1 ρ1 κ1 H1 a x u1 g1 r1 k1 => h2.sd B1 ρ1 δ κ1 σ H1 _ _ (s.up u1.g) g1 k1 fun B2 ρ2 κ2 H2 as xs u2 g2 r2 k2 =>
    q _ _ _ _ _ _ (u1.trans u2) g2 (.cons (r1.up u2.g) r2) k2⟩
def allD : List AV → Option (List PyData)
  | [] => some []
  | .d x :: r => match allD r with
    | some xs => some (x :: xs)
    | none => none
  | _ :: _ => none
theorem allD_eq : ∀ {as : List AV} {ds : List PyData}, allD as = some ds → as = ds.map .d
  | [], _, h => by cases h; rfl
  | .d x :: r, ds, h => by
    unfold allD at h
    split at h
    · rename_i xs e
      cases h
      rw [allD_eq e]; rfl
    · cases h
  | .c _ :: _, _, h => by cases h
  | .r _ :: _, _, h => by cases h
theorem allD_map : ∀ (ds : List PyData), allD (ds.map .d) = some ds
  | [] => rfl
  | d :: ds => by
    show (match allD (ds.map .d) with | some xs => some (d :: xs) | none => none) = _
    rw [allD_map ds]
def aTup (g : AA) : AE := fun δ κ R => g δ κ fun as κ1 => match allD as with
  | some ds => as.length ≤ sizeLine ∧ R (.d (.tuple ds)) κ1
  | none => as.length ≤ sizeLine ∧ R (.c κ1.length) (κ1 ++ [.tup as])
/-- a display that never changes, one that may change -/
def aLstD (g : AA) : AE := fun δ κ R => g δ κ fun as κ1 => match allD as with
  | some ds => as.length ≤ sizeLine ∧ R (.d (.list ds)) κ1
  | none => False
def aLst (g : AA) : AE := fun δ κ R => g δ κ fun as κ1 => match allD as with
  | some ds => as.length ≤ sizeLine ∧ R (.c κ1.length) (κ1 ++ [.ld ds])
  | none => as.length ≤ sizeLine ∧ R (.c κ1.length) (κ1 ++ [.lst as])
theorem ea_tup {x1} (h : PAa K X es ta fa) : PEa K X (.Tuple es x1 pos) (tTup ta) (aTup fa) := by
  refine ⟨pe_tup h.pa, fun B ρ δ κ σ H R Q s g hh q => h.sd B ρ δ κ σ H _ _ s g hh fun B1 ρ1 κ1 H1 as xs u1 g1 r1 h1 => ?_⟩
  split at h1
  · rename_i ds e
    obtain rfl := allD_eq e
    refine ⟨by rw [← r1.len]; exact h1.1, fun p hp => ?_⟩
    obtain ⟨u2, g2, r2⟩ := new_tup g1 hp (Reps.of_all r1)
    exact q _ _ _ _ _ _ (u1.trans u2) g2 r2 h1.2
  · refine ⟨by rw [← r1.len]; exact h1.1, fun p hp => ?_⟩
    obtain ⟨u2, g2, r2⟩ := new_tcell g1 hp r1
    exact q _ _ _ _ _ _ (u1.trans u2) g2 r2 h1.2
theorem ea_lstD (h : PAa K X es ta fa) : PEa K X (.List es pos) (tLst ta) (aLstD fa) := by
  refine ⟨pe_lst h.pa, fun B ρ δ κ σ H R Q s g hh q => h.sd B ρ δ κ σ H _ _ s g hh fun B1 ρ1 κ1 H1 as xs u1 g1 r1 h1 => ?_⟩
  split at h1
  · rename_i ds e
    obtain rfl := allD_eq e
    refine ⟨by rw [← r1.len]; exact h1.1, fun p hp => ?_⟩
    obtain ⟨u2, g2, r2⟩ := new_lst g1 hp (Reps.of_all r1)
    exact q _ _ _ _ _ _ (u1.trans u2) g2 r2 h1.2
  · exact h1.elim
theorem ea_lst (h : PAa K X es ta fa) : PEa K X (.List es pos) (tLst ta) (aLst fa) := by
  refine ⟨pe_lst h.pa, fun B ρ δ κ σ H R Q s g hh q => h.sd B ρ δ κ σ H _ _ s g hh fun B1 ρ1 κ1 H1 as xs u1 g1 r1 h1 => ?_⟩
  split at h1
  · rename_i ds e
    obtain rfl := allD_eq e
    refine ⟨by rw [← r1.len]; exact h1.1, fun p hp => ?_⟩
    obtain ⟨u2, g2, r2⟩ := new_ld g1 hp (Reps.of_all r1)
    exact q _ _ _ _ _ _ (u1.trans u2) g2 r2 h1.2
  · refine ⟨by rw [← r1.len]; exact h1.1, fun p hp => ?_⟩
    obtain ⟨u2, g2, r2⟩ := new_cell g1 hp r1
    exact q _ _ _ _ _ _ (u1.trans u2) g2 r2 h1.2

/-! ### built-in calls -/
def aCB (f : List AV → AK → AR → Prop) (g : AA) : AE := fun δ κ R => g δ κ fun as κ1 => f as κ1 R
theorem se_cb {r : List V → Hp → VK → Prop} {f : List AV → AK → AR → Prop} (hr : SL K r f) (h : SA K ta fa) : SE K (tCB r ta) (aCB f fa) := fun B ρ δ κ σ H R Q s g hh q =>
  h B ρ δ κ σ H _ _ s g hh fun B1 ρ1 κ1 H1 as xs u1 g1 r1 h1 => hr _ _ _ _ _ _ _ _ g1 r1 h1 (q.later u1)
structure CallA (K : PySem.W.Frag) (X : Cx) (f : Value) (r : List V → Hp → VK → Prop) (g : List AV → AK → AR → Prop) : Prop where
  c : CallR X f r
  sd : SL K r g
theorem ea_cb {id : String} {x : Str} {q pos : Pos} {r : List V → Hp → VK → Prop} {g : List AV → AK → AR → Prop} (hc : CallA K X (.builtin id) r g) (hg : Gl X x) (hm : X.mg x = none) (hv : bootBuiltins x = some (.builtin id)) (ha : PAa K X (e :: es) ta fa) (hn : x ≠ "__name__" := by decide) (hdb : (x == ("__debug__" : Str)) = false := by decide)
    (he : starEach (e :: es) X.env = (false, eval e X.env) :: starEach es X.env := by rfl) (hpl : (backTo pos (starEach es X.env)).any (·.1) = false := by rfl) : PEa K X (.Call (.Name x q) (e :: es) [] pos) (tCB r ta) (aCB g fa) :=
  ⟨pe_callB hc.c hg hm hv ha.pa hn hdb he hpl, se_cb hc.sd ha.sd⟩
theorem ea_ct {T : String} {x : Str} {q pos : Pos} {r : List V → Hp → VK → Prop} {g : List AV → AK → AR → Prop} (hc : CallA K X (.type T) r g) (hg : Gl X x) (hm : X.mg x = none) (hv : bootBuiltins x = some (.type T)) (ha : PAa K X (e :: es) ta fa) (hn : x ≠ "__name__" := by decide) (hdb : (x == ("__debug__" : Str)) = false := by decide)
    (he : starEach (e :: es) X.env = (false, eval e X.env) :: starEach es X.env := by rfl) (hpl : (backTo pos (starEach es X.env)).any (·.1) = false := by rfl) : PEa K X (.Call (.Name x q) (e :: es) [] pos) (tCB r ta) (aCB g fa) :=
  ⟨pe_callTy hc.c hg hm hv ha.pa hn hdb he hpl, se_cb hc.sd ha.sd⟩
/-- len -/
def aLen : List AV → AK → AR → Prop := fun as κ R => match as with
  | [.d (.str s)] => s.length ≤ sizeLine ∧ R (.d (.int s.length)) κ
  | [.d (.list xs)] => R (.d (.int xs.length)) κ
  | [.d (.tuple xs)] => R (.d (.int xs.length)) κ
  | [.c k] => match κ[k]? with
    | some (.ld xs) => R (.d (.int xs.length)) κ
    | some (.lst xs) => R (.d (.int xs.length)) κ
    | some (.tup xs) => R (.d (.int xs.length)) κ
    | _ => False
  | _ => False
def rLenA (K : PySem.W.Frag) : List V → Hp → VK → Prop := fun xs H Q => (∃ p ys, xs = [.ref p] ∧ (SqL K H p ys ∨ SqT K H p ys) ∧ Q (.int ys.length) H) ∨ (∃ z, xs = [.str z] ∧ z.length ≤ sizeLine ∧ Q (.int z.length) H)
theorem reps1 {as : AV} {xs : List V} (h : Reps K B ρ [as] xs) : ∃ x, xs = [x] ∧ Rep K B ρ as x := by
  cases h with
  | cons h1 h2 => cases h2; exact ⟨_, rfl, h1⟩
theorem reps2 {a1 a2 : AV} {xs : List V} (h : Reps K B ρ [a1, a2] xs) : ∃ x y, xs = [x, y] ∧ Rep K B ρ a1 x ∧ Rep K B ρ a2 y := by
  cases h with
  | cons h1 h2 =>
    obtain ⟨y, rfl, r⟩ := reps1 h2
    exact ⟨_, _, rfl, h1, r⟩
theorem ca_len (hK : X.K = K := by rfl) : CallA K X (.builtin "len") (rLenA K) aLen := by
  subst hK
  refine ⟨callr_or call_len_seq call_len_str, fun B ρ κ H xs as R Q g rs h q => ?_⟩
  unfold aLen at h
  split at h
  · obtain ⟨x, rfl, r⟩ := reps1 rs
    cases r.str
    exact .inr ⟨_, rfl, h.1, q.at0 g (rp_int _) h.2⟩
  · obtain ⟨x, rfl, r⟩ := reps1 rs
    obtain ⟨p, vs, rfl, s1, d1⟩ := of_listG g r
    exact .inl ⟨p, vs, rfl, .inl s1, q.at0 g (rp_int _) (by rw [dpa_len d1]; exact h)⟩
  · obtain ⟨x, rfl, r⟩ := reps1 rs
    obtain ⟨p, vs, rfl, s1, d1⟩ := of_tupG g r
    exact .inl ⟨p, vs, rfl, .inr s1, q.at0 g (rp_int _) (by rw [dpa_len d1]; exact h)⟩
  · obtain ⟨x, rfl, r⟩ := reps1 rs
    obtain ⟨p, hp, rfl⟩ := r
    split at h
    · rename_i xs ek
      obtain ⟨p', hp', _, vs, r, eH⟩ := g.cell ek
      rw [hp] at hp'; cases hp'
      exact .inl ⟨p, vs, rfl, .inl (.inl (.inl eH)), q.at0 g (rp_int _) (by rw [dpa_len r]; exact h)⟩
    · rename_i xs ek
      obtain ⟨p', hp', _, vs, r, eH⟩ := g.cell ek
      rw [hp] at hp'; cases hp'
      exact .inl ⟨p, vs, rfl, .inl (.inl (.inl eH)), q.at0 g (rp_int _) (by rw [← r.len]; exact h)⟩
    · rename_i xs ek
      obtain ⟨p', hp', _, vs, r, eH⟩ := g.cell ek
      rw [hp] at hp'; cases hp'
      exact .inl ⟨p, vs, rfl, .inr (.inl (.inl eH)), q.at0 g (rp_int _) (by rw [← r.len]; exact h)⟩
    · exact h.elim
  · exact h.elim
/-- int(n) -/
def aIntOf : List AV → AK → AR → Prop := fun as κ R => match as with
  | [.d (.int i)] => R (.d (.int i)) κ
  | [.d (.bool b)] => R (.d (.int (if b then 1 else 0))) κ
  | _ => False
theorem ca_int : CallA K X (.type "int") (fun xs H Q => (∃ i, xs = [.int i] ∧ Q (.int i) H) ∨ ∃ k, xs = [.bl k] ∧ Q (.int (if k then 1 else 0)) H) aIntOf := by
  refine ⟨call_int1, fun B ρ κ H xs as R Q g rs h q => ?_⟩
  unfold aIntOf at h
  split at h
  · obtain ⟨x, rfl, r⟩ := reps1 rs
    exact .inl ⟨_, by rw [r.int], q.at0 g (rp_int _) h⟩
  · obtain ⟨x, rfl, r⟩ := reps1 rs
    exact .inr ⟨_, by rw [r.bool], q.at0 g (rp_int _) h⟩
  · exact h.elim
/-- str(n) -/
def aStrOf : List AV → AK → AR → Prop := fun as κ R => match as with
  | [.d (.int i)] => i.natAbs.log2 < 1920 ∧ R (.d (.str (toString i))) κ
  | _ => False
theorem ca_str : CallA K X (.type "str") (fun xs H Q => ∃ i, xs = [.int i] ∧ i.natAbs.log2 < 1920 ∧ Q (.str (toString i)) H) aStrOf := by
  refine ⟨call_str_int, fun B ρ κ H xs as R Q g rs h q => ?_⟩
  unfold aStrOf at h
  split at h
  · obtain ⟨x, rfl, r⟩ := reps1 rs
    exact ⟨_, by rw [r.int], h.1, q.at0 g (rp_str _) h.2⟩
  · exact h.elim
/-- list(x): a new list that may change, one that never does -/
def aListOf (mu : Bool) : List AV → AK → AR → Prop := fun as κ R => match as with
  | [.d (.list xs)] => if mu then R (.c κ.length) (κ ++ [.ld xs]) else R (.d (.list xs)) κ
  | [.d (.tuple xs)] => if mu then R (.c κ.length) (κ ++ [.ld xs]) else R (.d (.list xs)) κ
  | [.c k] => match κ[k]? with
    | some (.ld xs) => if mu then R (.c κ.length) (κ ++ [.ld xs]) else R (.d (.list xs)) κ
    | some (.lst xs) => R (.c κ.length) (κ ++ [.lst xs])
    | some (.tup xs) => R (.c κ.length) (κ ++ [.lst xs])
    | _ => False
  | _ => False
theorem ca_list (mu : Bool) (hK : X.K = K := by rfl) : CallA K X (.type "list") (fun xs H Q => ∃ p ys, xs = [.ref p] ∧ (SqL K H p ys ∨ SqT K H p ys) ∧ ∀ l, H l = none → Q (.ref l) (upd H l (.lst ys))) (aListOf mu) := by
  subst hK
  refine ⟨call_list_of, fun B ρ κ H xs as R Q g rs h q => ?_⟩
  have key : ∀ {ds : List PyData} {vs : List V}, DpAll X.K B vs ds → (if mu then R (.c κ.length) (κ ++ [.ld ds]) else R (.d (.list ds)) κ) → ∀ l, H l = none → Q (.ref l) (upd H l (.lst vs)) := by
    intro ds vs d1 h l hl
    cases mu with
    | true =>
      obtain ⟨u2, g2, r2⟩ := new_ld g hl d1
      exact q _ _ _ _ _ _ u2 g2 r2 h
    | false =>
      obtain ⟨u2, g2, r2⟩ := new_lst g hl d1
      exact q _ _ _ _ _ _ u2 g2 r2 h
  unfold aListOf at h
  split at h
  · obtain ⟨x, rfl, r⟩ := reps1 rs
    obtain ⟨p, vs, rfl, s1, d1⟩ := of_listG g r
    exact ⟨p, vs, rfl, .inl s1, key d1 h⟩
  · obtain ⟨x, rfl, r⟩ := reps1 rs
    obtain ⟨p, vs, rfl, s1, d1⟩ := of_tupG g r
    exact ⟨p, vs, rfl, .inr s1, key d1 h⟩
  · obtain ⟨x, rfl, r⟩ := reps1 rs
    obtain ⟨p, hp, rfl⟩ := r
    split at h
    · rename_i xs ek
      obtain ⟨p', hp', _, vs, r, eH⟩ := g.cell ek
      rw [hp] at hp'; cases hp'
      exact ⟨p, vs, rfl, .inl (.inl (.inl eH)), key r h⟩
    · rename_i xs ek
      obtain ⟨p', hp', _, vs, r, eH⟩ := g.cell ek
      rw [hp] at hp'; cases hp'
      refine ⟨p, vs, rfl, .inl (.inl (.inl eH)), fun l hl => ?_⟩
      obtain ⟨u2, g2, r2⟩ := new_cell g hl r
      exact q _ _ _ _ _ _ u2 g2 r2 h
    · rename_i xs ek
      obtain ⟨p', hp', _, vs, r, eH⟩ := g.cell ek
      rw [hp] at hp'; cases hp'
      refine ⟨p, vs, rfl, .inr (.inl (.inl eH)), fun l hl => ?_⟩
      obtain ⟨u2, g2, r2⟩ := new_cell g hl r
      exact q _ _ _ _ _ _ u2 g2 r2 h
    · exact h.elim
  · exact h.elim
/-- isinstance(x, T), T a built-in class -/
def tyN : PyData → String
  | .none => "NoneType" | .bool _ => "bool" | .int _ => "int" | .str _ => "str" | .list _ => "list" | .tuple _ => "tuple" | .dict _ => "dict"
def aIsi : List AV → AK → AR → Prop := fun as κ R => match as with
  | [.d x, .r (.ty T)] => ∃ r, kitB (tyN x) T = some r ∧ R (.d (.bool r)) κ
  | [.c k, .r (.ty T)] => match κ[k]? with
    | some (.ld _) => ∃ r, kitB "list" T = some r ∧ R (.d (.bool r)) κ
    | some (.lst _) => ∃ r, kitB "list" T = some r ∧ R (.d (.bool r)) κ
    | some (.tup _) => ∃ r, kitB "tuple" T = some r ∧ R (.d (.bool r)) κ
    | _ => False
  | _ => False
theorem tyx_of {d : PyData} (h : Dp K H v d) : TyX K H v (.type (tyN d)) := by
  cases h with
  | non => exact .base .non
  | bl b => exact .base (.bl b)
  | int i => exact .base (.int i)
  | str x => exact .base (.str x)
  | lst hs ha =>
    rcases hs with (h | ⟨o, h⟩) | ⟨o, its, n, h, h2, _⟩
    · exact .base (.lst h)
    · exact .base (.frz h)
    · exact .kList h h2
  | tup hs ha =>
    rcases hs with (h | ⟨o, h⟩) | ⟨o, its, n, h, h2, _⟩
    · exact .base (.tup h)
    · exact .fTuple h
    · exact .kTuple h h2
theorem ca_isi (hK : X.K = K := by rfl) : CallA K X (.builtin "isinstance") (rIsi K) aIsi := by
  subst hK
  refine ⟨call_isi, fun B ρ κ H xs as R Q g rs h q => ?_⟩
  unfold aIsi at h
  split at h
  · obtain ⟨x, y, rfl, r1, r2⟩ := reps2 rs
    obtain ⟨r, e, h⟩ := h
    obtain rfl := (show y = _ from r2)
    exact ⟨x, _, _, _, r, rfl, .ty _, tyx_of (dp_G g r1), kit_ty e, q.at0 g (rp_bl _) h⟩
  · obtain ⟨x, y, rfl, r1, r2⟩ := reps2 rs
    obtain rfl := (show y = _ from r2)
    obtain ⟨p, hp, rfl⟩ := r1
    split at h
    · rename_i xs ek
      obtain ⟨r, e, h⟩ := h
      obtain ⟨p', hp', _, vs, _, eH⟩ := g.cell ek
      rw [hp] at hp'; cases hp'
      exact ⟨_, _, _, _, r, rfl, .ty _, .base (.lst eH), kit_ty e, q.at0 g (rp_bl _) h⟩
    · rename_i xs ek
      obtain ⟨r, e, h⟩ := h
      obtain ⟨p', hp', _, vs, _, eH⟩ := g.cell ek
      rw [hp] at hp'; cases hp'
      exact ⟨_, _, _, _, r, rfl, .ty _, .base (.lst eH), kit_ty e, q.at0 g (rp_bl _) h⟩
    · rename_i xs ek
      obtain ⟨r, e, h⟩ := h
      obtain ⟨p', hp', _, vs, _, eH⟩ := g.cell ek
      rw [hp] at hp'; cases hp'
      exact ⟨_, _, _, _, r, rfl, .ty _, .base (.tup eH), kit_ty e, q.at0 g (rp_bl _) h⟩
    · exact h.elim
  · exact h.elim

/-! ### methods of built-in classes -/
def tyA (T : String) (a : AV) (κ : AK) : Prop := match a with
  | .d (.str _) => T = "str"
  | .d (.list _) => T = "list"
  | .c k => match κ[k]? with
    | some (.ld _) => T = "list"
    | some (.lst _) => T = "list"
    | some (.dK _) => T = "dict"
    | some (.dT _) => T = "dict"
    | _ => False
  | _ => False
theorem tyA_ok {T : String} (g : G K B ρ κ H) (r : Rep K B ρ a x) (h : tyA T a κ) : tyV K T x H := by
  unfold tyA at h
  split at h
  · rw [r.str]; exact h
  · obtain ⟨p, vs, rfl, s1, d1⟩ := of_listG g r
    exact .inl ⟨h, vs, s1⟩
  · obtain ⟨p, hp, rfl⟩ := r
    split at h
    · rename_i xs ek
      obtain ⟨p', hp', _, vs, _, eH⟩ := g.cell ek
      rw [hp] at hp'; cases hp'
      exact .inl ⟨h, vs, .inl (.inl eH)⟩
    · rename_i xs ek
      obtain ⟨p', hp', _, vs, _, eH⟩ := g.cell ek
      rw [hp] at hp'; cases hp'
      exact .inl ⟨h, vs, .inl (.inl eH)⟩
    · rename_i xs ek
      obtain ⟨p', hp', _, vs, _, eH⟩ := g.cell ek
      rw [hp] at hp'; cases hp'
      exact .inr (.inr (.inl ⟨h, .inl ⟨vs, eH⟩⟩))
    · rename_i xs ek
      obtain ⟨p', hp', _, vs, _, eH⟩ := g.cell ek
      rw [hp] at hp'; cases hp'
      exact .inr (.inr (.inl ⟨h, .inr ⟨vs, eH⟩⟩))
    · exact h.elim
  · exact h.elim
structure MtA (K : PySem.W.Frag) (X : Cx) (id : String) (r : V → List V → Hp → VK → Prop) (g : AV → List AV → AK → AR → Prop) : Prop where
  m : MtR X id r
  sd : ∀ B ρ κ H x xs a as (R : AR) (Q : VK), G K B ρ κ H → Rep K B ρ a x → Reps K B ρ as xs → g a as κ R → Nx K B ρ H R Q → r x xs H Q
def aBM (T : String) (g : AV → List AV → AK → AR → Prop) (f : AE) (fa : AA) : AE := fun δ κ R => f δ κ fun a κ1 => tyA T a κ1 ∧ fa δ κ1 fun as κ2 => g a as κ2 R
def aBM0 (T : String) (g : AV → List AV → AK → AR → Prop) (f : AE) : AE := fun δ κ R => f δ κ fun a κ1 => tyA T a κ1 ∧ g a [] κ1 R
theorem ea_bm {T id : String} {name : Str} {apos cpos : Pos} {r : V → List V → Hp → VK → Prop} {g : AV → List AV → AK → AR → Prop} (hm : MtA K X id r g) (pa : PlainAttrs T) (slot : Slot T name id) (hty : typeOf (.builtin id) = pure (.type "method_descriptor")) (ho : PEa K X e2 t f) (ha : PAa K X (e :: es) ta fa)
    (hbase : attributeBase e2 name X.env (eval e2 X.env) = eval e2 X.env := by rfl)
    (hfew : ((backTo cpos (starEach (e :: es) X.env)).all (fun x => !x.1) && (backToKw cpos (keywordEach [] X.env)).all (fun x => x.1.isSome)
      && decide ((e :: es).length + ([] : List Keyword).length + (if ([] : List Keyword).isEmpty then 0 else 1) < 30)) = true := by rfl)
    (hline : (apos.endLine == cpos.line) = true := by rfl) (hs : starEach (e :: es) X.env = (false, eval e X.env) :: starEach es X.env := by rfl) (hplain : (backTo cpos (starEach es X.env)).any (·.1) = false := by rfl) (hK : X.K = K := by rfl) :
    PEa K X (.Call (.Attribute e2 name apos) (e :: es) [] cpos) (tBM K T r t ta) (aBM T g f fa) := by
  subst hK
  exact ⟨pe_bm pa slot hty hm.m ho.pe ha.pa hbase hfew hline hs hplain, fun B ρ δ κ σ H R Q s gg h q => ho.sd B ρ δ κ σ H _ _ s gg h fun B1 ρ1 κ1 H1 a x u1 g1 r1 h1 =>
    ⟨tyA_ok g1 r1 h1.1, ha.sd B1 ρ1 δ κ1 σ H1 _ _ (s.up u1.g) g1 h1.2 fun B2 ρ2 κ2 H2 as xs u2 g2 r2 h2 => hm.sd _ _ _ _ _ _ _ _ _ _ g2 (r1.up u2.g) r2 h2 (q.later (u1.trans u2))⟩⟩
theorem ea_bm0 {T id : String} {name : Str} {apos cpos : Pos} {r : V → List V → Hp → VK → Prop} {g : AV → List AV → AK → AR → Prop} (hm : MtA K X id r g) (pa : PlainAttrs T) (slot : Slot T name id) (hty : typeOf (.builtin id) = pure (.type "method_descriptor")) (ho : PEa K X e2 t f)
    (hbase : attributeBase e2 name X.env (eval e2 X.env) = eval e2 X.env := by rfl) (hline : (apos.endLine == cpos.line) = true := by rfl) (hK : X.K = K := by rfl) : PEa K X (.Call (.Attribute e2 name apos) [] [] cpos) (tBM0 K T r t) (aBM0 T g f) := by
  subst hK
  exact ⟨pe_bm0 pa slot hty hm.m ho.pe hbase hline, fun B ρ δ κ σ H R Q s gg h q => ho.sd B ρ δ κ σ H _ _ s gg h fun B1 ρ1 κ1 H1 a x u1 g1 r1 h1 =>
    ⟨tyA_ok g1 r1 h1.1, hm.sd _ _ _ _ _ _ _ _ _ _ g1 r1 .nil h1.2 (q.later u1)⟩⟩
/-- a list cell: where it stands, and how it changes -/
theorem G.lstAt (g : G K B ρ κ H) {xs : List AV} (hp : ρ[k]? = some p) (ek : κ[k]? = some (.lst xs)) : ∃ vs, Reps K B ρ xs vs ∧ H p = some (.lst vs) ∧
    ∀ xs' vs', Reps K B ρ xs' vs' → Up B ρ H B ρ (upd H p (.lst vs')) ∧ G K B ρ (κ.set k (.lst xs')) (upd H p (.lst vs')) := by
  obtain ⟨p', hp', hb, vs, r, eH⟩ := g.cell ek
  rw [hp] at hp'; cases hp'
  refine ⟨vs, r, eH, fun xs' vs' r' => ⟨G.writeUp hp, ?_⟩⟩
  have hc : CellOk K B ρ (upd H p (.lst vs')) p (.lst xs') := ⟨hb, vs', r', upd_same⟩
  exact g.write hp hb hc
theorem G.ldAt (g : G K B ρ κ H) {xs : List PyData} (hp : ρ[k]? = some p) (ek : κ[k]? = some (.ld xs)) : ∃ vs, DpAll K B vs xs ∧ H p = some (.lst vs) ∧
    ∀ xs' vs', DpAll K B vs' xs' → Up B ρ H B ρ (upd H p (.lst vs')) ∧ G K B ρ (κ.set k (.ld xs')) (upd H p (.lst vs')) := by
  obtain ⟨p', hp', hb, vs, r, eH⟩ := g.cell ek
  rw [hp] at hp'; cases hp'
  refine ⟨vs, r, eH, fun xs' vs' r' => ⟨G.writeUp hp, ?_⟩⟩
  have hc : CellOk K B ρ (upd H p (.lst vs')) p (.ld xs') := ⟨hb, vs', r', upd_same⟩
  exact g.write hp hb hc
/-- xs.append(y) -/
def aAppend : AV → List AV → AK → AR → Prop := fun a as κ R => match a, as with
  | .c k, [y] => match κ[k]?, y with
    | some (.ld xs), .d z => xs.length < sizeLine ∧ R (.d .none) (κ.set k (.ld (xs ++ [z])))
    | some (.lst xs), y => xs.length < sizeLine ∧ R (.d .none) (κ.set k (.lst (xs ++ [y])))
    | _, _ => False
  | _, _ => False
theorem ma_append : MtA K X "list.append" rAppend aAppend := by
  refine ⟨mt_append, fun B ρ κ H x xs a as R Q g rx rs h q => ?_⟩
  unfold aAppend at h
  split at h
  · obtain ⟨p, hp, rfl⟩ := rx
    obtain ⟨y, rfl, ry⟩ := reps1 rs
    split at h
    · rename_i xs z ek
      obtain ⟨vs, r, eH, wr⟩ := g.ldAt hp ek
      obtain ⟨u2, g2⟩ := wr _ _ (dpa_app r (.cons ry .nil))
      refine ⟨p, vs, y, rfl, rfl, eH, by rw [dpa_len r]; exact h.1, q _ _ _ _ _ _ u2 g2 rp_non h.2⟩
    · rename_i xs y' ek
      obtain ⟨vs, r, eH, wr⟩ := g.lstAt hp ek
      obtain ⟨u2, g2⟩ := wr _ _ (r.snoc ry)
      refine ⟨p, vs, y, rfl, rfl, eH, by rw [← r.len]; exact h.1, q _ _ _ _ _ _ u2 g2 rp_non h.2⟩
    · exact h.elim
  · exact h.elim
/-- s.startswith(x, i) -/
def aStarts3 : AV → List AV → AK → AR → Prop := fun a as κ R => match a, as with
  | .d (.str s), [.d (.str t), .d (.int i)] => R (.d (.bool (Txt.startswith3 s t i))) κ
  | _, _ => False
theorem ma_starts3 : MtA K X "str.startswith" (fun x xs H Q => ∃ (a b : Str) (i : Int), x = .str a ∧ xs = [.str b, .int i] ∧ Q (.bl (Txt.startswith3 a b i)) H) aStarts3 := by
  refine ⟨mt_startswith3, fun B ρ κ H x xs a as R Q g rx rs h q => ?_⟩
  unfold aStarts3 at h
  split at h
  · obtain ⟨y, z, rfl, r1, r2⟩ := reps2 rs
    cases rx.str; cases r1.str; cases r2.int
    exact ⟨_, _, _, rfl, rfl, q.at0 g (rp_bl _) h⟩
  · exact h.elim

/-! ### tests -/
variable {tA tB' : TT} {pA pB : AT}
/-- a choice by a truth -/
def bsel (b : Bool) (A C : Prop) : Prop := match b with
  | true => A
  | false => C
theorem bsel_i {b : Bool} {A C : Prop} (h1 : b = true → A) (h0 : b = false → C) : bsel b A C := by
  cases b with
  | true => exact h1 rfl
  | false => exact h0 rfl
def aB (f : AE) : AT := fun δ κ R => f δ κ fun a κ1 => match a with
  | .d (.bool b) => R b κ1
  | _ => False
theorem st_B (h : SE K t f) : ST K (tB t) (aB f) := fun B ρ δ κ σ H R Q s g hh q => h B ρ δ κ σ H _ _ s g hh fun B1 ρ1 κ1 H1 a x u1 g1 r1 h1 => by
  split at h1
  · exact ⟨_, r1.bool, q _ _ _ _ _ u1 g1 h1⟩
  · exact h1.elim
theorem ta_cmp {op : CmpOp} {r : R2} {g : AO} (ho : OpA K X (compareOp op) r g) (h1 : PEa K X e t f) (h2 : PEa K X e2 u f2) (hm : behindInMarks op e2 = false := by first | exact nomark _ | rfl) : PTa K X (.Compare e [op] [e2] pos) (tTest (tOp r t u)) (aB (aOp g f f2)) :=
  ⟨pt_cmpR ho.op h1.pe h2.pe hm, st_B (se_op ho.sd h1.sd h2.sd)⟩
/-- truth of anything -/
def aTru (f : AE) : AT := fun δ κ R => f δ κ fun a κ1 => match a with
  | .d (.bool b) => R b κ1
  | .d .none => R false κ1
  | .d (.int i) => R (i != 0) κ1
  | .d (.str s) => s.length ≤ sizeLine ∧ R ((s.length : Int) != 0) κ1
  | .d (.list xs) => R (!xs.isEmpty) κ1
  | .d (.tuple xs) => R (!xs.isEmpty) κ1
  | .c k => match κ1[k]? with
    | some (.ld xs) => R (!xs.isEmpty) κ1
    | some (.lst xs) => R (!xs.isEmpty) κ1
    | _ => False
  | _ => False
theorem emp_dpa {ds : List PyData} {vs : List V} (h : DpAll K B vs ds) : (!vs.isEmpty) = !ds.isEmpty := by
  cases ds with
  | nil => cases h; rfl
  | cons _ _ => cases h; rfl
theorem emp_reps {ds : List AV} {vs : List V} (h : Reps K B ρ ds vs) : (!vs.isEmpty) = !ds.isEmpty := by
  cases h <;> rfl
theorem ta_tru (h : PEa K X e t f) (he : ∀ whole, isTrue e X.env whole = (do let v ← whole; standAt e.pos; holding [v] (truthy v)) := by intro _; rfl) (hK : X.K = K := by rfl) : PTa K X e (fun σ H Q => t σ H fun x H' => ∃ k, TruV K x H' k ∧ Q k H') (aTru f) := by
  subst hK
  refine ⟨pt_truth h.pe he, fun B ρ δ κ σ H R Q s g hh q => h.sd B ρ δ κ σ H _ _ s g hh fun B1 ρ1 κ1 H1 a x u1 g1 r1 h1 => ?_⟩
  split at h1
  · rw [r1.bool]; exact ⟨_, rfl, q _ _ _ _ _ u1 g1 h1⟩
  · rw [r1.non]; exact ⟨_, rfl, q _ _ _ _ _ u1 g1 h1⟩
  · rw [r1.int]; exact ⟨_, rfl, q _ _ _ _ _ u1 g1 h1⟩
  · rw [r1.str]; exact ⟨_, ⟨h1.1, rfl⟩, q _ _ _ _ _ u1 g1 h1.2⟩
  · obtain ⟨p, vs, rfl, s1, d1⟩ := of_listG g1 r1
    exact ⟨_, .inl ⟨vs, s1, rfl⟩, q _ _ _ _ _ u1 g1 (by rw [emp_dpa d1]; exact h1)⟩
  · obtain ⟨p, vs, rfl, s1, d1⟩ := of_tupG g1 r1
    exact ⟨_, .inr (.inl ⟨vs, s1, rfl⟩), q _ _ _ _ _ u1 g1 (by rw [emp_dpa d1]; exact h1)⟩
  · obtain ⟨p, hp, rfl⟩ := r1
    split at h1
    · rename_i xs ek
      obtain ⟨p', hp', _, vs, r, eH⟩ := g1.cell ek
      rw [hp] at hp'; cases hp'
      exact ⟨_, .inl ⟨vs, .inl (.inl eH), rfl⟩, q _ _ _ _ _ u1 g1 (by rw [emp_dpa r]; exact h1)⟩
    · rename_i xs ek
      obtain ⟨p', hp', _, vs, r, eH⟩ := g1.cell ek
      rw [hp] at hp'; cases hp'
      exact ⟨_, .inl ⟨vs, .inl (.inl eH), rfl⟩, q _ _ _ _ _ u1 g1 (by rw [emp_reps r]; exact h1)⟩
    · exact h1.elim
  · exact h1.elim
def aAnd (p q : AT) : AT := fun δ κ R => p δ κ fun c κ1 => bsel c (q δ κ1 R) (R false κ1)
def aOr (p q : AT) : AT := fun δ κ R => p δ κ fun c κ1 => bsel c (R true κ1) (q δ κ1 R)
def aNot (p : AT) : AT := fun δ κ R => p δ κ fun c κ1 => R (!c) κ1
variable {e' : Expr} {rs : List Expr}
theorem wa_1 {op : BoolOp} (ho : op = .And ∨ op = .Or) (h : PTa K X e tA pA) : PWa K X (.BoolOp op [e] pos) tA pA := by
  rcases ho with rfl | rfl
  · exact ⟨pw_and1 h.pt, h.sd⟩
  · exact ⟨pw_or1 h.pt, h.sd⟩
theorem wa_and1 (h : PTa K X e tA pA) : PWa K X (.BoolOp .And [e] pos) tA pA := ⟨pw_and1 h.pt, h.sd⟩
theorem wa_or1 (h : PTa K X e tA pA) : PWa K X (.BoolOp .Or [e] pos) tA pA := ⟨pw_or1 h.pt, h.sd⟩
theorem wa_and (h : PTa K X e tA pA) (h2 : PWa K X (.BoolOp .And (e' :: rs) pos) tB' pB) : PWa K X (.BoolOp .And (e :: e' :: rs) pos) (tAnd tA tB') (aAnd pA pB) :=
  ⟨pw_and h.pt h2.pw, fun B ρ δ κ σ H R Q s g hh q => h.sd B ρ δ κ σ H _ _ s g hh fun B1 ρ1 κ1 H1 c u1 g1 h1 => by
    cases c with
    | true => exact iteT (h2.sd B1 ρ1 δ κ1 σ H1 R Q (s.up u1.g) g1 h1 fun B2 ρ2 κ2 H2 b u2 g2 k2 => q _ _ _ _ _ (u1.trans u2) g2 k2)
    | false => exact iteF (q _ _ _ _ _ u1 g1 h1)⟩
theorem wa_or (h : PTa K X e tA pA) (h2 : PWa K X (.BoolOp .Or (e' :: rs) pos) tB' pB) : PWa K X (.BoolOp .Or (e :: e' :: rs) pos) (tOr tA tB') (aOr pA pB) :=
  ⟨pw_or h.pt h2.pw, fun B ρ δ κ σ H R Q s g hh q => h.sd B ρ δ κ σ H _ _ s g hh fun B1 ρ1 κ1 H1 c u1 g1 h1 => by
    cases c with
    | true => exact iteT (q _ _ _ _ _ u1 g1 h1)
    | false => exact iteF (h2.sd B1 ρ1 δ κ1 σ H1 R Q (s.up u1.g) g1 h1 fun B2 ρ2 κ2 H2 b u2 g2 k2 => q _ _ _ _ _ (u1.trans u2) g2 k2)⟩
theorem ta_not (h : PTa K X e tA pA) : PTa K X (.UnaryOp .Not e pos) (tNot tA) (aNot pA) := ⟨pt_not h.pt, fun B ρ δ κ σ H R Q s g hh q => h.sd B ρ δ κ σ H _ _ s g hh fun B1 ρ1 κ1 H1 c u1 g1 h1 => q _ _ _ _ _ u1 g1 h1⟩
/-- as values -/
def aAndV (p q : AE) : AE := fun δ κ R => p δ κ fun a κ1 => match a with
  | .d (.bool b) => bsel b (q δ κ1 R) (R (.d (.bool false)) κ1)
  | _ => False
def aOrV (p q : AE) : AE := fun δ κ R => p δ κ fun a κ1 => match a with
  | .d (.bool b) => bsel b (R (.d (.bool true)) κ1) (q δ κ1 R)
  | _ => False
def aNotV (p : AE) : AE := fun δ κ R => p δ κ fun a κ1 => match a with
  | .d (.bool b) => R (.d (.bool (!b))) κ1
  | _ => False
theorem ea_one {op : BoolOp} (h : PEa K X e t f) : PEa K X (.BoolOp op [e] pos) t f := ⟨pe_one h.pe, h.sd⟩
theorem ea_and (h : PEa K X e t f) (h2 : PEa K X (.BoolOp .And (e' :: rs) pos) u f2) : PEa K X (.BoolOp .And (e :: e' :: rs) pos) (tAndV t u) (aAndV f f2) :=
  ⟨pe_and h.pe h2.pe, fun B ρ δ κ σ H R Q s g hh q => h.sd B ρ δ κ σ H _ _ s g hh fun B1 ρ1 κ1 H1 a x u1 g1 r1 h1 => by
    split at h1
    · rename_i c
      refine ⟨_, r1.bool, ?_⟩
      cases c with
      | true => exact iteT (h2.sd B1 ρ1 δ κ1 σ H1 R Q (s.up u1.g) g1 h1 (q.later u1))
      | false => exact iteF (q _ _ _ _ _ _ u1 g1 (rp_bl _) h1)
    · exact h1.elim⟩
theorem ea_or (h : PEa K X e t f) (h2 : PEa K X (.BoolOp .Or (e' :: rs) pos) u f2) : PEa K X (.BoolOp .Or (e :: e' :: rs) pos) (tOrV t u) (aOrV f f2) :=
  ⟨pe_or h.pe h2.pe, fun B ρ δ κ σ H R Q s g hh q => h.sd B ρ δ κ σ H _ _ s g hh fun B1 ρ1 κ1 H1 a x u1 g1 r1 h1 => by
    split at h1
    · rename_i c
      refine ⟨_, r1.bool, ?_⟩
      cases c with
      | true => exact iteT (q _ _ _ _ _ _ u1 g1 (rp_bl _) h1)
      | false => exact iteF (h2.sd B1 ρ1 δ κ1 σ H1 R Q (s.up u1.g) g1 h1 (q.later u1))
    · exact h1.elim⟩
theorem ea_not (h : PEa K X e t f) : PEa K X (.UnaryOp .Not e pos) (tNotV t) (aNotV f) :=
  ⟨pe_not h.pe, fun B ρ δ κ σ H R Q s g hh q => h.sd B ρ δ κ σ H _ _ s g hh fun B1 ρ1 κ1 H1 a x u1 g1 r1 h1 => by
    split at h1
    · exact ⟨_, r1.bool, q _ _ _ _ _ _ u1 g1 (rp_bl _) h1⟩
    · exact h1.elim⟩
def aIf (p : AT) (a b : AE) : AE := fun δ κ R => p δ κ fun c κ1 => bsel c (a δ κ1 R) (b δ κ1 R)
theorem ea_if {c : Expr} (hc : PTa K X c tA pA) (h : PEa K X e t f) (h2 : PEa K X e2 u f2) : PEa K X (.IfExp c e e2 pos) (tIf tA t u) (aIf pA f f2) :=
  ⟨pe_ifExp hc.pt h.pe h2.pe, fun B ρ δ κ σ H R Q s g hh q => hc.sd B ρ δ κ σ H _ _ s g hh fun B1 ρ1 κ1 H1 c u1 g1 h1 => by
    cases c with
    | true => exact iteT (h.sd B1 ρ1 δ κ1 σ H1 R Q (s.up u1.g) g1 h1 (q.later u1))
    | false => exact iteF (h2.sd B1 ρ1 δ κ1 σ H1 R Q (s.up u1.g) g1 h1 (q.later u1))⟩
/-- -n -/
def aNeg : AV → AK → AR → Prop := fun a κ R => match a with
  | .d (.int i) => R (.d (.int (-i))) κ
  | _ => False
theorem ea_neg (h : PEa K X e t f) : PEa K X (.UnaryOp .USub e pos) (tUn (rU fun i => .int (-i)) t) (aUn aNeg f) := ea_un un_neg (fun B ρ κ H x a R Q g rx h q => by
  unfold aNeg at h
  split at h
  · exact ⟨_, rx.int, q.at0 g (rp_int _) h⟩
  · exact h.elim) h
end Ab
set_option Elab.async false
set_option linter.all false
set_option maxRecDepth 100000
set_option maxHeartbeats 4000000
/-! Ab4: statements, targets, what is walked, loops, comprehensions -/
namespace Ab
open PySem L2
variable {K : PySem.W.Frag} {B B' B2 H H' H2 : Hp} {ρ ρ' ρ2 : List Addr} {κ κ' : AK} {δ : AD} {σ : L2.St} {p : Addr} {k : Nat} {v x y z : V} {a b c : AV}
variable {X : Cx} {e e2 : Expr} {t u : TE} {f f2 : AE} {pos : Pos}

structure AEnds where
  /-- the cells that stand at the entry -/
  n : Nat
  nx : AD → AK → Prop
  rt : AR
  bk : AD → AK → Prop := fun _ _ => False
  ct : AD → AK → Prop := fun _ _ => False
abbrev AS := AEnds → AD → AK → Prop
/-- a way on -/
abbrev ImpN (K : PySem.W.Frag) (n : Nat) (B : Hp) (ρ : List Addr) (H : Hp) (P : AD → AK → Prop) (Q : L2.St → Hp → Prop) : Prop := ∀ B' ρ' κ' H' δ' σ', UpN n B ρ H B' ρ' H' → G K B' ρ' κ' H' → S K B' ρ' δ' σ' → n ≤ κ'.length → P δ' κ' → Q σ' H'
abbrev ImpR (K : PySem.W.Frag) (n : Nat) (B : Hp) (ρ : List Addr) (H : Hp) (P : AR) (Q : VK) : Prop := ∀ B' ρ' κ' H' a v, UpN n B ρ H B' ρ' H' → G K B' ρ' κ' H' → Rep K B' ρ' a v → n ≤ κ'.length → P a κ' → Q v H'
structure Imp (K : PySem.W.Frag) (B : Hp) (ρ : List Addr) (H : Hp) (A : AEnds) (D : Ends) : Prop where
  nx : ImpN K A.n B ρ H A.nx D.nx
  rt : ImpR K A.n B ρ H A.rt D.rt
  bk : ImpN K A.n B ρ H A.bk D.bk
  ct : ImpN K A.n B ρ H A.ct D.ct
theorem Imp.later {A : AEnds} {D : Ends} (i : Imp K B ρ H A D) (w : UpN A.n B ρ H B' ρ' H') : Imp K B' ρ' H' A D :=
  ⟨fun _ _ _ _ _ _ w2 g s l h => i.nx _ _ _ _ _ _ (w.trans w2) g s l h, fun _ _ _ _ _ _ w2 g s l h => i.rt _ _ _ _ _ _ (w.trans w2) g s l h,
   fun _ _ _ _ _ _ w2 g s l h => i.bk _ _ _ _ _ _ (w.trans w2) g s l h, fun _ _ _ _ _ _ w2 g s l h => i.ct _ _ _ _ _ _ (w.trans w2) g s l h⟩
theorem Imp.nxTo {A : AEnds} {D : Ends} (i : Imp K B ρ H A D) {P : AD → AK → Prop} {Q : L2.St → Hp → Prop} (h : ImpN K A.n B ρ H P Q) : Imp K B ρ H { A with nx := P } { D with nx := Q } := ⟨h, i.rt, i.bk, i.ct⟩
def SS (K : PySem.W.Frag) (t : TS) (f : AS) : Prop := ∀ B ρ δ κ σ H (A : AEnds) (D : Ends), S K B ρ δ σ → G K B ρ κ H → A.n ≤ κ.length → f A δ κ → Imp K B ρ H A D → t D σ H
structure PSa (K : PySem.W.Frag) (X : Cx) (st : Stmt) (t : TS) (f : AS) : Prop where
  ps : PS X st t
  sd : SS K t f
structure PSsa (K : PySem.W.Frag) (X : Cx) (sts : List Stmt) (t : TS) (f : AS) : Prop where
  ps : PSs X sts t
  sd : SS K t f
theorem Up.len (w : Up B ρ H B' ρ' H') (g : G K B ρ κ H) (g' : G K B' ρ' κ' H') : κ.length ≤ κ'.length := by
  rw [← g.len, ← g'.len]
  by_cases h : ρ.length = 0
  · omega
  · have h1 : ρ.length - 1 < ρ.length := by omega
    have := (List.getElem?_eq_some_iff.mp (w.p _ _ (List.getElem?_eq_getElem h1))).1
    omega

/-! ### blocks, simple statements -/
def aNext : AS := fun A δ κ => A.nx δ κ
def aSeq (f g : AS) : AS := fun A δ κ => f { A with nx := g A } δ κ
def aDrop (f : AE) : AS := fun A δ κ => f δ κ fun _ κ1 => A.nx δ κ1
def aRet (f : AE) : AS := fun A δ κ => f δ κ A.rt
def aRetN : AS := fun A _ κ => A.rt (.d .none) κ
def aBrk : AS := fun A δ κ => A.bk δ κ
def aCont : AS := fun A δ κ => A.ct δ κ
def aNever : AS := fun _ _ _ => False
def aIfS (p : AT) (f g : AS) : AS := fun A δ κ => p δ κ fun b κ1 => bsel b (f A δ κ1) (g A δ κ1)
variable {st : Stmt} {rest : List Stmt} {t1 t2 : TS} {f1 g1 : AS} {tc : TT} {pc : AT}
theorem sa_nil : PSsa K X [] tNext aNext := ⟨pss_nil, fun B ρ δ κ σ H A D s g l h i => i.nx _ _ _ _ _ _ UpN.refl g s l h⟩
theorem sa_cons (h1 : PSa K X st t1 f1) (h2 : PSsa K X rest t2 g1) : PSsa K X (st :: rest) (tSeq t1 t2) (aSeq f1 g1) :=
  ⟨pss_cons h1.ps h2.ps, fun B ρ δ κ σ H A D s g l h i => h1.sd B ρ δ κ σ H { A with nx := g1 A } { D with nx := t2 D } s g l h (i.nxTo fun B' ρ' κ' H' δ' σ' w g' s' l' h' => h2.sd _ _ _ _ _ _ _ _ s' g' l' h' (i.later w))⟩
/-- a word between a statement and the rest -/
def aCut (f g : AS) : AS := fun A δ κ => ∃ M : AD → AK → Prop, f { A with nx := M } δ κ ∧ ∀ δ' κ', M δ' κ' → A.n ≤ κ'.length → g A δ' κ'
theorem sa_cut (h1 : PSa K X st t1 f1) (h2 : PSsa K X rest t2 g1) : PSsa K X (st :: rest) (tSeq t1 t2) (aCut f1 g1) :=
  ⟨pss_cons h1.ps h2.ps, fun B ρ δ κ σ H A D s g l ⟨M, h, hM⟩ i => h1.sd B ρ δ κ σ H { A with nx := M } { D with nx := t2 D } s g l h (i.nxTo fun B' ρ' κ' H' δ' σ' w g' s' l' h' => h2.sd _ _ _ _ _ _ _ _ s' g' l' (hM _ _ h' l') (i.later w))⟩
theorem sa_one (h1 : PSa K X st t1 f1) : PSsa K X [st] t1 f1 := ⟨pss_one h1.ps, h1.sd⟩
theorem sa_pass : PSa K X (.Pass pos) tNext aNext := ⟨ps_pass, (sa_nil (X := X)).sd⟩
theorem sa_brk : PSa K X (.Break pos) tBreak aBrk := ⟨ps_break, fun B ρ δ κ σ H A D s g l h i => i.bk _ _ _ _ _ _ UpN.refl g s l h⟩
theorem sa_cont : PSa K X (.Continue pos) tCont aCont := ⟨ps_continue, fun B ρ δ κ σ H A D s g l h i => i.ct _ _ _ _ _ _ UpN.refl g s l h⟩
theorem sa_nevers {sts : List Stmt} : PSsa K X sts tNever aNever := ⟨pss_never, fun B ρ δ κ σ H A D s g l h i => h.elim⟩
theorem sa_never : PSa K X st tNever aNever := ⟨ps_never, fun B ρ δ κ σ H A D s g l h i => h.elim⟩
theorem sa_drop (h : PEa K X e t f) (hs : swapsWith e none pos.line X.env = pure false := by rfl) : PSa K X (.Expr e pos) (tDrop t) (aDrop f) :=
  ⟨ps_expr h.pe hs, fun B ρ δ κ σ H A D s g l hh i => h.sd B ρ δ κ σ H _ _ s g hh fun B' ρ' κ' H' a v w g' r h' => i.nx _ _ _ _ _ _ w.n g' (s.up w.g) (Nat.le_trans l (w.len g g')) h'⟩
theorem sa_ret (h : PEa K X e t f) : PSa K X (.Return (some e) pos) (tRet t) (aRet f) :=
  ⟨ps_ret h.pe, fun B ρ δ κ σ H A D s g l hh i => h.sd B ρ δ κ σ H _ _ s g hh fun B' ρ' κ' H' a v w g' r h' => i.rt _ _ _ _ _ _ w.n g' r (Nat.le_trans l (w.len g g')) h'⟩
theorem sa_retN : PSa K X (.Return none pos) tRetN aRetN := ⟨ps_retN, fun B ρ δ κ σ H A D s g l hh i => i.rt _ _ _ _ _ _ UpN.refl g rp_non l hh⟩
theorem sa_if {c : Expr} {bt bf : List Stmt} {u1 u2 : TS} {k1 k2 : AS} (hc : PTa K X c tc pc) (h1 : PSsa K X bt u1 k1) (h2 : PSsa K X bf u2 k2) : PSa K X (.If c bt bf pos) (tIfS tc u1 u2) (aIfS pc k1 k2) :=
  ⟨ps_if hc.pt h1.ps h2.ps, fun B ρ δ κ σ H A D s g l hh i => hc.sd B ρ δ κ σ H _ _ s g hh fun B' ρ' κ' H' b w g' h' => by
    have l' := Nat.le_trans l (w.len g g')
    cases b with
    | true => exact iteT (h1.sd _ _ _ _ _ _ _ _ (s.up w.g) g' l' h' (i.later w.n))
    | false => exact iteF (h2.sd _ _ _ _ _ _ _ _ (s.up w.g) g' l' h' (i.later w.n))⟩

/-! ### another description of the same: what is frozen, what is forgotten -/
def GhS (K : PySem.W.Frag) (n : Nat) (δ : AD) (κ : AK) (δ' : AD) (κ' : AK) : Prop := n ≤ κ'.length ∧ ∀ B ρ σ H, S K B ρ δ σ → G K B ρ κ H → ∃ B' ρ', UpN n B ρ H B' ρ' H ∧ S K B' ρ' δ' σ ∧ G K B' ρ' κ' H
def aGh (K : PySem.W.Frag) (f : AS) : AS := fun A δ κ => ∃ δ' κ', GhS K A.n δ κ δ' κ' ∧ f A δ' κ'
theorem ss_gh {t : TS} {f : AS} (h : SS K t f) : SS K t (aGh K f) := fun B ρ δ κ σ H A D s g l ⟨δ', κ', ⟨l', gh⟩, hf⟩ i => by
  obtain ⟨B', ρ', w, s', g'⟩ := gh B ρ σ H s g
  exact h B' ρ' δ' κ' σ H A D s' g' l' hf (i.later w)
theorem sa_gh {sts : List Stmt} (h : PSsa K X sts t1 f1) : PSsa K X sts t1 (aGh K f1) := ⟨h.ps, ss_gh h.sd⟩
theorem sa_gh1 (h : PSa K X st t1 f1) : PSa K X st t1 (aGh K f1) := ⟨h.ps, ss_gh h.sd⟩
theorem GhS.refl {n : Nat} (l : n ≤ κ.length) : GhS K n δ κ δ κ := ⟨l, fun B ρ σ H s g => ⟨B, ρ, UpN.refl, s, g⟩⟩
theorem GhS.trans {n : Nat} {δ' δ2 : AD} {κ' κ2 : AK} (a : GhS K n δ κ δ' κ') (b : GhS K n δ' κ' δ2 κ2) : GhS K n δ κ δ2 κ2 := ⟨b.1, fun B ρ σ H s g => by
  obtain ⟨B', ρ', w, s', g'⟩ := a.2 B ρ σ H s g
  obtain ⟨B2, ρ2, w2, s2, g2⟩ := b.2 B' ρ' σ H s' g'
  exact ⟨B2, ρ2, w.trans w2, s2, g2⟩⟩
/-- slots forgotten -/
theorem GhS.forget {n : Nat} {δ' : AD} (l : n ≤ κ.length) (hl : δ'.length = δ.length) (h : ∀ (i : Nat) (a : AV), δ'[i]? = some (some a) → δ[i]? = some (some a)) : GhS K n δ κ δ' κ :=
  ⟨l, fun B ρ σ H s g => ⟨B, ρ, UpN.refl, ⟨hl.trans s.len, fun i a e => s.at' i a (h i a e)⟩, g⟩⟩
/-- c k is the datum x from now on -/
def fzA (k : Nat) (x : PyData) : AV → AV
  | .c j => if j = k then .d x else .c j
  | a => a
theorem Rep.fz {q : PyData} (u : Ug B ρ B' ρ) (hk : ∀ p, ρ[k]? = some p → Dp K B' (.ref p) q) {a : AV} {v : V} (r : Rep K B ρ a v) : Rep K B' ρ (fzA k q a) v := by
  cases a with
  | d x => exact Rep.up u r
  | r w => exact r
  | c j =>
    show Rep K B' ρ (if j = k then .d q else .c j) v
    by_cases e : j = k
    · rw [if_pos e]
      obtain ⟨p, hp, rfl⟩ := r
      subst e
      exact hk p hp
    · rw [if_neg e]
      exact Rep.up u r
def fzC (k : Nat) (x : PyData) : Cell → Cell
  | .lst xs => .lst (xs.map (fzA k x))
  | .tup xs => .tup (xs.map (fzA k x))
  | .ins C fs => .ins C (fs.map fun p => (p.1, fzA k x p.2))
  | c => c
theorem Reps.fz {q : PyData} (u : Ug B ρ B' ρ) (hk : ∀ p, ρ[k]? = some p → Dp K B' (.ref p) q) : ∀ {as : List AV} {vs : List V}, Reps K B ρ as vs → Reps K B' ρ (as.map (fzA k q)) vs
  | _, _, .nil => .nil
  | _, _, .cons h1 h2 => .cons (h1.fz u hk) (Reps.fz u hk h2)
theorem RepKs.fz {ι : Type} {q : PyData} (u : Ug B ρ B' ρ) (hk : ∀ p, ρ[k]? = some p → Dp K B' (.ref p) q) : ∀ {as : List (ι × AV)} {vs : List (ι × V)}, RepKs K B ρ as vs → RepKs K B' ρ (as.map fun p => (p.1, fzA k q p.2)) vs
  | _, _, .nil => .nil
  | _, _, .cons h1 h2 => .cons ⟨h1.1, h1.2.fz u hk⟩ (RepKs.fz u hk h2)
/-- the list at k is frozen -/
theorem freeze_core (g : G K B ρ κ H) {xs : List PyData} (ek : κ[k]? = some (.ld xs)) : ∃ B' p, ρ[k]? = some p ∧ Up B ρ H B' ρ H ∧ Dp K B' (.ref p) (.list xs) ∧ G K B' ρ ((κ.set k .dead).map (fzC k (.list xs))) H := by
  obtain ⟨p, hp, hb, vs, d, eH⟩ := g.cell ek
  have hsame : Same B (upd B p (.lst vs)) := same_upd hb
  have hB : (upd B p (.lst vs)) p = some (.lst vs) := upd_same
  have u : Up B ρ H (upd B p (.lst vs)) ρ H := ⟨hsame, fun _ _ h => h, fun q o h1 h2 h3 => by
    have hq : q ≠ p := fun e => h3 (e ▸ mem_of_get hp)
    rw [upd_ne hq]; exact ⟨h1, h2, h3⟩⟩
  have dd : Dp K (upd B p (.lst vs)) (.ref p) (.list xs) := .lst (.inl (.inl hB)) (dpa_up hsame _ _ d)
  have hk : ∀ q, ρ[k]? = some q → Dp K (upd B p (.lst vs)) (.ref q) (.list xs) := fun q hq => by rw [hp] at hq; cases hq; exact dd
  refine ⟨_, p, hp, u, dd, ⟨fun b o e => ?_, by simp [g.len], g.inj, fun i q c h1 h2 => ?_⟩⟩
  · by_cases hbp : b = p
    · subst hbp; rw [upd_same] at e; rw [eH]; exact e
    · rw [upd_ne hbp] at e; exact g.ex b o e
  · rw [List.getElem?_map] at h2
    by_cases e : k = i
    · subst e
      rw [hp] at h1; cases h1
      rw [List.getElem?_set_self (List.getElem?_eq_some_iff.mp ek).1] at h2
      cases h2
      show H p ≠ none
      rw [eH]; simp
    · rw [List.getElem?_set_ne e] at h2
      have hq : q ≠ p := fun z => by subst z; exact e (g.inj k i q hp h1)
      obtain ⟨c0, hc0, rfl⟩ := Option.map_eq_some_iff.mp h2
      have ok := g.at' i q c0 h1 hc0
      have hbq : ∀ {z}, B q = z → upd B p (.lst vs) q = z := fun h => by rw [upd_ne hq]; exact h
      cases c0 with
      | dead => exact ok
      | ld ys => obtain ⟨n, ws, r, e⟩ := ok; exact ⟨hbq n, ws, dpa_up hsame _ _ r, e⟩
      | lst ys => obtain ⟨n, ws, r, e⟩ := ok; exact ⟨hbq n, ws, Reps.fz u.g hk r, e⟩
      | tup ys => obtain ⟨n, ws, r, e⟩ := ok; exact ⟨hbq n, ws, Reps.fz u.g hk r, e⟩
      | dK ys => obtain ⟨n, ws, r, e⟩ := ok; exact ⟨hbq n, ws, DpKs.up hsame r, e⟩
      | dT ys => obtain ⟨n, ws, r, e⟩ := ok; exact ⟨hbq n, ws, DpKs.up hsame r, e⟩
      | ins C ys => obtain ⟨n, dx, ws, r, e⟩ := ok; exact ⟨hbq n, dx, ws, RepKs.fz u.g hk r, e⟩
theorem GhS.freeze {n : Nat} (l : n ≤ κ.length) (k : Nat) (xs : List PyData) (ek : κ[k]? = some (.ld xs)) : GhS K n δ κ (δ.map (Option.map (fzA k (.list xs)))) ((κ.set k .dead).map (fzC k (.list xs))) := by
  refine ⟨by simpa using l, fun B ρ σ H s g => ?_⟩
  obtain ⟨B', p, hp, u, dd, g'⟩ := freeze_core g ek
  refine ⟨B', ρ, u.n, ⟨by simpa using s.len, fun i a e => ?_⟩, g'⟩
  rw [List.getElem?_map] at e
  obtain ⟨o, ho, e⟩ := Option.map_eq_some_iff.mp e
  obtain ⟨a0, rfl, rfl⟩ := Option.map_eq_some_iff.mp e
  obtain ⟨v, e1, r⟩ := s.at' i a0 ho
  exact ⟨v, e1, r.fz u.g fun q hq => by rw [hp] at hq; cases hq; exact dd⟩
/-- references below n -/
def okA (n : Nat) : AV → Bool
  | .c k => decide (k < n)
  | _ => true
def okC (n : Nat) : Cell → Bool
  | .lst xs => xs.all (okA n)
  | .tup xs => xs.all (okA n)
  | .ins _ fs => fs.all fun p => okA n p.2
  | _ => true
theorem Rep.cut {m : Nat} (h : okA m a = true) (r : Rep K B ρ a v) : Rep K B (ρ.take m) a v := by
  cases a with
  | d x => exact r
  | r w => exact r
  | c j =>
    obtain ⟨p, hp, e⟩ := r
    have hj : j < m := of_decide_eq_true h
    exact ⟨p, by rw [List.getElem?_take_of_lt hj]; exact hp, e⟩
theorem Reps.cutR {m : Nat} : ∀ {as : List AV} {vs : List V}, as.all (okA m) = true → Reps K B ρ as vs → Reps K B (ρ.take m) as vs
  | _, _, _, .nil => .nil
  | _, _, h, .cons h1 h2 => by
    rw [List.all_cons, Bool.and_eq_true] at h
    exact .cons (h1.cut h.1) (Reps.cutR h.2 h2)
theorem RepKs.cutR {ι : Type} {m : Nat} : ∀ {as : List (ι × AV)} {vs : List (ι × V)}, (as.all fun p => okA m p.2) = true → RepKs K B ρ as vs → RepKs K B (ρ.take m) as vs
  | _, _, _, .nil => .nil
  | _, _, h, .cons h1 h2 => by
    rw [List.all_cons, Bool.and_eq_true] at h
    exact .cons ⟨h1.1, h1.2.cut h.1⟩ (RepKs.cutR h.2 h2)
theorem G.take (g : G K B ρ κ H) (m : Nat) (h : (κ.take m).all (okC m) = true) : G K B (ρ.take m) (κ.take m) H := by
  refine ⟨g.ex, by rw [List.length_take, List.length_take, g.len], fun i j p h1 h2 => ?_, fun i p c h1 h2 => ?_⟩
  · have e1 : ρ[i]? = some p := by
      have := (List.getElem?_eq_some_iff.mp h1).1
      rw [List.length_take] at this
      rw [List.getElem?_take_of_lt (by omega)] at h1; exact h1
    have e2 : ρ[j]? = some p := by
      have := (List.getElem?_eq_some_iff.mp h2).1
      rw [List.length_take] at this
      rw [List.getElem?_take_of_lt (by omega)] at h2; exact h2
    exact g.inj i j p e1 e2
  · have hi : i < m := by
      have := (List.getElem?_eq_some_iff.mp h1).1
      rw [List.length_take] at this; omega
    have hc : okC m c = true := List.all_eq_true.mp h c (mem_of_get h2)
    rw [List.getElem?_take_of_lt hi] at h1 h2
    have ok := g.at' i p c h1 h2
    cases c with
    | dead => exact ok
    | ld ys => exact ok
    | lst ys => obtain ⟨n, ws, r, e⟩ := ok; exact ⟨n, ws, Reps.cutR hc r, e⟩
    | tup ys => obtain ⟨n, ws, r, e⟩ := ok; exact ⟨n, ws, Reps.cutR hc r, e⟩
    | dK ys => exact ok
    | dT ys => exact ok
    | ins C ys => obtain ⟨n, dx, ws, r, e⟩ := ok; exact ⟨n, dx, ws, RepKs.cutR hc r, e⟩
theorem UpN.take {n m : Nat} (h : n ≤ m) : UpN n B ρ H B (ρ.take m) H := ⟨Same.refl B, fun i a hi e => by rw [List.getElem?_take_of_lt (Nat.lt_of_lt_of_le hi h)]; exact e, fun p o h1 h2 h3 => ⟨h1, h2, fun z => h3 (List.mem_of_mem_take z)⟩⟩
def okD (n : Nat) (δ : AD) : Bool := δ.all fun o => match o with
  | some a => okA n a
  | none => true
/-- the cells from m on are forgotten -/
theorem GhS.take {n : Nat} (m : Nat) (l : n ≤ m) (l2 : m ≤ κ.length) (h : (κ.take m).all (okC m) = true) (hd : okD m δ = true) : GhS K n δ κ δ (κ.take m) := by
  refine ⟨by rw [List.length_take]; omega, fun B ρ σ H s g => ⟨B, ρ.take m, UpN.take l, ⟨s.len, fun i a e => ?_⟩, g.take m h⟩⟩
  obtain ⟨v, e1, r⟩ := s.at' i a e
  have := List.all_eq_true.mp hd (some a) (mem_of_get e)
  exact ⟨v, e1, r.cut this⟩
/-- of a value -/
def GhR (K : PySem.W.Frag) (n : Nat) (a : AV) (κ : AK) (a' : AV) (κ' : AK) : Prop := n ≤ κ'.length ∧ ∀ B ρ H v, G K B ρ κ H → Rep K B ρ a v → ∃ B' ρ', UpN n B ρ H B' ρ' H ∧ Rep K B' ρ' a' v ∧ G K B' ρ' κ' H
theorem GhR.refl {n : Nat} (l : n ≤ κ.length) : GhR K n a κ a κ := ⟨l, fun B ρ H v g r => ⟨B, ρ, UpN.refl, r, g⟩⟩
theorem GhR.trans {n : Nat} {a' a2 : AV} {κ' κ2 : AK} (x : GhR K n a κ a' κ') (y : GhR K n a' κ' a2 κ2) : GhR K n a κ a2 κ2 := ⟨y.1, fun B ρ H v g r => by
  obtain ⟨B', ρ', w, s', g'⟩ := x.2 B ρ H v g r
  obtain ⟨B2, ρ2, w2, s2, g2⟩ := y.2 B' ρ' H v g' s'
  exact ⟨B2, ρ2, w.trans w2, s2, g2⟩⟩
theorem GhR.freeze {n : Nat} (l : n ≤ κ.length) (k : Nat) (xs : List PyData) (ek : κ[k]? = some (.ld xs)) : GhR K n a κ (fzA k (.list xs) a) ((κ.set k .dead).map (fzC k (.list xs))) := by
  refine ⟨by simpa using l, fun B ρ H v g r => ?_⟩
  obtain ⟨B', p, hp, u, dd, g'⟩ := freeze_core g ek
  exact ⟨B', ρ, u.n, r.fz u.g fun q hq => by rw [hp] at hq; cases hq; exact dd, g'⟩
theorem GhR.take {n : Nat} (m : Nat) (l : n ≤ m) (l2 : m ≤ κ.length) (h : (κ.take m).all (okC m) = true) (hd : okA m a = true) : GhR K n a κ a (κ.take m) :=
  ⟨by rw [List.length_take]; omega, fun B ρ H v g r => ⟨B, ρ.take m, UpN.take l, r.cut hd, g.take m h⟩⟩
end Ab
set_option Elab.async false
set_option linter.all false
set_option maxRecDepth 100000
set_option maxHeartbeats 4000000
/-! Ab5: targets, what is walked, loops, comprehensions -/
namespace Ab
open PySem L2
variable {K : PySem.W.Frag} {B B' B2 H H' H2 : Hp} {ρ ρ' ρ2 : List Addr} {κ κ' : AK} {δ : AD} {σ : L2.St} {p : Addr} {k : Nat} {v x y z : V} {a b c : AV}
variable {X : Cx} {e e2 : Expr} {t u : TE} {f f2 : AE} {pos : Pos}

/-! ### targets -/
abbrev AG := AV → AD → AK → (AD → AK → Prop) → Prop
abbrev AGs := List AV → AD → AK → (AD → AK → Prop) → Prop
def SG (K : PySem.W.Frag) (t : TG) (g : AG) : Prop := ∀ B ρ δ κ σ H a v (R : AD → AK → Prop) (Q : L2.St → Hp → Prop), S K B ρ δ σ → G K B ρ κ H → Rep K B ρ a v → g a δ κ R →
  (∀ B' ρ' δ' κ' σ' H', Up B ρ H B' ρ' H' → S K B' ρ' δ' σ' → G K B' ρ' κ' H' → R δ' κ' → Q σ' H') → t v σ H Q
def SGs (K : PySem.W.Frag) (t : TGs) (g : AGs) : Prop := ∀ B ρ δ κ σ H as vs (R : AD → AK → Prop) (Q : L2.St → Hp → Prop), S K B ρ δ σ → G K B ρ κ H → Reps K B ρ as vs → g as δ κ R →
  (∀ B' ρ' δ' κ' σ' H', Up B ρ H B' ρ' H' → S K B' ρ' δ' σ' → G K B' ρ' κ' H' → R δ' κ' → Q σ' H') → t vs σ H Q
structure PGa (K : PySem.W.Frag) (X : Cx) (tg : Expr) (t : TG) (g : AG) : Prop where
  pg : PG X tg t
  sd : SG K t g
structure PGsa (K : PySem.W.Frag) (X : Cx) (tgs : List Expr) (t : TGs) (g : AGs) : Prop where
  pg : PGs X tgs t
  sd : SGs K t g
def aName (i : Nat) : AG := fun a δ κ R => R (δ.set i (some a)) κ
def aGNil : AGs := fun as δ κ R => match as with
  | [] => R δ κ
  | _ => False
def aGCons (g : AG) (gs : AGs) : AGs := fun as δ κ R => match as with
  | a :: r => g a δ κ fun δ' κ' => gs r δ' κ' R
  | [] => False
/-- a tuple is taken apart -/
def aGTup (n : Nat) (gs : AGs) : AG := fun a δ κ R => match a with
  | .d (.tuple ds) => ds.length = n ∧ gs (ds.map .d) δ κ R
  | .c k => match κ[k]? with
    | some (.tup xs) => xs.length = n ∧ gs xs δ κ R
    | _ => False
  | _ => False
theorem ga_name {i : Nat} {x : Str} (hN : X.N.Nodup) (hi : X.N[i]? = some x) (hx : Loc X.env.scope x) (hf : X.fn x = true ∨ X.env.scope.names.lookup x = some .local := by first | exact .inl rfl | exact .inr rfl | assumption) : PGa K X (.Name x pos) (gName i) (aName i) :=
  ⟨pg_name hN hi hx hf, fun B ρ δ κ σ H a v R Q s g r h q => q _ _ _ _ _ _ Up.refl (s.set r) g h⟩
variable {es : List Expr} {tg : TG} {tgs : TGs} {ag : AG} {ags : AGs}
theorem gsa_nil : PGsa K X [] gNil aGNil := ⟨pgs_nil, fun B ρ δ κ σ H as vs R Q s g r h q => by
  unfold aGNil at h
  split at h
  · cases r; exact ⟨rfl, q _ _ _ _ _ _ Up.refl s g h⟩
  · exact h.elim⟩
theorem gsa_cons (h1 : PGa K X e tg ag) (h2 : PGsa K X es tgs ags) (hs : (assignEach (e :: es) X.env).map (·.2) = assign e X.env :: (assignEach es X.env).map (·.2) := by rfl) : PGsa K X (e :: es) (gCons tg tgs) (aGCons ag ags) :=
  ⟨pgs_cons h1.pg h2.pg hs, fun B ρ δ κ σ H as vs R Q s g r h q => by
    unfold aGCons at h
    split at h
    · cases r with
      | cons r1 r2 =>
        exact ⟨_, _, rfl, h1.sd _ _ _ _ _ _ _ _ _ _ s g r1 h fun B' ρ' δ' κ' σ' H' w s' g' h' => h2.sd _ _ _ _ _ _ _ _ _ _ s' g' (Reps.up w.g r2) h' fun _ _ _ _ _ _ w2 s2 g2 k2 => q _ _ _ _ _ _ (w.trans w2) s2 g2 k2⟩
    · exact h.elim⟩
theorem ga_tup {kk : Nat} {n : Nat} (hc : X.calm = true) (h : PGsa K X es tgs ags) (hn : (assignEach es X.env).length = n := by rfl) (hst : (assignEach es X.env).findIdx? (·.1) = none := by rfl) (hK : X.K = K := by rfl) : PGa K X (.Tuple es kk pos) (gTup K n tgs) (aGTup n ags) := by
  subst hK
  exact ⟨pg_tup hc h.pg hn hst, fun B ρ δ κ σ H a v R Q s g r hh q => by
    unfold aGTup at hh
    split at hh
    · obtain ⟨p, vs, rfl, s1, d1⟩ := of_tupG g r
      exact ⟨p, vs, rfl, s1, by rw [dpa_len d1]; exact hh.1, h.sd _ _ _ _ _ _ _ _ _ _ s g (Reps.all d1) hh.2 q⟩
    · obtain ⟨p, hp, rfl⟩ := r
      split at hh
      · rename_i xs ek
        obtain ⟨p', hp', _, vs, r, eH⟩ := g.cell ek
        rw [hp] at hp'; cases hp'
        exact ⟨p, vs, rfl, .inl (.inl eH), by rw [← r.len]; exact hh.1, h.sd _ _ _ _ _ _ _ _ _ _ s g r hh.2 q⟩
      · exact hh.elim
    · exact hh.elim⟩
/-- o[i] = v -/
abbrev ASet := AV → AV → AV → AK → (AK → Prop) → Prop
def SSet (K : PySem.W.Frag) (t : TSet) (f : ASet) : Prop := ∀ B ρ κ H o i v ao ai a (R : AK → Prop) (Q : Hp → Prop), G K B ρ κ H → Rep K B ρ ao o → Rep K B ρ ai i → Rep K B ρ a v → f ao ai a κ R →
  (∀ B' ρ' κ' H', Up B ρ H B' ρ' H' → G K B' ρ' κ' H' → R κ' → Q H') → t o i v H Q
structure SetA (K : PySem.W.Frag) (X : Cx) (t : TSet) (f : ASet) : Prop where
  s : PSet X t
  sd : SSet K t f
def aGSub (fo fi : AE) (fs : ASet) : AG := fun a δ κ R => fo δ κ fun o κ1 => fi δ κ1 fun i κ2 => fs o i a κ2 fun κ3 => R δ κ3
theorem ga_sub {o i : Expr} {to ti : TE} {ts : TSet} {fo fi : AE} {fs : ASet} (ho : PEa K X o to fo) (hi : PEa K X i ti fi) (hs : SetA K X ts fs)
    (ha : ∀ v, assign (.Subscript o i pos) X.env v = (do
      let ov ← holding [v] (eval o X.env)
      let iv ← holding [v, ov] (eval i X.env)
      standAt pos
      holding [v, ov, iv] (setItem ov iv v)
      release [v, ov, iv] []) := by intro _; rfl) : PGa K X (.Subscript o i pos) (gSub to ti ts) (aGSub fo fi fs) :=
  ⟨pg_sub ho.pe hi.pe hs.s ha, fun B ρ δ κ σ H a v R Q s g r h q => ho.sd _ _ _ _ _ _ _ _ s g h fun B1 ρ1 κ1 H1 ao vo w1 g1 r1 h1 => hi.sd _ _ _ _ _ _ _ _ (s.up w1.g) g1 h1 fun B2 ρ2 κ2 H2 ai vi w2 g2 r2 h2 =>
    hs.sd _ _ _ _ _ _ _ _ _ _ _ _ g2 (r1.up w2.g) r2 (r.up (w1.trans w2).g) h2 fun B3 ρ3 κ3 H3 w3 g3 h3 => q _ _ _ _ _ _ ((w1.trans w2).trans w3) (s.up ((w1.trans w2).trans w3).g) g3 h3⟩
def aSetL : ASet := fun o i a κ R => match o, i with
  | .c k, .d (.int i) => match κ[k]?, a with
    | some (.ld xs), .d x => ∃ j, ixN xs.length i = some j ∧ R (κ.set k (.ld (xs.set j x)))
    | some (.lst xs), a => ∃ j, ixN xs.length i = some j ∧ R (κ.set k (.lst (xs.set j a)))
    | _, _ => False
  | _, _ => False
theorem dpa_set : ∀ {ds : List PyData} {vs : List V} (i : Nat) {d : PyData} {v : V}, DpAll K B vs ds → Dp K B v d → DpAll K B (vs.set i v) (ds.set i d)
  | [], _, _, _, _, h, _ => by cases h; exact .nil
  | d :: ds, _, i, _, _, h, r => by
    cases h with
    | cons h1 h2 =>
      cases i with
      | zero => exact .cons r h2
      | succ i => exact .cons h1 (dpa_set i h2 r)
theorem sta_list : SetA K X rSetL aSetL := ⟨set_list, fun B ρ κ H o i v ao ai a R Q g ro ri rv h q => by
  unfold aSetL at h
  split at h
  · obtain ⟨p, hp, rfl⟩ := ro
    cases ri.int
    split at h
    · rename_i xs x ek
      obtain ⟨j, hj, h⟩ := h
      obtain ⟨vs, r, eH, wr⟩ := g.ldAt hp ek
      obtain ⟨w, g'⟩ := wr _ _ (dpa_set j r rv)
      exact ⟨p, vs, _, j, rfl, rfl, eH, by rw [dpa_len r]; exact hj, q _ _ _ _ w g' h⟩
    · rename_i xs a ek
      obtain ⟨j, hj, h⟩ := h
      obtain ⟨vs, r, eH, wr⟩ := g.lstAt hp ek
      obtain ⟨w, g'⟩ := wr _ _ (r.set j rv)
      exact ⟨p, vs, _, j, rfl, rfl, eH, by rw [← r.len]; exact hj, q _ _ _ _ w g' h⟩
    · exact h.elim
  · exact h.elim⟩

/-! ### assignments -/
def aAsg (f : AE) (g : AG) : AS := fun A δ κ => f δ κ fun a κ1 => g a δ κ1 A.nx
abbrev aSet (i : Nat) (f : AE) : AS := aAsg f (aName i)
theorem ss_asg (h : SE K t f) (hg : SG K tg ag) : SS K (tAsg t tg) (aAsg f ag) := fun B ρ δ κ σ H A D s g l hh i => h B ρ δ κ σ H _ _ s g hh fun B1 ρ1 κ1 H1 a v w1 g1 r1 h1 =>
  hg _ _ _ _ _ _ _ _ _ _ (s.up w1.g) g1 r1 h1 fun B2 ρ2 δ2 κ2 σ2 H2 w2 s2 g2 h2 => i.nx _ _ _ _ _ _ (w1.trans w2).n g2 s2 (Nat.le_trans l ((w1.trans w2).len g g2)) h2
theorem sa_asg {tge : Expr} (h : PEa K X e t f) (hg : PGa K X tge tg ag) (hs : swapsWithSole [tge] e pos.line X.env = pure false := by rfl) (hw : swappedStores [tge] e X.env = pure none := by rfl)
    (h1 : (assignEach [tge] X.env).map (·.2) = [assign tge X.env] := by rfl) : PSa K X (.Assign [tge] e pos) (tAsg t tg) (aAsg f ag) := ⟨ps_asg h.pe hg.pg hs hw h1, ss_asg h.sd hg.sd⟩
theorem sg_name {i : Nat} : SG K (gName i) (aName i) := fun B ρ δ κ σ H a v R Q s g r h q => q _ _ _ _ _ _ Up.refl (s.set r) g h
theorem sa_set {i : Nat} {x : Str} {pos' : Pos} (hN : X.N.Nodup) (hi : X.N[i]? = some x) (hx : Loc X.env.scope x) (h : PEa K X e t f) (hs : swapsWith e (some (.Name x pos')) pos.line X.env = pure false := by rfl) (hf : X.fn x = true ∨ X.env.scope.names.lookup x = some .local := by first | exact .inl rfl | exact .inr rfl | assumption) :
    PSa K X (.Assign [.Name x pos'] e pos) (tAsg t (gName i)) (aSet i f) := ⟨ps_set hN hi hx h.pe hs hf, ss_asg h.sd sg_name⟩
/-- x += e -/
def aAug (i : Nat) (f : AE) (o : AO) : AS := fun A δ κ => match δ[i]? with
  | some (some a) => f δ κ fun b κ1 => o a b κ1 fun c κ2 => A.nx (δ.set i (some c)) κ2
  | _ => False
theorem sa_aug {i : Nat} {x : Str} {pos' : Pos} {op : Operator} {ti : TIp} {o : AO} (hN : X.N.Nodup) (hi : X.N[i]? = some x) (hx : Loc X.env.scope x) (h : PEa K X e t f) (ho : PIp X op ti) (hs : SR K ti o)
    (hf : X.fn x = true ∨ X.env.scope.names.lookup x = some .local := by first | exact .inl rfl | exact .inr rfl | assumption) : PSa K X (.AugAssign (.Name x pos') op e pos) (tAug i t ti) (aAug i f o) :=
  ⟨ps_aug hN hi hx h.pe ho hf, fun B ρ δ κ σ H A D s g l hh im => by
    unfold aAug at hh
    split at hh
    · rename_i a ea
      obtain ⟨v, ev, r⟩ := s.at' i a ea
      refine ⟨v, ev, h.sd B ρ δ κ σ H _ _ s g hh fun B1 ρ1 κ1 H1 b vb w1 g1 r1 h1 => ?_⟩
      refine hs _ _ _ _ _ _ _ _ _ _ g1 (r.up w1.g) r1 h1 fun B2 ρ2 κ2 H2 c vc w2 g2 r2 h2 => ?_
      exact im.nx _ _ _ _ _ _ (w1.trans w2).n g2 ((s.up (w1.trans w2).g).set r2) (Nat.le_trans l ((w1.trans w2).len g g2)) h2
    · exact hh.elim⟩
theorem sr_ipI {f : Int → Int → Int} : SR K (ipI f) (aI0 f) := sr_I0
theorem sa_inc {i : Nat} {x : Str} {pos' : Pos} (hN : X.N.Nodup) (hi : X.N[i]? = some x) (hx : Loc X.env.scope x) (h : PEa K X e t f)
    (hf : X.fn x = true ∨ X.env.scope.names.lookup x = some .local := by first | exact .inl rfl | exact .inr rfl | assumption) : PSa K X (.AugAssign (.Name x pos') .Add e pos) (tAug i t (ipI fun i j => i + j)) (aAug i f (aI0 fun i j => i + j)) := sa_aug hN hi hx h ip_add sr_ipI hf

/-! ### while -/
variable {t1 t2 : TS} {f1 g1 : AS} {tc : TT} {pc : AT}
def aWhile (p : AT) (f : AS) : AS := fun A δ κ => ∃ W : Nat → AD → AK → Prop, (∃ m, W m δ κ) ∧ ∀ m δ' κ', W m δ' κ' → κ.length ≤ κ'.length →
  p δ' κ' fun b κ1 => bsel b (∃ N : AD → AK → Prop, (∀ δ2 κ2, N δ2 κ2 → ∃ m', m' < m ∧ W m' δ2 κ2) ∧ f { n := κ.length, nx := N, ct := N, bk := A.nx, rt := A.rt } δ' κ1) (A.nx δ' κ1)
/-- a later state, seen from the loop's start -/
def Later (K : PySem.W.Frag) (B : Hp) (ρ : List Addr) (H : Hp) (n : Nat) (P : AD → AK → Prop) (σ : L2.St) (H' : Hp) : Prop := ∃ B' ρ' δ' κ', UpN n B ρ H B' ρ' H' ∧ S K B' ρ' δ' σ ∧ G K B' ρ' κ' H' ∧ n ≤ κ'.length ∧ P δ' κ'
theorem UpN.mono {n m : Nat} (w : UpN m B ρ H B' ρ' H') (h : n ≤ m) : UpN n B ρ H B' ρ' H' := ⟨w.s, fun i a hi e => w.p i a (Nat.lt_of_lt_of_le hi h) e, w.f⟩
theorem sa_while {c : Expr} {body : List Stmt} (hp : PassesOwn (model X.prog X.w) X.A X.env X.xe) (hc : PTa K X c tc pc) (hb : PSsa K X body t1 f1) : PSa K X (.While c body [] pos) (tWhile tc t1) (aWhile pc f1) :=
  ⟨ps_while hp hc.pt hb.ps, fun B ρ δ κ σ H A D s g l ⟨W, ⟨m0, w0⟩, turn⟩ im => by
    refine ⟨fun m σ' H' => Later K B ρ H κ.length (W m) σ' H', ⟨m0, B, ρ, δ, κ, UpN.refl, s, g, Nat.le_refl _, w0⟩, fun m σ' H' hW => ?_⟩
    obtain ⟨B1, ρ1, δ1, κ1, w1, s1, g1, l1, hw⟩ := hW
    refine hc.sd B1 ρ1 δ1 κ1 σ' H' _ _ s1 g1 (turn m δ1 κ1 hw l1) fun B2 ρ2 κ2 H2 b w2 g2 h2 => ?_
    have l2 : κ.length ≤ κ2.length := Nat.le_trans l1 (w2.len g1 g2)
    have w12 : UpN κ.length B ρ H B2 ρ2 H2 := w1.trans w2.n
    have im2 := im.later (w12.mono l)
    cases b with
    | false => exact iteF (im.nx _ _ _ _ _ _ (w12.mono l) g2 (s1.up w2.g) (Nat.le_trans l l2) h2)
    | true =>
      obtain ⟨N, hN, h2⟩ := h2
      refine iteT ⟨fun σ3 H3 => Later K B ρ H κ.length N σ3 H3, ?_, ?_⟩
      · rintro σ3 H3 ⟨B3, ρ3, δ3, κ3, w3, s3, g3, l3, hn⟩
        obtain ⟨m', hm, hw'⟩ := hN _ _ hn
        exact ⟨m', hm, B3, ρ3, δ3, κ3, w3, s3, g3, l3, hw'⟩
      · refine hb.sd B2 ρ2 δ1 κ2 σ' H2 _ _ (s1.up w2.g) g2 l2 h2 ⟨?_, ?_, ?_, ?_⟩
        · exact fun B3 ρ3 κ3 H3 δ3 σ3 w3 g3 s3 l3 h3 => ⟨B3, ρ3, δ3, κ3, w12.trans w3, s3, g3, l3, h3⟩
        · exact fun B3 ρ3 κ3 H3 a v w3 g3 r3 l3 h3 => im.rt _ _ _ _ _ _ ((w12.trans w3).mono l) g3 r3 (Nat.le_trans l l3) h3
        · exact fun B3 ρ3 κ3 H3 δ3 σ3 w3 g3 s3 l3 h3 => im.nx _ _ _ _ _ _ ((w12.trans w3).mono l) g3 s3 (Nat.le_trans l l3) h3
        · exact fun B3 ρ3 κ3 H3 δ3 σ3 w3 g3 s3 l3 h3 => ⟨B3, ρ3, δ3, κ3, w12.trans w3, s3, g3, l3, h3⟩⟩

/-! ### what is walked -/
structure AIt where
  go : Nat → AK → Prop
  yld : Nat → AK → AV → Prop
  stop : Nat → AK → Prop
def RI (K : PySem.W.Frag) (B : Hp) (ρ : List Addr) (H : Hp) (J : It) (Ja : AIt) : Prop := ∀ B2 ρ2 κ2 H2, Up B ρ H B2 ρ2 H2 → G K B2 ρ2 κ2 H2 → ∀ i, (Ja.stop i κ2 → J.stop i H2) ∧
  (Ja.go i κ2 → J.go i H2 ∧ ∀ x H3, J.yld i H2 x H3 → ∃ B3 a, Up B2 ρ2 H2 B3 ρ2 H3 ∧ G K B3 ρ2 κ2 H3 ∧ Rep K B3 ρ2 a x ∧ Ja.yld i κ2 a)
abbrev AI := AD → AK → (AIt → AK → Prop) → Prop
def SI (K : PySem.W.Frag) (wi : TI) (ai : AI) : Prop := ∀ B ρ δ κ σ H (R : AIt → AK → Prop) (Q : It → Hp → Prop), S K B ρ δ σ → G K B ρ κ H → ai δ κ R →
  (∀ B' ρ' κ' H' J Ja, Up B ρ H B' ρ' H' → G K B' ρ' κ' H' → RI K B' ρ' H' J Ja → R Ja κ' → Q J H') → wi σ H Q
structure PIa (K : PySem.W.Frag) (X : Cx) (tg iter : Expr) (wi : TI) (ai : AI) : Prop where
  pi : PI X tg iter wi
  sd : SI K wi ai
/-- known items -/
def itD (xs : List PyData) : AIt := ⟨fun i _ => i < xs.length, fun i _ a => ∃ x, xs[i]? = some x ∧ a = .d x, fun i _ => xs.length ≤ i⟩
/-- the list at k, as it stands at each turn -/
def itC (k : Nat) : AIt := ⟨fun i κ => ∃ xs, κ[k]? = some (.ld xs) ∧ i < xs.length, fun i κ a => ∃ xs x, κ[k]? = some (.ld xs) ∧ xs[i]? = some x ∧ a = .d x, fun i κ => ∃ xs, κ[k]? = some (.ld xs) ∧ xs.length ≤ i⟩
def itR (lo : Int) (n : Nat) : AIt := ⟨fun i _ => i < n, fun i _ a => a = .d (.int (lo + i)), fun i _ => n ≤ i⟩
def itS (s : Str) : AIt := ⟨fun i _ => i < s.cps.size, fun i _ a => ∃ c, s.cps[i]? = some c ∧ a = .d (.str ⟨#[c]⟩), fun i _ => s.cps.size ≤ i⟩
def aIter (f : AE) : AI := fun δ κ R => f δ κ fun a κ1 => match a with
  | .d (.list xs) => R (itD xs) κ1
  | .d (.tuple xs) => R (itD xs) κ1
  | .d (.str s) => R (itS s) κ1
  | .c k => match κ1[k]? with
    | some (.ld _) => R (itC k) κ1
    | _ => False
  | _ => False
/-- a list, a tuple, a text: told by the value -/
def iAny (K : PySem.W.Frag) (tl : TE) : TI := fun σ H R => tl σ H fun w H1 =>
  (∃ a, w = .ref a ∧ (∃ ys, SqL K H1 a ys) ∧ R (Itl K a) H1) ∨ (∃ a, w = .ref a ∧ (∃ ys, SqT K H1 a ys) ∧ R (Itt K a) H1) ∨ ∃ z, w = .str z ∧ R (Its z) H1
theorem fresh_in {X : Cx} {pins : List (Addr × Obj)} {τ : L2.St} {H1 : Hp} {s1 : Shared} (I1 : Inv X pins τ H1 s1) {b : Addr} (hb : b ∈ [s1.heap.objs.size]) : FpOk X pins H1 b := by
  rcases List.mem_singleton.mp hb with rfl
  exact I1.fpOk Nat.le.refl (I1.hok.fresh Nat.le.refl)
theorem pi_any {X : Cx} {tge l : Expr} {tl : TE} (hl : PE X l tl) : PI X tge l (iAny X.K tl) := by
  constructor
  intro pins s τ H R I hw
  refine thn (hl.run pins s τ H _ I hw) ?_
  rintro u s1 ⟨w, H1, I1, ru, hq⟩
  rcases hq with ⟨a, rfl, ⟨ys, hy⟩, q⟩ | ⟨a, rfl, ⟨ys, hy⟩, q⟩ | ⟨z, rfl, q⟩
  · cases ru
    have ⟨its, _, pl, _⟩ := I1.list hy
    exact wpAny_pyIter_list pl.isList ⟨_, [s1.heap.objs.size], _, _, _, rfl, I1.kept fun _ _ => Heap.get?_push_of_some _, turn_list a _, ⟨_, Heap.get?_push_size _ rfl, rfl, rfl⟩, fun _ => fresh_in I1, q⟩
  · cases ru
    have ⟨its, _, pt, _⟩ := I1.tuple hy
    exact wpAny_pyIter_tuple pt ⟨_, [s1.heap.objs.size], _, _, _, rfl, I1.kept fun _ _ => Heap.get?_push_of_some _, turn_tuple a _, ⟨_, Heap.get?_push_size _ rfl, rfl, rfl⟩, fun _ => fresh_in I1, q⟩
  · obtain ⟨tk, rfl⟩ := ru
    by_cases hz : z.cps.all (· < 128) = true
    · exact wpAny_pyIter_ascii hz (pi_one (tk := s1.toks) I1 _ (turn_str _ z tk "str_ascii_iterator" (Or.inl rfl)) ⟨_, Heap.get?_push_size _ rfl, rfl, rfl⟩ q)
    · have hz' : z.cps.all (· < 128) = false := by simpa using hz
      exact wpAny_pyIter_wide hz' (pi_one (tk := s1.toks) I1 _ (turn_str _ z tk "str_iterator" (Or.inr rfl)) ⟨_, Heap.get?_push_size _ rfl, rfl, rfl⟩ q)
theorem getLt {α : Type} {l : List α} {i : Nat} (h : i < l.length) : l[i]? = some l[i] := List.getElem?_eq_getElem h
theorem ri_list {xs : List PyData} {p : Addr} {vs : List V} (hs : SqL K B p vs) (d : DpAll K B vs xs) : RI K B ρ H (Itl K p) (itD xs) := by
  intro B2 ρ2 κ2 H2 w2 g2 i
  have hs2 : SqL K H2 p vs := g2.ex.seq (w2.s.seq hs)
  have hl := dpa_len d
  refine ⟨fun h => ⟨vs, hs2, by rw [hl]; exact h⟩, fun h => ?_⟩
  obtain ⟨w, hw, r⟩ := dpa_get d (getLt h)
  refine ⟨⟨vs, w, hs2, hw⟩, fun x H3 hy => ?_⟩
  obtain ⟨rfl, f⟩ := hy
  have e := (f vs hs2).symm.trans hw
  cases e
  exact ⟨B2, .d _, Up.refl, g2, dp_up w2.s _ _ r, _, getLt h, rfl⟩
theorem ri_tup {xs : List PyData} {p : Addr} {vs : List V} (hs : SqT K B p vs) (d : DpAll K B vs xs) : RI K B ρ H (Itt K p) (itD xs) := by
  intro B2 ρ2 κ2 H2 w2 g2 i
  have hs2 : SqT K H2 p vs := sqt_up g2.ex (sqt_up w2.s hs)
  have hl := dpa_len d
  refine ⟨fun h => ⟨vs, hs2, by rw [hl]; exact h⟩, fun h => ?_⟩
  obtain ⟨w, hw, r⟩ := dpa_get d (getLt h)
  refine ⟨⟨vs, w, hs2, hw⟩, fun x H3 hy => ?_⟩
  obtain ⟨rfl, f⟩ := hy
  have e := (f vs hs2).symm.trans hw
  cases e
  exact ⟨B2, .d _, Up.refl, g2, dp_up w2.s _ _ r, _, getLt h, rfl⟩
theorem ri_str {s : Str} : RI K B ρ H (Its s) (itS s) := by
  intro B2 ρ2 κ2 H2 w2 g2 i
  refine ⟨fun h => h, fun h => ⟨h, fun x H3 hy => ?_⟩⟩
  obtain ⟨rfl, c, hc, rfl⟩ := hy
  exact ⟨B2, .d (.str ⟨#[c]⟩), Up.refl, g2, rp_str _, c, hc, rfl⟩
theorem ri_cell {p : Addr} (hp : ρ[k]? = some p) : RI K B ρ H (Itl K p) (itC k) := by
  intro B2 ρ2 κ2 H2 w2 g2 i
  have hp2 := w2.p _ _ hp
  refine ⟨fun h => ?_, fun h => ?_⟩
  · obtain ⟨xs, ek, hi⟩ := h
    obtain ⟨vs, r, eH, _⟩ := g2.ldAt hp2 ek
    exact ⟨vs, .inl (.inl eH), by rw [dpa_len r]; exact hi⟩
  · obtain ⟨xs, ek, hi⟩ := h
    obtain ⟨vs, r, eH, _⟩ := g2.ldAt hp2 ek
    obtain ⟨w, hw, rw'⟩ := dpa_get r (getLt hi)
    have hs2 : SqL K H2 p vs := .inl (.inl eH)
    refine ⟨⟨vs, w, hs2, hw⟩, fun x H3 hy => ?_⟩
    obtain ⟨rfl, f⟩ := hy
    have e := (f vs hs2).symm.trans hw
    cases e
    exact ⟨B2, .d _, Up.refl, g2, rw', xs, _, ek, getLt hi, rfl⟩
theorem ri_rng {lo : Int} {n : Nat} : RI K B ρ H (Itr lo n) (itR lo n) := by
  intro B2 ρ2 κ2 H2 w2 g2 i
  refine ⟨fun h => h, fun h => ⟨h, fun x H3 hy => ?_⟩⟩
  obtain ⟨rfl, rfl⟩ := hy
  exact ⟨B2, .d (.int (lo + i)), Up.refl, g2, rp_int _, rfl⟩
theorem ia_any {tge : Expr} (h : PEa K X e t f) (hK : X.K = K := by rfl) : PIa K X tge e (iAny K t) (aIter f) := by
  subst hK
  exact ⟨pi_any h.pe, fun B ρ δ κ σ H R Q s g hh q => h.sd _ _ _ _ _ _ _ _ s g hh fun B1 ρ1 κ1 H1 a v w1 g1 r1 h1 => by
  split at h1
  · obtain ⟨p, vs, rfl, s1, d1⟩ := r1.list
    exact .inl ⟨p, rfl, ⟨vs, g1.ex.seq s1⟩, q _ _ _ _ _ _ w1 g1 (ri_list s1 d1) h1⟩
  · obtain ⟨p, vs, rfl, s1, d1⟩ := r1.tuple
    exact .inr (.inl ⟨p, rfl, ⟨vs, sqt_up g1.ex s1⟩, q _ _ _ _ _ _ w1 g1 (ri_tup s1 d1) h1⟩)
  · exact .inr (.inr ⟨_, r1.str, q _ _ _ _ _ _ w1 g1 ri_str h1⟩)
  · obtain ⟨p, hp, rfl⟩ := r1
    split at h1
    · rename_i xs ek
      obtain ⟨vs, r, eH, _⟩ := g1.ldAt hp ek
      exact .inl ⟨p, rfl, ⟨vs, .inl (.inl eH)⟩, q _ _ _ _ _ _ w1 g1 (ri_cell hp) h1⟩
    · exact h1.elim
  · exact h1.elim⟩
variable {ta : TA} {fa : AA}
def aRng1 (fa : AA) : AI := fun δ κ R => fa δ κ fun as κ1 => match as with
  | [.d (.int j)] => -(2 ^ 62) ≤ j ∧ j < 2 ^ 62 ∧ R (itR 0 j.toNat) κ1
  | _ => False
def aRng2 (fa : AA) : AI := fun δ κ R => fa δ κ fun as κ1 => match as with
  | [.d (.int i), .d (.int j)] => (-(2 ^ 62) ≤ i ∧ i < 2 ^ 62 ∧ -(2 ^ 62) ≤ j ∧ j < 2 ^ 62) ∧ R (itR i (j - i).toNat) κ1
  | _ => False
theorem ia_rng1 {tge a : Expr} {q pos : Pos} (hg : Gl X "range") (hm : X.mg "range" = none) (ha : PAa K X [a] ta fa) (hs : starEach [a] X.env = [(false, eval a X.env)] := by rfl) : PIa K X tge (.Call (.Name "range" q) [a] [] pos) (iRng1 ta) (aRng1 fa) :=
  ⟨pi_range1 hg hm ha.pa hs, fun B ρ δ κ σ H R Q s g hh q => ha.sd _ _ _ _ _ _ _ _ s g hh fun B1 ρ1 κ1 H1 as vs w1 g1 r1 h1 => by
    split at h1
    · obtain ⟨x, rfl, r⟩ := reps1 r1
      exact ⟨_, by rw [r.int], h1.1, h1.2.1, q _ _ _ _ _ _ w1 g1 ri_rng h1.2.2⟩
    · exact h1.elim⟩
theorem ia_rng2 {tge a b : Expr} {q pos : Pos} (hg : Gl X "range") (hm : X.mg "range" = none) (ha : PAa K X [a, b] ta fa) (hs : starEach [a, b] X.env = [(false, eval a X.env), (false, eval b X.env)] := by rfl) (hs2 : starEach [b] X.env = [(false, eval b X.env)] := by rfl) :
    PIa K X tge (.Call (.Name "range" q) [a, b] [] pos) (iRng2 ta) (aRng2 fa) :=
  ⟨pi_range2 hg hm ha.pa hs hs2, fun B ρ δ κ σ H R Q s g hh q => ha.sd _ _ _ _ _ _ _ _ s g hh fun B1 ρ1 κ1 H1 as vs w1 g1 r1 h1 => by
    split at h1
    · obtain ⟨x, y, rfl, rx, ry⟩ := reps2 r1
      exact ⟨_, _, by rw [rx.int, ry.int], h1.1, q _ _ _ _ _ _ w1 g1 ri_rng h1.2⟩
    · exact h1.elim⟩

/-! ### for -/
def aFor (ai : AI) (ag : AG) (f : AS) : AS := fun A δ κ => ai δ κ fun J κ1 => ∃ W : Nat → Nat → AD → AK → Prop, (∃ m, W 0 m δ κ1) ∧ ∀ i m δ' κ', W i m δ' κ' → κ1.length ≤ κ'.length →
  (J.stop i κ' ∧ A.nx δ' κ') ∨ (J.go i κ' ∧ ∃ N : AD → AK → Prop, (∀ δ3 κ3, N δ3 κ3 → ∃ m', m' < m ∧ W (i + 1) m' δ3 κ3) ∧ ∀ a, J.yld i κ' a → ag a δ' κ' fun δ2 κ2 => f { n := κ1.length, nx := N, ct := N, bk := A.nx, rt := A.rt } δ2 κ2)
theorem sa_for {iter tge : Expr} {body : List Stmt} {wi : TI} {ai : AI} (hp : PassesOwn (model X.prog X.w) X.A X.env X.xe) (hc : X.calm = true) (hi : PIa K X tge iter wi ai) (hg : PGa K X tge tg ag) (hb : PSsa K X body t1 f1)
    (hs : ∀ x, foldedSetIterable iter X.env x = pure x := by intro _; rfl) : PSa K X (.For tge iter body [] pos) (tFor wi tg t1) (aFor ai ag f1) :=
  ⟨ps_for hp hc hi.pi hg.pg hb.ps hs, fun B ρ δ κ σ H A D s g l hh im => hi.sd B ρ δ κ σ H _ _ s g hh fun B1 ρ1 κ1 H1 J Ja w1 g1 ri ⟨W, ⟨m0, w0⟩, turn⟩ => by
    have l1 : A.n ≤ κ1.length := Nat.le_trans l (w1.len g g1)
    have im1 := im.later w1.n
    refine ⟨fun i m σ' H' => Later K B1 ρ1 H1 κ1.length (W i m) σ' H', ⟨m0, B1, ρ1, δ, κ1, UpN.refl, s.up w1.g, g1, Nat.le_refl _, w0⟩, fun i m σ' H' hW => ?_⟩
    obtain ⟨B2, ρ2, δ2, κ2, w2, s2, g2, l2, hw⟩ := hW
    have full : Up B1 ρ1 H1 B2 ρ2 H' := w2.full (by rw [g1.len]; exact Nat.le_refl _)
    have r := ri B2 ρ2 κ2 H' full g2 i
    rcases turn i m δ2 κ2 hw l2 with ⟨h1, h2⟩ | ⟨h1, N, hN, h2⟩
    · exact .inl ⟨r.1 h1, im1.nx _ _ _ _ _ _ (w2.mono l1) g2 s2 (Nat.le_trans l1 l2) h2⟩
    · obtain ⟨hgo, hy⟩ := r.2 h1
      refine .inr ⟨hgo, fun σ3 H3 => Later K B1 ρ1 H1 κ1.length N σ3 H3, ?_, fun x H3 hx => ?_⟩
      · rintro σ3 H3 ⟨B3, ρ3, δ3, κ3, w3, s3, g3, l3, hn⟩
        obtain ⟨m', hm, hw'⟩ := hN _ _ hn
        exact ⟨m', hm, B3, ρ3, δ3, κ3, w3, s3, g3, l3, hw'⟩
      · obtain ⟨B3, a, w3, g3, ra, ya⟩ := hy x H3 hx
        refine hg.sd _ _ _ _ _ _ _ _ _ _ (s2.up w3.g) g3 ra (h2 a ya) fun B4 ρ4 δ4 κ4 σ4 H4 w4 s4 g4 h4 => ?_
        have wa : UpN κ1.length B1 ρ1 H1 B4 ρ4 H4 := w2.trans (w3.trans w4).n
        refine hb.sd _ _ _ _ _ _ _ _ s4 g4 (Nat.le_trans l2 (w4.len g3 g4)) h4 ⟨?_, ?_, ?_, ?_⟩
        · exact fun B5 ρ5 κ5 H5 δ5 σ5 w5 g5 s5 l5 h5 => ⟨B5, ρ5, δ5, κ5, wa.trans w5, s5, g5, l5, h5⟩
        · exact fun B5 ρ5 κ5 H5 a v w5 g5 r5 l5 h5 => im1.rt _ _ _ _ _ _ ((wa.trans w5).mono l1) g5 r5 (Nat.le_trans l1 l5) h5
        · exact fun B5 ρ5 κ5 H5 δ5 σ5 w5 g5 s5 l5 h5 => im1.nx _ _ _ _ _ _ ((wa.trans w5).mono l1) g5 s5 (Nat.le_trans l1 l5) h5
        · exact fun B5 ρ5 κ5 H5 δ5 σ5 w5 g5 s5 l5 h5 => ⟨B5, ρ5, δ5, κ5, wa.trans w5, s5, g5, l5, h5⟩⟩
/-! helpers for loops: over known items, over a range, over a text, over the cell at k -/
abbrev ForW (J : AIt) (ag : AG) (f : AS) (A : AEnds) (n : Nat) (δ : AD) (κ1 : AK) : Prop := ∃ W : Nat → Nat → AD → AK → Prop, (∃ m, W 0 m δ κ1) ∧ ∀ i m δ' κ', W i m δ' κ' → n ≤ κ'.length →
  (J.stop i κ' ∧ A.nx δ' κ') ∨ (J.go i κ' ∧ ∃ N : AD → AK → Prop, (∀ δ3 κ3, N δ3 κ3 → ∃ m', m' < m ∧ W (i + 1) m' δ3 κ3) ∧ ∀ a, J.yld i κ' a → ag a δ' κ' fun δ2 κ2 => f { n := n, nx := N, ct := N, bk := A.nx, rt := A.rt } δ2 κ2)
variable {ag : AG} {f : AS} {A : AEnds} {n : Nat} {κ1 : AK}
theorem for_d {xs : List PyData} (Pv : Nat → AD → AK → Prop) (h0 : Pv 0 δ κ1) (hd : ∀ δ' κ', Pv xs.length δ' κ' → n ≤ κ'.length → A.nx δ' κ')
    (hs : ∀ i x δ' κ', xs[i]? = some x → Pv i δ' κ' → n ≤ κ'.length → ag (.d x) δ' κ' fun δ2 κ2 => f { n := n, nx := Pv (i + 1), ct := Pv (i + 1), bk := A.nx, rt := A.rt } δ2 κ2) : ForW (itD xs) ag f A n δ κ1 := by
  refine ⟨fun i m δ' κ' => m = xs.length - i ∧ i ≤ xs.length ∧ Pv i δ' κ', ⟨_, rfl, Nat.zero_le _, h0⟩, ?_⟩
  rintro i m δ' κ' ⟨rfl, hi, p⟩ ln
  by_cases hlt : i < xs.length
  · refine .inr ⟨hlt, Pv (i + 1), fun _ _ q => ⟨xs.length - (i + 1), by omega, rfl, hlt, q⟩, ?_⟩
    rintro a ⟨x, hx, rfl⟩
    exact hs i x δ' κ' hx p ln
  · have e : i = xs.length := by omega
    subst e
    exact .inl ⟨Nat.le_refl _, hd _ _ p ln⟩
theorem for_r {lo : Int} {N : Nat} (Pv : Nat → AD → AK → Prop) (h0 : Pv 0 δ κ1) (hd : ∀ δ' κ', Pv N δ' κ' → n ≤ κ'.length → A.nx δ' κ')
    (hs : ∀ i δ' κ', i < N → Pv i δ' κ' → n ≤ κ'.length → ag (.d (.int (lo + i))) δ' κ' fun δ2 κ2 => f { n := n, nx := Pv (i + 1), ct := Pv (i + 1), bk := A.nx, rt := A.rt } δ2 κ2) : ForW (itR lo N) ag f A n δ κ1 := by
  refine ⟨fun i m δ' κ' => m = N - i ∧ i ≤ N ∧ Pv i δ' κ', ⟨_, rfl, Nat.zero_le _, h0⟩, ?_⟩
  rintro i m δ' κ' ⟨rfl, hi, p⟩ ln
  by_cases hlt : i < N
  · refine .inr ⟨hlt, Pv (i + 1), fun _ _ q => ⟨N - (i + 1), by omega, rfl, hlt, q⟩, ?_⟩
    rintro a rfl
    exact hs i δ' κ' hlt p ln
  · have e : i = N := by omega
    subst e
    exact .inl ⟨Nat.le_refl _, hd _ _ p ln⟩
theorem for_s {s : Str} (Pv : Nat → AD → AK → Prop) (h0 : Pv 0 δ κ1) (hd : ∀ δ' κ', Pv s.cps.size δ' κ' → n ≤ κ'.length → A.nx δ' κ')
    (hs : ∀ (i : Nat) (c : Nat) δ' κ', s.cps[i]? = some c → Pv i δ' κ' → n ≤ κ'.length → ag (.d (.str ⟨#[c]⟩)) δ' κ' fun δ2 κ2 => f { n := n, nx := Pv (i + 1), ct := Pv (i + 1), bk := A.nx, rt := A.rt } δ2 κ2) : ForW (itS s) ag f A n δ κ1 := by
  refine ⟨fun i m δ' κ' => m = s.cps.size - i ∧ i ≤ s.cps.size ∧ Pv i δ' κ', ⟨_, rfl, Nat.zero_le _, h0⟩, ?_⟩
  rintro i m δ' κ' ⟨rfl, hi, p⟩ ln
  by_cases hlt : i < s.cps.size
  · refine .inr ⟨hlt, Pv (i + 1), fun _ _ q => ⟨s.cps.size - (i + 1), by omega, rfl, hlt, q⟩, ?_⟩
    rintro a ⟨c, hc, rfl⟩
    exact hs i c δ' κ' hc p ln
  · have e : i = s.cps.size := by omega
    subst e
    exact .inl ⟨Nat.le_refl _, hd _ _ p ln⟩
/-- the list at k stays as it is while it is walked -/
theorem for_c {k : Nat} {xs : List PyData} (Pv : Nat → AD → AK → Prop) (h0 : Pv 0 δ κ1) (hk : ∀ i δ' κ', Pv i δ' κ' → κ'[k]? = some (.ld xs)) (hd : ∀ δ' κ', Pv xs.length δ' κ' → n ≤ κ'.length → A.nx δ' κ')
    (hs : ∀ i x δ' κ', xs[i]? = some x → Pv i δ' κ' → n ≤ κ'.length → ag (.d x) δ' κ' fun δ2 κ2 => f { n := n, nx := Pv (i + 1), ct := Pv (i + 1), bk := A.nx, rt := A.rt } δ2 κ2) : ForW (itC k) ag f A n δ κ1 := by
  refine ⟨fun i m δ' κ' => m = xs.length - i ∧ i ≤ xs.length ∧ Pv i δ' κ', ⟨_, rfl, Nat.zero_le _, h0⟩, ?_⟩
  rintro i m δ' κ' ⟨rfl, hi, p⟩ ln
  by_cases hlt : i < xs.length
  · refine .inr ⟨⟨xs, hk _ _ _ p, hlt⟩, Pv (i + 1), fun _ _ q => ⟨xs.length - (i + 1), by omega, rfl, hlt, q⟩, ?_⟩
    rintro a ⟨ys, x, hy, hx, rfl⟩
    rw [hk _ _ _ p] at hy; cases hy
    exact hs i x δ' κ' hx p ln
  · have e : i = xs.length := by omega
    subst e
    exact .inl ⟨⟨xs, hk _ _ _ p, Nat.le_refl _⟩, hd _ _ p ln⟩
/-- while by a measure -/
theorem while_m {p : AT} {f : AS} {A : AEnds} (Pv : AD → AK → Prop) (μ : AD → AK → Nat) (h0 : Pv δ κ)
    (hs : ∀ δ' κ', Pv δ' κ' → κ.length ≤ κ'.length → p δ' κ' fun b κ1 => bsel b (f { n := κ.length, nx := fun δ2 κ2 => Pv δ2 κ2 ∧ μ δ2 κ2 < μ δ' κ', ct := fun δ2 κ2 => Pv δ2 κ2 ∧ μ δ2 κ2 < μ δ' κ', bk := A.nx, rt := A.rt } δ' κ1) (A.nx δ' κ1))
    (mono : ∀ δ' κ' (Q Q' : Bool → AK → Prop), (∀ b κ1, Q b κ1 → Q' b κ1) → p δ' κ' Q → p δ' κ' Q') : aWhile p f A δ κ := by
  refine ⟨fun m δ' κ' => m = μ δ' κ' ∧ Pv δ' κ', ⟨_, rfl, h0⟩, ?_⟩
  rintro m δ' κ' ⟨rfl, hp⟩ l
  refine mono δ' κ' _ _ (fun b κ1 q => ?_) (hs δ' κ' hp l)
  cases b with
  | true => exact ⟨_, fun δ2 κ2 h => ⟨_, h.2, rfl, h.1⟩, q⟩
  | false => exact q
end Ab
set_option Elab.async false
set_option linter.all false
set_option maxRecDepth 100000
set_option maxHeartbeats 4000000
/-! Ab6: list comprehensions; defs, their promises, their calls -/
namespace Ab
open PySem L2
open PyProof.Rows (envOfC)
variable {K : PySem.W.Frag} {B B' B2 H H' H2 : Hp} {ρ ρ' ρ2 : List Addr} {κ κ' : AK} {δ : AD} {σ : L2.St} {p : Addr} {k : Nat} {v x y z : V} {a b c : AV}
variable {X : Cx} {e e2 : Expr} {t u : TE} {f f2 : AE} {pos : Pos}

def wipeA (δ : AD) : List Nat → AD
  | [] => δ
  | v :: vs => (wipeA δ vs).set v none
theorem S.wipe (s : S K B ρ δ σ) : ∀ vs : List Nat, S K B ρ (wipeA δ vs) (L2.wipe σ vs)
  | [] => s
  | v :: vs => (S.wipe s vs).clr
theorem wipe_get (σ : L2.St) (i : Nat) : ∀ vs : List Nat, (L2.wipe σ vs)[i]? = if i ∈ vs then σ[i]?.map fun _ => none else σ[i]?
  | [] => by simp [L2.wipe]
  | v :: vs => by
    show ((L2.wipe σ vs).set v none)[i]? = _
    rw [List.getElem?_set, wipe_get σ i vs, wipe_length]
    by_cases h : v = i
    · subst h
      rw [if_pos rfl]
      by_cases hv : v < σ.length
      · rw [if_pos hv, if_pos (List.mem_cons_self ..), List.getElem?_eq_getElem hv]; rfl
      · rw [if_neg hv, if_pos (List.mem_cons_self ..), List.getElem?_eq_none (by omega)]; rfl
    · rw [if_neg h]
      have : (i ∈ v :: vs) = (i ∈ vs) := by
        apply propext
        rw [List.mem_cons]
        exact ⟨fun z => z.elim (fun w => absurd w.symm h) id, Or.inr⟩
      simp only [this]
theorem wipe_set {σ : L2.St} {vs : List Nat} {j : Nat} {w : Option V} (h : j ∈ vs) : L2.wipe (σ.set j w) vs = L2.wipe σ vs := by
  apply List.ext_getElem?
  intro i
  rw [wipe_get, wipe_get]
  by_cases hi : i ∈ vs
  · rw [if_pos hi, if_pos hi, List.getElem?_set]
    by_cases e : j = i
    · subst e
      rw [if_pos rfl]
      by_cases hl : j < σ.length
      · rw [if_pos hl, List.getElem?_eq_getElem hl]; rfl
      · rw [if_neg hl, List.getElem?_eq_none (by omega)]
    · rw [if_neg e]
  · rw [if_neg hi, if_neg hi, List.getElem?_set_ne (fun (e : j = i) => hi (e ▸ h))]
theorem wipe_wipe (σ : L2.St) (vs : List Nat) : L2.wipe (L2.wipe σ vs) vs = L2.wipe σ vs := by
  apply List.ext_getElem?
  intro i
  rw [wipe_get, wipe_get]
  by_cases hi : i ∈ vs
  · rw [if_pos hi, if_pos hi]
    cases σ[i]? <;> rfl
  · rw [if_neg hi, if_neg hi]
/-! targets within a comprehension: the own names alone -/
def SGw (K : PySem.W.Frag) (t : TG) (g : AG) (vs : List Nat) : Prop := ∀ B ρ δ κ σ H a v (R : AD → AK → Prop) (Q : L2.St → Hp → Prop), S K B ρ δ σ → G K B ρ κ H → Rep K B ρ a v → g a δ κ R →
  (∀ B' ρ' δ' κ' σ' H', Up B ρ H B' ρ' H' → S K B' ρ' δ' σ' → G K B' ρ' κ' H' → R δ' κ' → L2.wipe σ' vs = L2.wipe σ vs → Q σ' H') → t v σ H Q
def SGsw (K : PySem.W.Frag) (t : TGs) (g : AGs) (vs : List Nat) : Prop := ∀ B ρ δ κ σ H as ws (R : AD → AK → Prop) (Q : L2.St → Hp → Prop), S K B ρ δ σ → G K B ρ κ H → Reps K B ρ as ws → g as δ κ R →
  (∀ B' ρ' δ' κ' σ' H', Up B ρ H B' ρ' H' → S K B' ρ' δ' σ' → G K B' ρ' κ' H' → R δ' κ' → L2.wipe σ' vs = L2.wipe σ vs → Q σ' H') → t ws σ H Q
theorem sgw_name {i : Nat} {vs : List Nat} (h : i ∈ vs) : SGw K (gName i) (aName i) vs := fun B ρ δ κ σ H a v R Q s g r hh q => q _ _ _ _ _ _ Up.refl (s.set r) g hh (wipe_set h)
theorem sgsw_nil {vs : List Nat} : SGsw K gNil aGNil vs := fun B ρ δ κ σ H as ws R Q s g r h q => by
  unfold aGNil at h
  split at h
  · cases r; exact ⟨rfl, q _ _ _ _ _ _ Up.refl s g h rfl⟩
  · exact h.elim
theorem sgsw_cons {tg : TG} {tgs : TGs} {ag : AG} {ags : AGs} {vs : List Nat} (h1 : SGw K tg ag vs) (h2 : SGsw K tgs ags vs) : SGsw K (gCons tg tgs) (aGCons ag ags) vs := fun B ρ δ κ σ H as ws R Q s g r h q => by
  unfold aGCons at h
  split at h
  · cases r with
    | cons r1 r2 =>
      exact ⟨_, _, rfl, h1 _ _ _ _ _ _ _ _ _ _ s g r1 h fun B' ρ' δ' κ' σ' H' w s' g' h' e1 => h2 _ _ _ _ _ _ _ _ _ _ s' g' (Reps.up w.g r2) h' fun _ _ _ _ _ _ w2 s2 g2 k2 e2 => q _ _ _ _ _ _ (w.trans w2) s2 g2 k2 (e2.trans e1)⟩
  · exact h.elim
theorem sgw_tup {tgs : TGs} {ags : AGs} {vs : List Nat} {n : Nat} (h : SGsw K tgs ags vs) : SGw K (gTup K n tgs) (aGTup n ags) vs := fun B ρ δ κ σ H a v R Q s g r hh q => by
  unfold aGTup at hh
  split at hh
  · obtain ⟨p, vs, rfl, s1, d1⟩ := of_tupG g r
    exact ⟨p, vs, rfl, s1, by rw [dpa_len d1]; exact hh.1, h _ _ _ _ _ _ _ _ _ _ s g (Reps.all d1) hh.2 q⟩
  · obtain ⟨p, hp, rfl⟩ := r
    split at hh
    · rename_i xs ek
      obtain ⟨p', hp', _, vs, r, eH⟩ := g.cell ek
      rw [hp] at hp'; cases hp'
      exact ⟨p, vs, rfl, .inl (.inl eH), by rw [← r.len]; exact hh.1, h _ _ _ _ _ _ _ _ _ _ s g r hh.2 q⟩
    · exact hh.elim
  · exact hh.elim
structure PTsa (K : PySem.W.Frag) (X : Cx) (ifs : List Expr) (t : TT) (f : AT) : Prop where
  pt : PTs X ifs t
  sd : ST K t f
def aYes : AT := fun _ κ R => R true κ
theorem tsa_nil : PTsa K X [] tYes aYes := ⟨pts_nil, fun B ρ δ κ σ H R Q s g h q => q _ _ _ _ _ Up.refl g h⟩
theorem tsa_one {tc : TT} {pc : AT} (h : PTa K X e tc pc) : PTsa K X [e] tc pc := ⟨pts_one h.pt, h.sd⟩
/-- [elt for target in iter if ..], its items data: a list that never changes -/
def LcWd (J : AIt) (ag : AG) (p : AT) (f : AE) (vs : List Nat) (δ : AD) (κ1 : AK) (R : AR) : Prop := ∃ W : Nat → Nat → List PyData → AK → Prop, (∃ m, W 0 m [] κ1) ∧ ∀ i m acc κ', W i m acc κ' →
  (J.stop i κ' ∧ R (.d (.list acc)) κ') ∨ (J.go i κ' ∧ ∃ N : List PyData → AK → Prop, (∀ acc2 κ2, N acc2 κ2 → ∃ m', m' < m ∧ W (i + 1) m' acc2 κ2) ∧ ∀ a, J.yld i κ' a → ag a (wipeA δ vs) κ' fun δ2 κ2 => p δ2 κ2 fun b κ3 =>
    bsel b (f δ2 κ3 fun y κ4 => ∃ d, y = .d d ∧ acc.length < sizeLine ∧ N (acc ++ [d]) κ4) (N acc κ3))
@[irreducible] def LcW (J : AIt) (ag : AG) (p : AT) (f : AE) (vs : List Nat) (δ : AD) (κ1 : AK) (R : AR) : Prop := LcWd J ag p f vs δ κ1 R
theorem lcw {J : AIt} {ag : AG} {p : AT} {f : AE} {vs : List Nat} {δ : AD} {κ1 : AK} {R : AR} : LcW J ag p f vs δ κ1 R ↔ LcWd J ag p f vs δ κ1 R := by
  unfold LcW; exact Iff.rfl
def aLc (ai : AI) (ag : AG) (p : AT) (f : AE) (vs : List Nat) : AE := fun δ κ R => ai δ κ fun J κ1 => LcW J ag p f vs δ κ1 R
theorem G.off (g : G K B ρ κ H) {D : Addr} {o : HO} (hb : B D = none) (hr : D ∉ ρ) : G K B ρ κ (upd H D o) := by
  refine ⟨fun b x e => ?_, g.len, g.inj, fun i q c h1 h2 => ?_⟩
  · rw [upd_ne (ne_of_none e hb)]; exact g.ex b x e
  · have hq : q ≠ D := fun z => hr (z ▸ mem_of_get h1)
    exact (g.at' i q c h1 h2).up Ug.refl id fun o' e => by rw [upd_ne hq]; exact e
theorem Up.off {D : Addr} {o : HO} (w : Up B ρ H B' ρ' H') (hD : H D = none) : Up B ρ H B' ρ' (upd H' D o) := ⟨w.s, w.p, fun p x h1 h2 h3 => by
  have hp := ne_of_none h1 hD
  rw [upd_ne hp]; exact w.f p x h1 h2 h3⟩
theorem se_lc {wi : TI} {ai : AI} {tg : TG} {ag : AG} {tt : TT} {pt : AT} {vs : List Nat} (hi : SI K wi ai) (hg : SGw K tg ag vs) (ht : ST K tt pt) (he : SE K t f) : SE K (tLc wi tg tt t vs) (aLc ai ag pt f vs) := fun B ρ δ κ σ H R Q s g hh q =>
  hi B ρ δ κ σ H _ _ s g hh fun B1 ρ1 κ1 H1 J Ja w1 g1 ri hlc => by
    obtain ⟨W, ⟨m0, w0⟩, turn⟩ := lcw.mp hlc
    intro D hD
    have q1 := q.later w1
    refine ⟨fun i m H' => ∃ B' ρ' κ' accV acc, Up B1 ρ1 H1 B' ρ' H' ∧ G K B' ρ' κ' H' ∧ H' D = some (.lst accV) ∧ B' D = none ∧ D ∉ ρ' ∧ DpAll K B' accV acc ∧ W i m acc κ', ⟨m0, B1, ρ1, κ1, [], [], Up.refl.off hD, g1.off (g1.fresh hD) (fun z => ?_), upd_same, g1.fresh hD, fun z => ?_, .nil, w0⟩, ?_⟩
    · obtain ⟨i, hi⟩ := List.mem_iff_getElem?.mp z
      exact g1.nin hD hi rfl
    · obtain ⟨i, hi⟩ := List.mem_iff_getElem?.mp z
      exact g1.nin hD hi rfl
    rintro i m H2 ⟨B2, ρ2, κ2, accV, acc, w2, g2, eD, bD, rD, da, hw⟩
    have r := ri B2 ρ2 κ2 H2 w2 g2 i
    rcases turn i m acc κ2 hw with ⟨h1, h2⟩ | ⟨h1, N, hN, h2⟩
    · refine .inl ⟨r.1 h1, ?_⟩
      have hs : Same B2 (upd B2 D (.lst accV)) := same_upd bD
      have hBD : (upd B2 D (.lst accV)) D = some (.lst accV) := upd_same
      refine q1 (upd B2 D (.lst accV)) ρ2 κ2 H2 (.d (.list acc)) (.ref D) ⟨w2.s.trans hs, w2.p, fun p o z1 z2 z3 => ?_⟩ ⟨fun b x e => ?_, g2.len, g2.inj, fun j p cl z1 z2 => ?_⟩ (.lst (.inl (.inl hBD)) (dpa_up hs _ _ da)) h2
      · obtain ⟨y1, y2, y3⟩ := w2.f p o z1 z2 z3
        exact ⟨y1, by rw [upd_ne (ne_of_none z1 hD)]; exact y2, y3⟩
      · by_cases hb : b = D
        · subst hb; rw [hBD] at e; rw [eD]; exact e
        · rw [upd_ne hb] at e; exact g2.ex b x e
      · have hq : p ≠ D := fun z => rD (z ▸ mem_of_get z1)
        exact (g2.at' j p cl z1 z2).up ⟨hs, fun _ _ h => h⟩ (fun z => by rw [upd_ne hq]; exact z) fun _ e => e
    · obtain ⟨hgo, hy⟩ := r.2 h1
      -- a turn's end
      refine .inr ⟨hgo, fun H' => ∃ B' ρ' κ' accV acc, Up B1 ρ1 H1 B' ρ' H' ∧ G K B' ρ' κ' H' ∧ H' D = some (.lst accV) ∧ B' D = none ∧ D ∉ ρ' ∧ DpAll K B' accV acc ∧ N acc κ', ?_, fun x H3 hx => ?_⟩
      · rintro H' ⟨B', ρ', κ', accV', acc', z1, z2, z3, z4, z5, z6, hn⟩
        obtain ⟨m', hm, hw'⟩ := hN _ _ hn
        exact ⟨m', hm, B', ρ', κ', accV', acc', z1, z2, z3, z4, z5, z6, hw'⟩
      · obtain ⟨B3, a, w3, g3, ra, ya⟩ := hy x H3 hx
        have sw : S K B3 ρ2 (wipeA δ vs) (L2.wipe σ vs) := (s.up ((w1.trans w2).trans w3).g).wipe vs
        refine hg _ _ _ _ _ _ _ _ _ _ sw g3 ra (h2 a ya) fun B4 ρ4 δ4 κ4 σ4 H4 w4 s4 g4 h4 e4 => ⟨by rw [e4, wipe_wipe], ?_⟩
        refine ht _ _ _ _ _ _ _ _ s4 g4 h4 fun B5 ρ5 κ5 H5 b w5 g5 h5 => ?_
        have w25 := (w3.trans w4).trans w5
        obtain ⟨e5, b5, r5⟩ := w25.f D _ eD bD rD
        cases b with
        | false =>
          refine iteF ⟨B5, ρ5, κ5, accV, acc, w2.trans w25, g5, e5, b5, r5, dpa_up w25.s _ _ da, h5⟩
        | true =>
          refine iteT (he _ _ _ _ _ _ _ _ (s4.up w5.g) g5 h5 fun B6 ρ6 κ6 H6 a6 v6 w6 g6 r6 h6 => ?_)
          obtain ⟨d, rfl, hl, hn⟩ := h6
          obtain ⟨e6, b6, r6'⟩ := w6.f D _ e5 b5 r5
          have w26 := w25.trans w6
          have da6 := dpa_up w26.s _ _ da
          refine ⟨accV, e6, by rw [dpa_len da6]; exact hl, B6, ρ6, κ6, accV ++ [v6], acc ++ [d], (w2.trans w26).off hD, g6.off b6 r6', upd_same, b6, r6', dpa_app da6 (.cons r6 .nil), hn⟩
section
variable {elt tge iter : Expr} {ifs : List Expr} {scope : Scope} {own : List (Str × Nat)} {wi : TI} {ai : AI} {tg : TG} {ag : AG} {tt : TT} {pt : AT} {te : TE} {fe : AE}
theorem ea_lc (hc : X.calm = true) (hN : X.N.Nodup) (hi : PIa K X tge iter wi ai) (ok : BlkOk X.N X.env.scope scope own)
    (hg : ∀ (s : Shared) (H : Hp) (C : Addr) (cl : List (Str × Addr)) (fp : List Addr), PG (X.blk s H scope (compEnvC scope cl C X.env) fp) tge tg) (hgw : SGw K tg ag (own.map (·.2)))
    (ht : ∀ (s : Shared) (H : Hp) (C : Addr) (cl : List (Str × Addr)) (fp : List Addr), PTsa K (X.blk s H scope (compEnvC scope cl C X.env) fp) ifs tt pt)
    (he : ∀ (s : Shared) (H : Hp) (C : Addr) (cl : List (Str × Addr)) (fp : List Addr), PEa K (X.blk s H scope (compEnvC scope cl C X.env) fp) elt te fe) (hs : ∀ x, foldedSetIterable iter X.env x = pure x := by intro _; rfl) :
    PEa K X (.ListComp elt [⟨tge, iter, ifs, 0⟩] scope pos) (tLc wi tg tt te (own.map (·.2))) (aLc ai ag pt fe (own.map (·.2))) :=
  ⟨pe_lc hc hN hi.pi ok hg (fun s H C cl fp => (ht s H C cl fp).pt) (fun s H C cl fp => (he s H C cl fp).pe) hs, se_lc hi.sd hgw (ht ({} : Shared) (fun _ => none) 0 [] []).sd (he ({} : Shared) (fun _ => none) 0 [] []).sd⟩
theorem sa_setLc {i : Nat} {y : Str} {py spos : Pos} (hc : X.calm = true) (hN : X.N.Nodup) (hy : X.N[i]? = some y) (hyl : X.env.scope.names.lookup y = some .local)
    (hsw : swapsWith (.ListComp elt [⟨tge, iter, ifs, 0⟩] scope pos) (some (.Name y py)) spos.line X.env = pure true) (hi : PIa K X tge iter wi ai) (ok : BlkOk X.N X.env.scope scope own)
    (hg : ∀ (s : Shared) (H : Hp) (C : Addr) (cl : List (Str × Addr)) (fp : List Addr), PG (X.blk s H scope (compEnvC scope cl C X.env) fp) tge tg) (hgw : SGw K tg ag (own.map (·.2)))
    (ht : ∀ (s : Shared) (H : Hp) (C : Addr) (cl : List (Str × Addr)) (fp : List Addr), PTsa K (X.blk s H scope (compEnvC scope cl C X.env) fp) ifs tt pt)
    (he : ∀ (s : Shared) (H : Hp) (C : Addr) (cl : List (Str × Addr)) (fp : List Addr), PEa K (X.blk s H scope (compEnvC scope cl C X.env) fp) elt te fe) (hs : ∀ x, foldedSetIterable iter X.env x = pure x := by intro _; rfl) :
    PSa K X (.Assign [.Name y py] (.ListComp elt [⟨tge, iter, ifs, 0⟩] scope pos) spos) (tAsg (tLc wi tg tt te (own.map (·.2))) (gName i)) (aSet i (aLc ai ag pt fe (own.map (·.2)))) :=
  ⟨ps_setLc hc hN hy hyl hsw hi.pi ok hg (fun s H C cl fp => (ht s H C cl fp).pt) (fun s H C cl fp => (he s H C cl fp).pe) hs, ss_asg (se_lc hi.sd hgw (ht ({} : Shared) (fun _ => none) 0 [] []).sd (he ({} : Shared) (fun _ => none) 0 [] []).sd) sg_name⟩
end

/-! ### defs -/
/-- what leaves a def: the error's class and its fields -/
structure AX where
  cls : Value
  fs : List (Str × PyData)
/-- a promise: the arguments, the cells, what is wanted of the result, of an error -/
abbrev FSp := List AV → AK → AR → (AX → AK → Prop) → Prop
def RepX (K : PySem.W.Frag) (B : Hp) (H : Hp) (x : AX) (cls : Value) (d : Option Addr) : Prop := cls = x.cls ∧ match x.fs with
  | [] => True
  | fs => ∃ dd ws, d = some dd ∧ H dd = some (.xd ws) ∧ DpKs K B fs ws
def spA (K : PySem.W.Frag) (F : FSp) : Sp := fun vs H Q E => ∃ B ρ κ as R E', G K B ρ κ H ∧ Reps K B ρ as vs ∧ F as κ R E' ∧
  (∀ B' ρ' κ' H' a v, Up B ρ H B' ρ' H' → G K B' ρ' κ' H' → Rep K B' ρ' a v → R a κ' → Q v H') ∧
  (∀ B' ρ' κ' H' xa cls d, Up B ρ H B' ρ' H' → G K B' ρ' κ' H' → RepX K B' H' xa cls d → E' xa κ' → E cls d H')
def startA (N : List Str) (as : List AV) : AD := as.map some ++ List.replicate (N.length - as.length) none
theorem s_start {N : List Str} {as : List AV} {vs : List V} (r : Reps K B ρ as vs) : S K B ρ (startA N as) (L2.start N vs) := by
  have hl := r.len
  refine ⟨by unfold startA L2.start; simp [hl], fun i a h => ?_⟩
  unfold startA at h
  by_cases hi : i < as.length
  · rw [List.getElem?_append_left (by simpa using hi), List.getElem?_map, List.getElem?_eq_getElem hi] at h
    simp at h
    obtain ⟨w, e, rw'⟩ := r.get (List.getElem?_eq_getElem hi)
    rw [h] at rw'
    refine ⟨w, ?_, rw'⟩
    unfold L2.start
    rw [List.getElem?_append_left (by simp; omega), List.getElem?_map, e]
    rfl
  · rw [List.getElem?_append_right (by simpa using hi)] at h
    have := mem_of_get h
    rw [List.mem_replicate] at this
    exact absurd this.2 (by simp)
/-- the end of a body: the result may be told anew -/
def endsA (K : PySem.W.Frag) (n : Nat) (R : AR) : AEnds := ⟨n, fun _ κ => ∃ a' κ', GhR K n (.d .none) κ a' κ' ∧ R a' κ', fun a κ => ∃ a' κ', GhR K n a κ a' κ' ∧ R a' κ', fun _ _ => False, fun _ _ => False⟩
theorem body_ok {F : FSp} {N : List Str} {t : TS} {f : AS} {vs : List V} {H : Hp} {Q : VK} {E : XK} (hs : SS K t f) (hF : ∀ as κ R E', F as κ R E' → f (endsA K κ.length R) (startA N as) κ) (h : spA K F vs H Q E) :
    t { nx := fun _ H' => Q .non H', rt := Q } (L2.start N vs) H := by
  obtain ⟨B, ρ, κ, as, R, E', g, r, hf, q, _⟩ := h
  have fin : ∀ B' ρ' κ' H' a v, UpN κ.length B ρ H B' ρ' H' → G K B' ρ' κ' H' → Rep K B' ρ' a v → (∃ a' κ2, GhR K κ.length a κ' a' κ2 ∧ R a' κ2) → Q v H' := fun B' ρ' κ' H' a v w g' ra ⟨a', κ2, gh, hR⟩ => by
    obtain ⟨B2, ρ2, w2, r2, g2⟩ := gh.2 B' ρ' H' v g' ra
    exact q _ _ _ _ _ _ ((w.trans w2).full (by rw [g.len]; exact Nat.le_refl _)) g2 r2 hR
  refine hs B ρ (startA N as) κ (L2.start N vs) H (endsA K κ.length R) _ (s_start r) g (Nat.le_refl _) (hF as κ R E' hf) ⟨?_, ?_, ?_, ?_⟩
  · exact fun B' ρ' κ' H' δ' σ' w g' s' l h' => fin _ _ _ _ _ _ w g' rp_non h'
  · exact fun B' ρ' κ' H' a v w g' ra l h' => fin _ _ _ _ _ _ w g' ra h'
  · exact fun _ _ _ _ _ _ _ _ _ _ h' => h'.elim
  · exact fun _ _ _ _ _ _ _ _ _ _ h' => h'.elim
theorem spA_len {F : FSp} {ps : List Str} (hl : ∀ as κ R E', F as κ R E' → as.length = ps.length) : ∀ vs H Q E, spA K F vs H Q E → vs.length = ps.length := by
  rintro vs H Q E ⟨B, ρ, κ, as, R, E', g, r, hf, _⟩
  rw [← r.len]; exact hl _ _ _ _ hf
section
variable {P : Program} {w : World} {mg : Str → Option Value} {base : Heap}
/-- THE RULE for a def from which nothing is raised -/
theorem fn_ok {x qual : Str} {st : Stmt} {fa : Addr} {fd : FuncData} {N ps : List Str} {l : Nat} {F : FSp} (Fu : Fun K x qual st fa fd) (Sc : FnScope N ps (defScope st)) (hl : ∀ as κ R E', F as κ R E' → as.length = ps.length)
    (hb : ∀ (cdv : Value) (A : Around) (outer : List Env) (s : Shared) (H : Hp) (E : XK), Room l (A.deeper (envOfC qual (defScope st) s.heap.objs.size fa cdv)) →
      ∃ t f, PSsa K (cxOf CX0 P w K mg base N qual (defScope st) fa cdv A outer s H E).nox (defBody st) t f ∧ ∀ as κ R E', F as κ R E' → f (endsA K κ.length R) (startA N as) κ) : FnOk P w K mg base CX0 (l + 1) fa fd ps (spA K F) :=
  Fu.ok Sc (spA_len hl) fun cdv A outer s H vs Q E hr h => by
    obtain ⟨t, f, hp, hF⟩ := hb cdv A outer s H E hr
    exact ⟨t, hp.ps, body_ok hp.sd hF h⟩
end
/-! ### calls: the callee sees the cells js alone -/
def posIn (k : Nat) : List Nat → Nat → Option Nat
  | [], _ => none
  | j :: js, i => if j = k then some i else posIn k js (i + 1)
def selA (js : List Nat) : AV → Option AV
  | .c k => (posIn k js 0).map .c
  | a => some a
def selAs (js : List Nat) : List AV → Option (List AV)
  | [] => some []
  | a :: r => match selA js a, selAs js r with
    | some x, some xs => some (x :: xs)
    | _, _ => none
/-- no reference within -/
def clC : Cell → Bool
  | .lst xs => xs.all (okA 0)
  | .tup xs => xs.all (okA 0)
  | .ins _ fs => fs.all fun p => okA 0 p.2
  | _ => true
def selK (js : List Nat) (κ : AK) : Option AK := match js with
  | [] => some []
  | j :: r => match κ[j]?, selK r κ with
    | some c, some cs => if clC c = true then some (c :: cs) else none
    | _, _ => none
/-- back: the callee's cells at their places, its new ones behind -/
def putK : List Nat → AK → AK → AK
  | j :: js, c :: cs, κ => putK js cs (κ.set j c)
  | _, _, κ => κ
def liveC : Cell → Bool
  | .dead => false
  | _ => true
def backA (js : List Nat) (n : Nat) : AV → AV
  | .c j => match js[j]? with
    | some k => .c k
    | none => .c (n + (j - js.length))
  | a => a
def backK (js : List Nat) (κ κ' : AK) : AK := match κ'.drop js.length with
  | [] => putK js κ' κ
  | c :: l => putK js κ' κ ++ c :: l
theorem backK_eq (js : List Nat) (κ κ' : AK) : backK js κ κ' = putK js κ' κ ++ κ'.drop js.length := by
  unfold backK
  split
  · rename_i e; rw [e, List.append_nil]
  · rename_i e; rw [e]
@[irreducible] def callW (F : FSp) (E : AX → AK → Prop) (as : List AV) (κ1 : AK) (R : AR) : Prop := ∃ js asl κl, js.Nodup ∧ selAs js as = some asl ∧ selK js κ1 = some κl ∧
  F asl κl (fun a κ' => js.length ≤ κ'.length ∧ κ'.all clC = true ∧ (κ'.drop js.length).all liveC = true ∧ R (backA js κ1.length a) (backK js κ1 κ')) (fun x κ' => js.length ≤ κ'.length ∧ κ'.all clC = true ∧ (κ'.drop js.length).all liveC = true ∧ E x (backK js κ1 κ'))
theorem callW_i {F : FSp} {E : AX → AK → Prop} {as : List AV} {κ1 : AK} {R : AR} (h : ∃ js asl κl, js.Nodup ∧ selAs js as = some asl ∧ selK js κ1 = some κl ∧
  F asl κl (fun a κ' => js.length ≤ κ'.length ∧ κ'.all clC = true ∧ (κ'.drop js.length).all liveC = true ∧ R (backA js κ1.length a) (backK js κ1 κ')) (fun x κ' => js.length ≤ κ'.length ∧ κ'.all clC = true ∧ (κ'.drop js.length).all liveC = true ∧ E x (backK js κ1 κ'))) : callW F E as κ1 R := by
  unfold callW; exact h
theorem callW_e {F : FSp} {E : AX → AK → Prop} {as : List AV} {κ1 : AK} {R : AR} (h : callW F E as κ1 R) : ∃ js asl κl, js.Nodup ∧ selAs js as = some asl ∧ selK js κ1 = some κl ∧
  F asl κl (fun a κ' => js.length ≤ κ'.length ∧ κ'.all clC = true ∧ (κ'.drop js.length).all liveC = true ∧ R (backA js κ1.length a) (backK js κ1 κ')) (fun x κ' => js.length ≤ κ'.length ∧ κ'.all clC = true ∧ (κ'.drop js.length).all liveC = true ∧ E x (backK js κ1 κ')) := by
  unfold callW at h; exact h
def aCall (F : FSp) (E : AX → AK → Prop) (fa : AA) : AE := fun δ κ R => fa δ κ fun as κ1 => callW F E as κ1 R

theorem rep_cl (h : okA 0 a = true) (r : Rep K B ρ a v) : Rep K B ρ' a v := by
  cases a with
  | d x => exact r
  | r w => exact r
  | c j => exact absurd (of_decide_eq_true (p := j < 0) h) (Nat.not_lt_zero _)
theorem reps_cl : ∀ {as : List AV} {vs : List V}, as.all (okA 0) = true → Reps K B ρ as vs → Reps K B ρ' as vs
  | _, _, _, .nil => .nil
  | _, _, h, .cons h1 h2 => by
    rw [List.all_cons, Bool.and_eq_true] at h
    exact .cons (rep_cl h.1 h1) (reps_cl h.2 h2)
theorem repks_cl {ι : Type} : ∀ {as : List (ι × AV)} {vs : List (ι × V)}, (as.all fun p => okA 0 p.2) = true → RepKs K B ρ as vs → RepKs K B ρ' as vs
  | _, _, _, .nil => .nil
  | _, _, h, .cons h1 h2 => by
    rw [List.all_cons, Bool.and_eq_true] at h
    exact .cons ⟨h1.1, rep_cl h.1 h1.2⟩ (repks_cl h.2 h2)
theorem CellOk.cl {cl : Cell} (h : clC cl = true) (ok : CellOk K B ρ H p cl) : CellOk K B ρ' H p cl := by
  cases cl with
  | dead => exact ok
  | ld ys => exact ok
  | lst ys => obtain ⟨n, ws, r, e⟩ := ok; exact ⟨n, ws, reps_cl h r, e⟩
  | tup ys => obtain ⟨n, ws, r, e⟩ := ok; exact ⟨n, ws, reps_cl h r, e⟩
  | dK ys => exact ok
  | dT ys => exact ok
  | ins C ys => obtain ⟨n, dx, ws, r, e⟩ := ok; exact ⟨n, dx, ws, repks_cl h r, e⟩
theorem posIn_get : ∀ {k : Nat} {js : List Nat} {i r : Nat}, posIn k js i = some r → ∃ m, r = i + m ∧ js[m]? = some k
  | _, [], _, _, h => by cases h
  | k, j :: js, i, r, h => by
    unfold posIn at h
    by_cases e : j = k
    · rw [if_pos e] at h
      cases h
      exact ⟨0, rfl, by rw [e]; rfl⟩
    · rw [if_neg e] at h
      obtain ⟨m, e1, e2⟩ := posIn_get h
      exact ⟨m + 1, by omega, by simpa using e2⟩
/-- the addresses of the cells js -/
def selR (js : List Nat) (ρ : List Addr) : List Addr := js.map fun j => ρ.getD j 0
theorem selR_get {js : List Nat} {i j : Nat} {p : Addr} (h : js[i]? = some j) (hp : ρ[j]? = some p) : (selR js ρ)[i]? = some p := by
  unfold selR
  rw [List.getElem?_map, h]
  show some (ρ.getD j 0) = some p
  rw [List.getD_eq_getElem?_getD, hp]; rfl
theorem selK_get : ∀ {js : List Nat} {κ κl : AK}, selK js κ = some κl → κl.length = js.length ∧ ∀ (i j : Nat), js[i]? = some j → ∃ c, κ[j]? = some c ∧ κl[i]? = some c ∧ clC c = true
  | [], κ, κl, h => by cases h; exact ⟨rfl, fun i j e => by simp at e⟩
  | j :: js, κ, κl, h => by
    unfold selK at h
    split at h
    · rename_i c cs e1 e2
      split at h
      · rename_i hc
        cases h
        obtain ⟨l, f⟩ := selK_get e2
        refine ⟨by simp [l], fun i j' e => ?_⟩
        cases i with
        | zero => simp at e; subst e; exact ⟨c, e1, rfl, hc⟩
        | succ i => obtain ⟨c', y1, y2, y3⟩ := f i j' (by simpa using e); exact ⟨c', y1, by simpa using y2, y3⟩
      · cases h
    · cases h
theorem selAs_ok {js : List Nat} (hr : ∀ (i j : Nat) (p : Addr), js[i]? = some j → ρ[j]? = some p → ρ'[i]? = some p) : ∀ {as asl : List AV} {vs : List V}, selAs js as = some asl → Reps K B ρ as vs → Reps K B ρ' asl vs
  | [], _, _, h, r => by cases h; cases r; exact .nil
  | a :: as, _, _, h, r => by
    unfold selAs at h
    split at h
    · rename_i x xs e1 e2
      cases h
      cases r with
      | cons r1 r2 =>
        refine .cons ?_ (selAs_ok hr e2 r2)
        cases a with
        | d y => cases e1; exact r1
        | r y => cases e1; exact r1
        | c k =>
          obtain ⟨i, hi, rfl⟩ := Option.map_eq_some_iff.mp e1
          obtain ⟨m, rfl, hm⟩ := posIn_get hi
          obtain ⟨p, hp, rfl⟩ := r1
          exact ⟨p, by simpa using hr m k p hm hp, rfl⟩
    · cases h
theorem putK_len : ∀ (js : List Nat) (κ' κ : AK), (putK js κ' κ).length = κ.length
  | [], _, _ => by cases ‹AK› <;> rfl
  | j :: js, [], κ => rfl
  | j :: js, c :: cs, κ => by
    show (putK js cs (κ.set j c)).length = _
    rw [putK_len, List.length_set]
theorem putK_ne : ∀ {js : List Nat} {κ' κ : AK} {i : Nat}, i ∉ js → (putK js κ' κ)[i]? = κ[i]?
  | [], _, _, _, _ => by cases ‹AK› <;> rfl
  | j :: js, [], κ, i, _ => rfl
  | j :: js, c :: cs, κ, i, h => by
    show (putK js cs (κ.set j c))[i]? = _
    rw [putK_ne (fun z => h (List.mem_cons_of_mem _ z)), List.getElem?_set_ne (fun (e : j = i) => h (e ▸ List.mem_cons_self ..))]
theorem putK_at : ∀ {js : List Nat} {κ' κ : AK} {i j : Nat} {c : Cell}, js.Nodup → js[i]? = some j → κ'[i]? = some c → j < κ.length → (putK js κ' κ)[j]? = some c
  | [], _, _, _, _, _, _, h, _, _ => by simp at h
  | j' :: js, [], κ, i, j, c, _, _, h, _ => by simp at h
  | j' :: js, c' :: cs, κ, i, j, c, nd, h, h2, hl => by
    rw [List.nodup_cons] at nd
    show (putK js cs (κ.set j' c'))[j]? = _
    cases i with
    | zero =>
      simp at h h2
      subst h; subst h2
      rw [putK_ne nd.1, List.getElem?_set_self hl]
    | succ i => exact putK_at nd.2 (by simpa using h) (by simpa using h2) (by rw [List.length_set]; exact hl)
/-- from the callee's end back to the caller -/
theorem back_ok (g : G K B ρ κ H) {js : List Nat} {κl : AK} (nd : js.Nodup) (hk : selK js κ = some κl) {ρl' : List Addr} (w : Up B (selR js ρ) H B' ρl' H') (g' : G K B' ρl' κ' H') (l : js.length ≤ κ'.length) (cl : κ'.all clC = true) (lv : (κ'.drop js.length).all liveC = true) :
    Up B ρ H B' (ρ ++ ρl'.drop js.length) H' ∧ G K B' (ρ ++ ρl'.drop js.length) (backK js κ κ') H' ∧ ∀ {a : AV} {v : V}, Rep K B' ρl' a v → Rep K B' (ρ ++ ρl'.drop js.length) (backA js κ.length a) v := by
  obtain ⟨lk, sel⟩ := selK_get hk
  have jlt : ∀ {i j : Nat}, js[i]? = some j → j < κ.length := fun h => by
    obtain ⟨c, e, _⟩ := sel _ _ h
    exact (List.getElem?_eq_some_iff.mp e).1
  have rl : ∀ {i j : Nat} {p : Addr}, js[i]? = some j → ρ[j]? = some p → ρl'[i]? = some p := fun h hp => w.p _ _ (selR_get h hp)
  have memsel : ∀ {i : Nat} {p : Addr}, ρ[i]? = some p → p ∈ selR js ρ → i ∈ js := fun {i p} hp hm => by
    unfold selR at hm
    obtain ⟨j, hj, e⟩ := List.mem_map.mp hm
    obtain ⟨m, hm⟩ := List.mem_iff_getElem?.mp hj
    have lt := jlt hm
    rw [← g.len] at lt
    rw [List.getD_eq_getElem?_getD, List.getElem?_eq_getElem lt] at e
    have : ρ[j]? = some p := by rw [List.getElem?_eq_getElem lt]; exact congrArg some e
    rw [g.inj i j p hp this]; exact hj
  have newne : ∀ {i m : Nat} {p : Addr}, ρ[i]? = some p → (ρl'.drop js.length)[m]? = some p → False := fun {i m p} h1 h2 => by
    rw [List.getElem?_drop] at h2
    by_cases hj : i ∈ js
    · obtain ⟨q, hq⟩ := List.mem_iff_getElem?.mp hj
      have := g'.inj q _ p (rl hq h1) h2
      have := (List.getElem?_eq_some_iff.mp hq).1
      omega
    · have hm : js.length + m < κ'.length := by rw [← g'.len]; exact (List.getElem?_eq_some_iff.mp h2).1
      have ok := g'.at' _ p _ h2 (List.getElem?_eq_getElem hm)
      have live : liveC κ'[js.length + m] = true := List.all_eq_true.mp lv _ (mem_of_get (by rw [List.getElem?_drop]; exact List.getElem?_eq_getElem hm))
      have bn : B' p = none := by
        cases hc : κ'[js.length + m] with
        | dead => rw [hc] at live; cases live
        | ld ys => rw [hc] at ok; exact ok.1
        | lst ys => rw [hc] at ok; exact ok.1
        | tup ys => rw [hc] at ok; exact ok.1
        | dK ys => rw [hc] at ok; exact ok.1
        | dT ys => rw [hc] at ok; exact ok.1
        | ins C ys => rw [hc] at ok; exact ok.1
      have hi : i < κ.length := by rw [← g.len]; exact (List.getElem?_eq_some_iff.mp h1).1
      have hn := (g.at' i p _ h1 (List.getElem?_eq_getElem hi)).nn
      cases hH : H p with
      | none => exact hn hH
      | some o =>
        exact (w.f p o hH (w.s.free bn) fun z => hj (memsel h1 z)).2.2 (mem_of_get h2)
  have w2 : Up B ρ H B' (ρ ++ ρl'.drop js.length) H' := ⟨w.s, fun _ _ h => get_app h, fun p o h1 h2 h3 => by
    have hp : p ∉ selR js ρ := fun z => by
      unfold selR at z
      obtain ⟨j, hj, e⟩ := List.mem_map.mp z
      obtain ⟨m, hm⟩ := List.mem_iff_getElem?.mp hj
      have lt := jlt hm
      rw [← g.len] at lt
      rw [List.getD_eq_getElem?_getD, List.getElem?_eq_getElem lt] at e
      exact h3 (by rw [← e]; exact List.getElem_mem lt)
    obtain ⟨y1, y2, y3⟩ := w.f p o h1 h2 hp
    refine ⟨y1, y2, fun z => ?_⟩
    rcases List.mem_append.mp z with z | z
    · exact h3 z
    · exact y3 (List.mem_of_mem_drop z)⟩
  have lb : (putK js κ' κ).length = ρ.length := by rw [putK_len, g.len]
  refine ⟨w2, ⟨g'.ex, ?_, fun i j p h1 h2 => ?_, fun i p c h1 h2 => ?_⟩, fun {a v} r => ?_⟩
  · rw [backK_eq, List.length_append, List.length_append, lb, List.length_drop, List.length_drop, g'.len]
  · by_cases hi : i < ρ.length
    · rw [List.getElem?_append_left hi] at h1
      by_cases hj : j < ρ.length
      · rw [List.getElem?_append_left hj] at h2
        exact g.inj i j p h1 h2
      · rw [List.getElem?_append_right (by omega)] at h2
        exact (newne h1 h2).elim
    · rw [List.getElem?_append_right (by omega)] at h1
      by_cases hj : j < ρ.length
      · rw [List.getElem?_append_left hj] at h2
        exact (newne h2 h1).elim
      · rw [List.getElem?_append_right (by omega)] at h2
        rw [List.getElem?_drop] at h1 h2
        have := g'.inj _ _ p h1 h2
        omega
  · rw [backK_eq] at h2
    by_cases hi : i < ρ.length
    · rw [List.getElem?_append_left hi] at h1
      rw [List.getElem?_append_left (by omega)] at h2
      by_cases hj : i ∈ js
      · obtain ⟨q, hq⟩ := List.mem_iff_getElem?.mp hj
        have hq' : q < κ'.length := Nat.lt_of_lt_of_le (List.getElem?_eq_some_iff.mp hq).1 l
        rw [putK_at nd hq (List.getElem?_eq_getElem hq') (jlt hq)] at h2
        cases h2
        exact (g'.at' q p _ (rl hq h1) (List.getElem?_eq_getElem hq')).cl (List.all_eq_true.mp cl _ (List.getElem_mem hq'))
      · rw [putK_ne hj] at h2
        have ok := g.at' i p c h1 h2
        have hp : p ∉ selR js ρ := fun z => hj (memsel h1 z)
        refine ok.up w2.g (fun bn => ?_) fun o ho => ?_
        · obtain ⟨o, ho⟩ := Option.ne_none_iff_exists'.mp ok.nn
          exact (w.f p o ho bn hp).2.1
        · cases bp : B p with
          | none => exact (w.f p o ho bp hp).1
          | some u =>
            have e1 := g.ex p u bp
            rw [ho] at e1; cases e1
            exact g'.ex p o (w.s p o bp)
    · rw [List.getElem?_append_right (by omega), List.getElem?_drop] at h1
      rw [List.getElem?_append_right (by omega), lb, List.getElem?_drop] at h2
      exact (g'.at' _ p c h1 h2).cl (List.all_eq_true.mp cl _ (mem_of_get h2))
  · cases a with
    | d y => exact r
    | r y => exact r
    | c j =>
      obtain ⟨p, hp, rfl⟩ := r
      show Rep K B' _ (match js[j]? with | some k => .c k | none => .c (κ.length + (j - js.length))) _
      cases e : js[j]? with
      | some k =>
        have lt := jlt e
        rw [← g.len] at lt
        have e2 := rl e (List.getElem?_eq_getElem lt)
        rw [hp] at e2; cases e2
        exact ⟨_, get_app (List.getElem?_eq_getElem lt), rfl⟩
      | none =>
        have hj : js.length ≤ j := List.getElem?_eq_none_iff.mp e
        refine ⟨p, ?_, rfl⟩
        rw [← g.len, List.getElem?_append_right (by omega), List.getElem?_drop]
        have : js.length + (ρ.length + (j - js.length) - ρ.length) = j := by omega
        rw [this]; exact hp
theorem sel_ok (g : G K B ρ κ H) {js : List Nat} {κl : AK} (nd : js.Nodup) (hk : selK js κ = some κl) : G K B (selR js ρ) κl H := by
  obtain ⟨lk, sel⟩ := selK_get hk
  have get : ∀ {i : Nat} {p : Addr}, (selR js ρ)[i]? = some p → ∃ j c, js[i]? = some j ∧ ρ[j]? = some p ∧ κ[j]? = some c ∧ κl[i]? = some c ∧ clC c = true := fun {i p} h => by
    unfold selR at h
    rw [List.getElem?_map] at h
    obtain ⟨j, hj, e⟩ := Option.map_eq_some_iff.mp h
    obtain ⟨c, e1, e2, e3⟩ := sel i j hj
    have lt : j < ρ.length := by rw [g.len]; exact (List.getElem?_eq_some_iff.mp e1).1
    rw [List.getD_eq_getElem?_getD, List.getElem?_eq_getElem lt] at e
    exact ⟨j, c, hj, by rw [List.getElem?_eq_getElem lt]; exact congrArg some e, e1, e2, e3⟩
  refine ⟨g.ex, by unfold selR; rw [List.length_map, lk], fun i i' p h1 h2 => ?_, fun i p c h1 h2 => ?_⟩
  · obtain ⟨j, _, y1, y2, _⟩ := get h1
    obtain ⟨j', _, z1, z2, _⟩ := get h2
    have e := g.inj j j' p y2 z2
    subst e
    have l1 := (List.getElem?_eq_some_iff.mp y1)
    have l2 := (List.getElem?_eq_some_iff.mp z1)
    obtain ⟨a1, b1⟩ := l1
    obtain ⟨a2, b2⟩ := l2
    exact (List.getElem_inj nd).mp (b1.trans b2.symm)
  · obtain ⟨j, c', y1, y2, y3, y4, y5⟩ := get h1
    rw [h2] at y4; cases y4
    exact (g.at' j p c y2 y3).cl y5
theorem se_call {F : FSp} {ta : TA} {fa : AA} {E : XK} {E' : AX → AK → Prop} (ha : SA K ta fa) (hE : ∀ κ' x cls d H', E' x κ' → E cls d H' → True) (hx : ∀ B' H' x κ' cls d, E' x κ' → RepX K B' H' x cls d → E cls d H') : SE K (tCall (spA K F) [] E ta) (aCall F E' fa) := fun B ρ δ κ σ H R Q s g h q =>
  ha B ρ δ κ σ H _ _ s g h fun B1 ρ1 κ1 H1 as vs w1 g1 r1 hcw => by
    obtain ⟨js, asl, κl, nd, e1, e2, hF⟩ := callW_e hcw
    show spA K F (vs ++ []) H1 Q E
    rw [List.append_nil]
    refine ⟨B1, selR js ρ1, κl, asl, _, _, sel_ok g1 nd e2, selAs_ok (fun i j p h1 h2 => selR_get h1 h2) e1 r1, hF, ?_, ?_⟩
    · rintro B' ρ' κ' H' a v w2 g2 r2 ⟨l, cl, lv, hR⟩
      obtain ⟨w3, g3, r3⟩ := back_ok g1 nd e2 w2 g2 l cl lv
      exact q _ _ _ _ _ _ (w1.trans w3) g3 (r3 r2) hR
    · rintro B' ρ' κ' H' x cls d w2 g2 r2 ⟨l, cl, lv, hR⟩
      exact hx _ _ _ _ _ _ hR r2
section
variable {l : Nat} {fa : Addr} {fd : FuncData} {ps : List Str} {F : FSp} {x : Str} {q pos : Pos} {es : List Expr} {ta : TA} {ga : AA}
/-- f(..) of a def from which nothing is raised -/
theorem ea_call (Fo : FnOk X.prog X.w X.K X.mg X.base CX0 l fa fd ps (spA K F)) (hr : Room l X.A) (hg : Gl X x) (hm : X.mg x = some (.ref fa)) (hk : PySem.W.keepIn X.K (.ref fa) = true) (hb : Binds X.K fd ps []) (ha : PAa K X (e :: es) ta ga)
    (hdb : (x == ("__debug__" : Str)) = false := by decide) (he : starEach (e :: es) X.env = (false, eval e X.env) :: starEach es X.env := by rfl) (hpl : (backTo pos (starEach es X.env)).any (·.1) = false := by rfl) (hK : X.K = K := by rfl) :
    PEa K X (.Call (.Name x q) (e :: es) [] pos) (tCall (spA K F) [] E0 ta) (aCall F (fun _ _ => False) ga) := by
  subst hK
  exact ⟨pe_call Fo hr hg hm hk hb .nil pass0 ha.pa hdb he hpl, se_call ha.sd (fun _ _ _ _ _ _ _ => trivial) fun _ _ _ _ _ _ h => h.elim⟩
end
end Ab
set_option Elab.async false
set_option linter.all false
set_option maxRecDepth 100000
set_option maxHeartbeats 4000000
/-! Ab7: the law's own promise, constants of the top, small things -/
namespace Ab
open PySem L2
variable {K : PySem.W.Frag} {B B' H H' : Hp} {ρ ρ' : List Addr} {κ κ' : AK} {X : Cx}
/-- the law: True at every script -/
def F_law : FSp := fun as κ R _ => ∃ ns : List Int, as = [.d (.list (ns.map .int))] ∧ κ = [] ∧ ns.length ≤ 63 ∧ R (.d (.bool true)) []
theorem dpa_ints : ∀ ns : List Int, DpAll K B (ns.map V.int) (ns.map .int)
  | [] => .nil
  | n :: ns => .cons (.int n) (dpa_ints ns)
theorem law_start {H : Hp} {a : Addr} {ns : List Int} (hl : ns.length ≤ 63) (hS : SqL K H a (ns.map V.int)) : spA K F_law [.ref a] H (fun v _ => v = .bl true) (fun _ _ _ => False) :=
  ⟨H, [], [], [.d (.list (ns.map .int))], fun a _ => a = .d (.bool true), fun _ _ => False, ⟨Same.refl H, rfl, fun i j p h => by simp at h, fun k p c h => by simp at h⟩, .cons (.lst hS (dpa_ints ns)) .nil, ⟨ns, rfl, rfl, hl, rfl⟩,
    fun B' ρ' κ' H' a v w g r e => by subst e; exact r.bool, fun _ _ _ _ _ _ _ _ _ _ h => h.elim⟩
theorem len_law : ∀ as κ R E', F_law as κ R E' → as.length = (["script"] : List Str).length := by
  rintro as κ R E' ⟨ns, rfl, _⟩; rfl
theorem fd_all {P : Program} {w : World} {mg : Str → Option Value} {l : Nat} {fa : Addr} {sp : Sp} (h : ∃ fd : FuncData, (∀ (s : Shared) (v : Value), BindsTo s fd ⟨[v], []⟩ [("script", v)]) ∧ ∀ (P : Program) (w : World) (base : Heap), FnOk P w K mg base CX0 l fa fd ["script"] sp) :
    ∃ fd : FuncData, (∀ (s : Shared) (v : Value), BindsTo s fd ⟨[v], []⟩ [("script", v)]) ∧ ∀ base : Heap, K.In base → base.Ns mainGlobals mg → FnOk P w K mg base CX0 l fa fd ["script"] sp := by
  obtain ⟨fd, h1, h2⟩ := h
  exact ⟨fd, h1, fun base _ _ => h2 P w base⟩
theorem sp_imp {F F' : FSp} (h : ∀ as κ R E', F as κ R E' → F' as κ R E') {vs : List V} {Q : VK} {E : XK} (s : spA K F vs H Q E) : spA K F' vs H Q E := by
  obtain ⟨B, ρ, κ, as, R, E', g, r, f, q⟩ := s
  exact ⟨B, ρ, κ, as, R, E', g, r, h _ _ _ _ f, q⟩
/-- a tuple of texts of the top -/
inductive StrVals : List Value → List PyData → Prop where
  | nil : StrVals [] []
  | cons (x : Str) (t : Tok) {vs : List Value} {ds : List PyData} : StrVals vs ds → StrVals (.str x t :: vs) (.str x :: ds)
theorem strVals_v {vs : List Value} {ds : List PyData} (h : StrVals vs ds) : ∃ xs : List V, Vals xs vs ∧ DpAll K B xs ds := by
  induction h with
  | nil => exact ⟨[], .nil, .nil⟩
  | cons x t _ ih => obtain ⟨xs, h1, h2⟩ := ih; exact ⟨.str x :: xs, .cons ⟨t, rfl⟩ h1, .cons (.str x) h2⟩
theorem dp_strs {a : Addr} {o : Obj} {n : Nat} {vs : Array Value} {ds : List PyData} (h : K.lookup a = some o) (hc : o.cls = .type "tuple") (hd : o.data = .seq vs n) (hz : vs.size ≤ sizeLine) (hs : StrVals vs.toList ds) : Dp K B (.ref a) (.tuple ds) := by
  obtain ⟨xs, h1, h2⟩ := strVals_v (K := K) (B := B) hs
  exact .tup (.inr ⟨o, vs, n, h, hc, hd, hz, h1⟩) h2
/-- min of two numbers -/
def aMin2 : List AV → AK → AR → Prop := fun as κ R => match as with
  | [.d (.int i), .d (.int j)] => R (.d (.int (if j < i then j else i))) κ
  | _ => False
theorem ca_min (hc : X.calm = true) : CallA K X (.builtin "min") (fun xs H Q => ∃ i j, xs = [.int i, .int j] ∧ Q (.int (if j < i then j else i)) H) aMin2 := ⟨call_min2 hc, fun B ρ κ H xs as R Q g rs h q => by
  unfold aMin2 at h
  split at h
  · obtain ⟨x, y, rfl, r1, r2⟩ := reps2 rs
    exact ⟨_, _, by rw [r1.int, r2.int], q.at0 g (rp_int _) h⟩
  · exact h.elim⟩
/-- isinstance's answers -/
theorem kit_b (a b : String) (r : Bool) (h : kitB a b = some r) : kitB a b = some r := h

/-! comprehensions: over known items, over a range, over a text, over the cell at k -/
variable {ag : AG} {pt : AT} {f : AE} {vs : List Nat} {δ : AD} {κ1 : AK} {R : AR}
theorem lc_d {xs : List PyData} (Pv : Nat → List PyData → AK → Prop) (h0 : Pv 0 [] κ1) (hd : ∀ acc κ', Pv xs.length acc κ' → R (.d (.list acc)) κ')
    (hs : ∀ i x acc κ', xs[i]? = some x → Pv i acc κ' → ag (.d x) (wipeA δ vs) κ' fun δ2 κ2 => pt δ2 κ2 fun b κ3 => bsel b (f δ2 κ3 fun y κ4 => ∃ d, y = .d d ∧ acc.length < sizeLine ∧ Pv (i + 1) (acc ++ [d]) κ4) (Pv (i + 1) acc κ3)) : LcW (itD xs) ag pt f vs δ κ1 R := by
  refine lcw.mpr ⟨fun i m acc κ' => m = xs.length - i ∧ i ≤ xs.length ∧ Pv i acc κ', ⟨_, rfl, Nat.zero_le _, h0⟩, ?_⟩
  rintro i m acc κ' ⟨rfl, hi, p⟩
  by_cases hlt : i < xs.length
  · refine .inr ⟨hlt, Pv (i + 1), fun _ _ q => ⟨xs.length - (i + 1), by omega, rfl, hlt, q⟩, ?_⟩
    rintro a ⟨x, hx, rfl⟩
    exact hs i x acc κ' hx p
  · have e : i = xs.length := by omega
    subst e
    exact .inl ⟨Nat.le_refl _, hd _ _ p⟩
theorem lc_r {lo : Int} {N : Nat} (Pv : Nat → List PyData → AK → Prop) (h0 : Pv 0 [] κ1) (hd : ∀ acc κ', Pv N acc κ' → R (.d (.list acc)) κ')
    (hs : ∀ i acc κ', i < N → Pv i acc κ' → ag (.d (.int (lo + i))) (wipeA δ vs) κ' fun δ2 κ2 => pt δ2 κ2 fun b κ3 => bsel b (f δ2 κ3 fun y κ4 => ∃ d, y = .d d ∧ acc.length < sizeLine ∧ Pv (i + 1) (acc ++ [d]) κ4) (Pv (i + 1) acc κ3)) : LcW (itR lo N) ag pt f vs δ κ1 R := by
  refine lcw.mpr ⟨fun i m acc κ' => m = N - i ∧ i ≤ N ∧ Pv i acc κ', ⟨_, rfl, Nat.zero_le _, h0⟩, ?_⟩
  rintro i m acc κ' ⟨rfl, hi, p⟩
  by_cases hlt : i < N
  · refine .inr ⟨hlt, Pv (i + 1), fun _ _ q => ⟨N - (i + 1), by omega, rfl, hlt, q⟩, ?_⟩
    rintro a rfl
    exact hs i acc κ' hlt p
  · have e : i = N := by omega
    subst e
    exact .inl ⟨Nat.le_refl _, hd _ _ p⟩
theorem lc_c {k : Nat} {xs : List PyData} (Pv : Nat → List PyData → AK → Prop) (h0 : Pv 0 [] κ1) (hk : ∀ i acc κ', Pv i acc κ' → κ'[k]? = some (.ld xs)) (hd : ∀ acc κ', Pv xs.length acc κ' → R (.d (.list acc)) κ')
    (hs : ∀ i x acc κ', xs[i]? = some x → Pv i acc κ' → ag (.d x) (wipeA δ vs) κ' fun δ2 κ2 => pt δ2 κ2 fun b κ3 => bsel b (f δ2 κ3 fun y κ4 => ∃ d, y = .d d ∧ acc.length < sizeLine ∧ Pv (i + 1) (acc ++ [d]) κ4) (Pv (i + 1) acc κ3)) : LcW (itC k) ag pt f vs δ κ1 R := by
  refine lcw.mpr ⟨fun i m acc κ' => m = xs.length - i ∧ i ≤ xs.length ∧ Pv i acc κ', ⟨_, rfl, Nat.zero_le _, h0⟩, ?_⟩
  rintro i m acc κ' ⟨rfl, hi, p⟩
  by_cases hlt : i < xs.length
  · refine .inr ⟨⟨xs, hk _ _ _ p, hlt⟩, Pv (i + 1), fun _ _ q => ⟨xs.length - (i + 1), by omega, rfl, hlt, q⟩, ?_⟩
    rintro a ⟨ys, x, hy, hx, rfl⟩
    rw [hk _ _ _ p] at hy; cases hy
    exact hs i x acc κ' hx p
  · have e : i = xs.length := by omega
    subst e
    exact .inl ⟨⟨xs, hk _ _ _ p, Nat.le_refl _⟩, hd _ _ p⟩
/-! items at places -/
theorem at_mem {α : Type} {xs : List α} {i : Int} (h0 : 0 ≤ i) (h : i < xs.length) : ∃ w, atI xs i = some w ∧ w ∈ xs ∧ xs[i.toNat]? = some w := by
  obtain ⟨j, rfl⟩ := Int.eq_ofNat_of_zero_le h0
  have hj : j < xs.length := by omega
  exact ⟨xs[j], atI_nat (List.getElem?_eq_getElem hj), List.getElem_mem hj, by simpa using List.getElem?_eq_getElem hj⟩
theorem at_nat {α : Type} {xs : List α} {j : Nat} {w : α} (h : xs[j]? = some w) : atI xs (j : Int) = some w := atI_nat h
/-! texts -/
abbrev tl (x : Str) : List Nat := x.cps.toList
theorem tl_app (a b : Str) : tl (a ++ b) = tl a ++ tl b := by
  show (a.cps ++ b.cps).toList = _
  rw [Array.toList_append]
theorem tl_len (a : Str) : a.length = (tl a).length := by
  show a.cps.size = a.cps.toList.length
  rw [Array.length_toList]
theorem tl_inj {a b : Str} (h : tl a = tl b) : a = b := by
  obtain ⟨x⟩ := a
  obtain ⟨y⟩ := b
  congr 1
  exact Array.toList_inj.mp h
theorem tl_one (c : Nat) : tl ⟨#[c]⟩ = [c] := rfl
theorem inD_str (z : Str) (xs : List Str) : inD (.str z) (xs.map .str) = decide (z ∈ xs) := by
  induction xs with
  | nil => rfl
  | cons x xs ih =>
    show (x == z || inD (.str z) (xs.map .str)) = _
    rw [ih, Bool.eq_iff_iff]
    simp only [Bool.or_eq_true, beq_iff_eq, decide_eq_true_eq, List.mem_cons]
    constructor
    · rintro (h | h)
      · exact .inl h.symm
      · exact .inr h
    · rintro (h | h)
      · exact .inl h.symm
      · exact .inr h
theorem flat_strs (xs : List Str) : (xs.map PyData.str).all flatD = true := by
  induction xs with
  | nil => rfl
  | cons x xs ih => exact ih
/-! slots forgotten -/
theorem wipeA_some {δ : AD} : ∀ {vs : List Nat} {i : Nat} {a : AV}, (wipeA δ vs)[i]? = some (some a) → δ[i]? = some (some a)
  | [], _, _, h => h
  | v :: vs, i, a, h => by
    have h : ((wipeA δ vs).set v none)[i]? = some (some a) := h
    rw [List.getElem?_set] at h
    split at h
    · split at h <;> cases h
    · exact wipeA_some h
theorem wipeA_len (δ : AD) : ∀ vs : List Nat, (wipeA δ vs).length = δ.length
  | [] => rfl
  | v :: vs => by
    show ((wipeA δ vs).set v none).length = _
    rw [List.length_set, wipeA_len]
theorem GhS.wipe {n : Nat} {δ : AD} (vs : List Nat) (l : n ≤ κ.length) : GhS K n δ κ (wipeA δ vs) κ := GhS.forget l (wipeA_len δ vs) fun _ _ h => wipeA_some h
end Ab
set_option Elab.async false
set_option linter.all false
set_option maxRecDepth 100000
set_option maxHeartbeats 4000000
/-! Ab8: lists one behind the other, pop, insert, tuple(x), join, f-strings, dicts -/
namespace Ab
open PySem L2
variable {K : PySem.W.Frag} {B B' B2 H H' H2 : Hp} {ρ ρ' ρ2 : List Addr} {κ κ' : AK} {δ : AD} {σ : L2.St} {p : Addr} {k : Nat} {v x y z : V} {a b c : AV}
variable {X : Cx} {e e2 : Expr} {t u : TE} {f f2 : AE} {pos : Pos}

/-! ### items -/
/-- the items of a list of data -/
def ldOf (κ : AK) : AV → Option (List PyData)
  | .d (.list xs) => some xs
  | .c k => match κ[k]? with
    | some (.ld xs) => some xs
    | _ => none
  | _ => none
theorem ldOf_ok (g : G K B ρ κ H) (r : Rep K B ρ a v) {xs : List PyData} (h : ldOf κ a = some xs) : ∃ p vs, v = .ref p ∧ SqL K H p vs ∧ DpAll K B vs xs := by
  unfold ldOf at h
  split at h
  · cases h; exact of_listG g r
  · obtain ⟨p, hp, rfl⟩ := r
    split at h
    · rename_i ys ek
      cases h
      obtain ⟨p', hp', _, vs, d1, eH⟩ := g.cell ek
      rw [hp] at hp'; cases hp'
      exact ⟨p, vs, rfl, .inl (.inl eH), d1⟩
    · cases h
  · cases h
def rCatS (K : PySem.W.Frag) : R2 := fun x y H Q => ∃ l b xs zs, x = .ref l ∧ y = .ref b ∧ SqL K H l xs ∧ SqL K H b zs ∧ xs.length + zs.length ≤ sizeLine ∧ ∀ p, H p = none → Q (.ref p) (upd H p (.lst (xs ++ zs)))
theorem op_catS : OpR X (binaryOp .Add) (rCatS X.K) := by
  intro pins s σ H x y v u Q I rx ry h
  obtain ⟨l, b, xs, zs, rfl, rfl, hx, hy, hz, q⟩ := h
  cases rx
  cases ry
  obtain ⟨its, r1, ⟨⟨cls, dd, data, sl⟩, n, ho, hc, hdn, hd⟩, _⟩ := I.list hx
  obtain ⟨its2, r2, ⟨⟨cls2, dd2, data2, sl2⟩, n2, ho2, hc2, hdn2, hd2⟩, _⟩ := I.list hy
  simp only at hc hd hc2 hd2
  subst hc hd hc2 hd2
  have e1 := r1.length
  have e2 := r2.length
  have e : its.toArray ++ its2.toArray = (its ++ its2).toArray := by simp
  refine concat_meets ⟨_, ho, rfl⟩ ⟨_, ho2, rfl⟩ noFill_list_add seq_list_add PySem.F.slot_list_add PySem.F.entry_list_add (PySem.F.args_list_add_2 _ _) (PyProof.Rows.list_addW l b its.toArray its2.toArray n n2 dd dd2 sl sl2 (by simp only [List.size_toArray]; omega)) ⟨ho, ho2, ?_⟩
  rw [e]
  exact ⟨.ref _, _, I.lnew (t' := s.toks) (r1.append r2) (by rw [List.length_append]; omega), rfl, q _ I.fresh⟩
/-- lists one behind the other: a new list as data, as a cell -/
def aCat (m : Bool) : AO := fun a b κ R => ∃ xs ys, ldOf κ a = some xs ∧ ldOf κ b = some ys ∧ xs.length + ys.length ≤ sizeLine ∧ (match m with
  | true => R (.c κ.length) (κ ++ [.ld (xs ++ ys)])
  | false => R (.d (.list (xs ++ ys))) κ)
theorem oa_cat (m : Bool) (hK : X.K = K := by rfl) : OpA K X (binaryOp .Add) (rCatS K) (aCat m) := by
  subst hK
  refine ⟨op_catS, ?_⟩
  intro B ρ κ H x y a b R Q g rx ry h q
  obtain ⟨xs, ys, h1, h2, hz, h⟩ := h
  obtain ⟨p, vs, rfl, s1, d1⟩ := ldOf_ok g rx h1
  obtain ⟨p', vs', rfl, s2, d2⟩ := ldOf_ok g ry h2
  refine ⟨_, _, vs, vs', rfl, rfl, s1, s2, by rw [dpa_len d1, dpa_len d2]; exact hz, fun p hp => ?_⟩
  cases m with
  | true =>
    obtain ⟨u4, g4, r4⟩ := new_ld g hp (dpa_app d1 d2)
    exact q _ _ _ _ _ _ u4 g4 r4 h
  | false =>
    obtain ⟨u4, g4, r4⟩ := new_lst g hp (dpa_app d1 d2)
    exact q _ _ _ _ _ _ u4 g4 r4 h
/-- a text none or one times -/
def aMulS : AO := fun a b κ R => match a, b with
  | .d (.str s), .d (.int n) => (n = 0 ∧ R (.d (.str Str.empty)) κ) ∨ (n = 1 ∧ R (.d (.str s)) κ)
  | _, _ => False
def rMulS : R2 := fun x y H Q => ∃ s n, x = .str s ∧ y = .int n ∧ ((n = 0 ∧ Q (.str Str.empty) H) ∨ (n = 1 ∧ Q (.str s) H))
theorem op_mulS : OpR X (binaryOp .Mult) rMulS := by
  intro pins s σ H x y v u Q I rx ry h
  obtain ⟨z, n, rfl, rfl, h⟩ := h
  obtain ⟨t, rfl⟩ := rx
  obtain ⟨t2, rfl⟩ := ry
  rcases h with ⟨rfl, q⟩ | ⟨rfl, q⟩
  · exact PySem.SB.mul ⟨by decide, fun h => absurd (by decide) h, fun h => absurd (by decide) h⟩ fun t' k => ⟨.str _, H, I.tok k, ⟨t', rfl⟩, q⟩
  · exact PySem.SB.mul ⟨by decide, fun _ h => (by simp at h), fun _ h => (by simp at h)⟩ fun t' k => ⟨.str z, H, I.tok k, ⟨t', rfl⟩, q⟩
theorem oa_mulS : OpA K X (binaryOp .Mult) rMulS aMulS := by
  refine ⟨op_mulS, ?_⟩
  intro B ρ κ H x y a b R Q g rx ry h q
  unfold aMulS at h
  split at h
  · refine ⟨_, _, rx.str, ry.int, ?_⟩
    rcases h with ⟨e, h⟩ | ⟨e, h⟩
    · exact .inl ⟨e, q.at0 g (rp_str _) h⟩
    · exact .inr ⟨e, q.at0 g (rp_str _) h⟩
  · exact h.elim

/-! ### tuple(x) -/
def aTupOf : List AV → AK → AR → Prop := fun as κ R => match as with
  | [.d (.tuple ds)] => R (.d (.tuple ds)) κ
  | [a] => ∃ ds, ldOf κ a = some ds ∧ R (.d (.tuple ds)) κ
  | _ => False
theorem ca_tuple (hK : X.K = K := by rfl) : CallA K X (.type "tuple") (fun xs H Q => ∃ p ys, xs = [.ref p] ∧ ((SqL K H p ys ∧ ∀ l, H l = none → Q (.ref l) (upd H l (.tup ys))) ∨ (SqT K H p ys ∧ Q (.ref p) H))) aTupOf := by
  subst hK
  refine ⟨call_tuple_of, fun B ρ κ H xs as R Q g rs h q => ?_⟩
  unfold aTupOf at h
  split at h
  · obtain ⟨x, rfl, r⟩ := reps1 rs
    have r' := r
    obtain ⟨p, vs, rfl, s1, d1⟩ := of_tupG g r
    exact ⟨p, vs, rfl, .inr ⟨s1, q.at0 g r' h⟩⟩
  · obtain ⟨x, rfl, r⟩ := reps1 rs
    obtain ⟨ds, hd, h⟩ := h
    obtain ⟨p, vs, rfl, s1, d1⟩ := ldOf_ok g r hd
    refine ⟨p, vs, rfl, .inl ⟨s1, fun l hl => ?_⟩⟩
    obtain ⟨u4, g4, r4⟩ := new_tup g hl d1
    exact q _ _ _ _ _ _ u4 g4 r4 h
  · exact h.elim

/-! ### methods -/
theorem dpa_erase : ∀ {ds : List PyData} {vs : List V} (n : Nat), DpAll K B vs ds → DpAll K B (vs.eraseIdx n) (ds.eraseIdx n)
  | [], _, n, h => by cases h; simp; exact .nil
  | d :: ds, _, n, h => by
    cases h with
    | cons h1 h2 =>
      cases n with
      | zero => exact h2
      | succ n => exact .cons h1 (dpa_erase n h2)
/-- xs.pop(i), i not below 0 -/
def aPopAt : AV → List AV → AK → AR → Prop := fun a as κ R => match a, as with
  | .c k, [.d (.int i)] => ∃ xs w, κ[k]? = some (.ld xs) ∧ 0 ≤ i ∧ i < 2 ^ 63 ∧ xs[i.toNat]? = some w ∧ R (.d w) (κ.set k (.ld (xs.eraseIdx i.toNat)))
  | _, _ => False
theorem ma_popAt : MtA K X "list.pop" rPopAt aPopAt := by
  refine ⟨mt_popAt, fun B ρ κ H x xs a as R Q g rx rs h q => ?_⟩
  unfold aPopAt at h
  split at h
  · rename_i k i
    obtain ⟨p, hp, rfl⟩ := rx
    obtain ⟨y, rfl, ry⟩ := reps1 rs
    obtain ⟨ys, w, ek, h0, h63, hw, h⟩ := h
    obtain ⟨vs, r, eH, wr⟩ := g.ldAt hp ek
    obtain ⟨v, hv, rv⟩ := dpa_get r hw
    obtain ⟨u2, g2⟩ := wr _ _ (dpa_erase i.toNat r)
    have hl : i.toNat < vs.length := (List.getElem?_eq_some_iff.mp hv).1
    refine ⟨p, vs, i, i.toNat, v, rfl, by rw [ry.int], eH, by omega, h63, ?_, hv, q _ _ _ _ (.d w) _ u2 g2 (dp_up u2.s _ _ rv) h⟩
    have hneg : ¬ i < 0 := by omega
    have hpos : (decide (0 ≤ i) && decide (i < (vs.length : Int))) = true := by rw [Bool.and_eq_true]; exact ⟨decide_eq_true h0, decide_eq_true (by omega)⟩
    simp [seqIndex?, hneg, h0]
    omega
  · exact h.elim
/-- xs.pop() -/
def aPop : AV → List AV → AK → AR → Prop := fun a as κ R => match a, as with
  | .c k, [] => ∃ xs w, κ[k]? = some (.ld (xs ++ [w])) ∧ R (.d w) (κ.set k (.ld xs))
  | _, _ => False
theorem ma_pop : MtA K X "list.pop" rPop aPop := by
  refine ⟨mt_pop, fun B ρ κ H x xs a as R Q g rx rs h q => ?_⟩
  unfold aPop at h
  split at h
  · rename_i k
    obtain ⟨p, hp, rfl⟩ := rx
    cases rs
    obtain ⟨ys, w, ek, h⟩ := h
    obtain ⟨vs, r, eH, wr⟩ := g.ldAt hp ek
    have hl := dpa_len r
    rw [List.length_append, List.length_singleton] at hl
    obtain ⟨v, hv, rv⟩ := dpa_get r (i := ys.length) (d := w) (by simp)
    have r2 : DpAll K B vs.dropLast ys := by
      have := dpa_take (vs.length - 1) r
      rw [← List.dropLast_eq_take, List.take_append_of_le_length (by omega), List.take_of_length_le (by omega)] at this
      exact this
    obtain ⟨u2, g2⟩ := wr _ _ r2
    refine ⟨p, vs, v, rfl, rfl, eH, by rw [hl]; exact hv, q _ _ _ _ (.d w) _ u2 g2 (dp_up u2.s _ _ rv) h⟩
  · exact h.elim
/-- xs.insert(i, y), i not below 0 -/
def aInsert : AV → List AV → AK → AR → Prop := fun a as κ R => match a, as with
  | .c k, [.d (.int i), .d z] => ∃ xs, κ[k]? = some (.ld xs) ∧ xs.length < sizeLine ∧ 0 ≤ i ∧ i < 2 ^ 63 ∧ R (.d .none) (κ.set k (.ld (xs.take i.toNat ++ [z] ++ xs.drop i.toNat)))
  | _, _ => False
theorem ma_insert : MtA K X "list.insert" (fun x vs H Q => ∃ (l : Addr) (xs : List V) (i : Int) (y : V), x = .ref l ∧ vs = [.int i, y] ∧ H l = some (.lst xs) ∧ xs.length < sizeLine ∧ 0 ≤ i ∧ i < 2 ^ 63 ∧
    Q .non (upd H l (.lst (xs.take i.toNat ++ [y] ++ xs.drop i.toNat)))) aInsert := by
  refine ⟨mt_insert, fun B ρ κ H x xs a as R Q g rx rs h q => ?_⟩
  unfold aInsert at h
  split at h
  · obtain ⟨p, hp, rfl⟩ := rx
    obtain ⟨y, z, rfl, r1, r2⟩ := reps2 rs
    obtain ⟨ys, ek, hl, h0, h1, h⟩ := h
    obtain ⟨vs, r, eH, wr⟩ := g.ldAt hp ek
    obtain ⟨u2, g2⟩ := wr _ _ (dpa_app (dpa_app (dpa_take _ r) (.cons r2 .nil)) (dpa_drop _ r))
    exact ⟨p, vs, _, z, rfl, by rw [r1.int], eH, by rw [dpa_len r]; exact hl, h0, h1, q _ _ _ _ _ _ u2 g2 rp_non h⟩
  · exact h.elim
theorem dpa_strs : ∀ {ys : List Str} {vs : List V}, DpAll K B vs (ys.map .str) → vs = ys.map V.str
  | [], _, h => by cases h; rfl
  | y :: ys, _, h => by
    cases h with
    | cons h1 h2 =>
      cases h1
      rw [dpa_strs h2]; rfl
/-- s.join(x) -/
def aJoin : AV → List AV → AK → AR → Prop := fun a as κ R => match a, as with
  | .d (.str s), [.d (.tuple ds)] => ∃ ys : List Str, ds = ys.map .str ∧ (ys.map (·.length)).sum + ys.length * s.length ≤ 16777216 ∧ R (.d (.str (Txt.join s ys))) κ
  | .d (.str s), [b] => ∃ ys : List Str, ldOf κ b = some (ys.map .str) ∧ (ys.map (·.length)).sum + ys.length * s.length ≤ 16777216 ∧ R (.d (.str (Txt.join s ys))) κ
  | _, _ => False
theorem ma_join (hK : X.K = K := by rfl) : MtA K X "str.join" (fun x xs H Q => ∃ a p, ∃ ys : List Str, x = .str a ∧ xs = [.ref p] ∧ (SqL K H p (ys.map V.str) ∨ SqT K H p (ys.map V.str)) ∧
    (ys.map (·.length)).sum + ys.length * a.length ≤ 16777216 ∧ Q (.str (Txt.join a ys)) H) aJoin := by
  subst hK
  refine ⟨mt_join, fun B ρ κ H x xs a as R Q g rx rs h q => ?_⟩
  unfold aJoin at h
  split at h
  · obtain ⟨y, rfl, ry⟩ := reps1 rs
    cases rx.str
    obtain ⟨ys, rfl, hz, h⟩ := h
    obtain ⟨p, vs, rfl, s1, d1⟩ := of_tupG g ry
    obtain rfl := dpa_strs d1
    exact ⟨_, p, ys, rfl, rfl, .inr s1, hz, q.at0 g (rp_str _) h⟩
  · obtain ⟨y, rfl, ry⟩ := reps1 rs
    cases rx.str
    obtain ⟨ys, hl, hz, h⟩ := h
    obtain ⟨p, vs, rfl, s1, d1⟩ := ldOf_ok g ry hl
    obtain rfl := dpa_strs d1
    exact ⟨_, p, ys, rfl, rfl, .inl s1, hz, q.at0 g (rp_str _) h⟩
  · exact h.elim

/-! ### f-strings -/
def aFmt (f : AE) : AE := fun δ κ R => f δ κ fun a κ1 => match a with
  | .d (.str y) => y.length ≤ sizeLine ∧ R (.d (.str y)) κ1
  | .d (.int i) => i.natAbs.log2 < 1920 ∧ R (.d (.str (toString i))) κ1
  | _ => False
theorem ea_fmt (h : PEa K X e t f) : PEa K X (.FormattedValue e (-1) none pos) (tFmt t) (aFmt f) :=
  ⟨pe_fmt h.pe, fun B ρ δ κ σ H R Q s g hh q => h.sd B ρ δ κ σ H _ _ s g hh fun B1 ρ1 κ1 H1 a x u1 g1 r1 h1 => by
    split at h1
    · exact .inl ⟨_, r1.str, h1.1, q _ _ _ _ _ _ u1 g1 (rp_str _) h1.2⟩
    · exact .inr ⟨_, r1.int, h1.1, q _ _ _ _ _ _ u1 g1 (rp_str _) h1.2⟩
    · exact h1.elim⟩
abbrev AJ := Str → AD → AK → (Str → AK → Prop) → Prop
def aJNil : AJ := fun acc _ κ R => R acc κ
def aJCons (f : AE) (g : AJ) : AJ := fun acc δ κ R => f δ κ fun a κ1 => match a with
  | .d (.str y) => (acc ++ y).length ≤ sizeLine ∧ g (acc ++ y) δ κ1 R
  | _ => False
def SJ (K : PySem.W.Frag) (ts : List TE) (g : AJ) : Prop := ∀ acc B ρ δ κ σ H (R : Str → AK → Prop) (Q : Str → Hp → Prop), S K B ρ δ σ → G K B ρ κ H → g acc δ κ R →
  (∀ B' ρ' κ' H' out, Up B ρ H B' ρ' H' → G K B' ρ' κ' H' → R out κ' → Q out H') → tJs ts acc σ H Q
structure PJa (K : PySem.W.Frag) (X : Cx) (es : List Expr) (ts : List TE) (g : AJ) : Prop where
  pj : PJ X es ts
  sd : SJ K ts g
variable {es : List Expr} {ts : List TE} {gj : AJ}
theorem ja_nil : PJa K X [] [] aJNil := ⟨.nil, fun acc B ρ δ κ σ H R Q s g h q => q _ _ _ _ _ Up.refl g h⟩
theorem ja_cons (h1 : PEa K X e t f) (h2 : PJa K X es ts gj) : PJa K X (e :: es) (t :: ts) (aJCons f gj) :=
  ⟨.cons h1.pe h2.pj, fun acc B ρ δ κ σ H R Q s g hh q => h1.sd B ρ δ κ σ H _ _ s g hh fun B1 ρ1 κ1 H1 a x u1 g1 r1 k1 => by
    split at k1
    · exact ⟨_, r1.str, k1.1, h2.sd _ _ _ _ _ _ _ _ _ (s.up u1.g) g1 k1.2 fun B2 ρ2 κ2 H2 out u2 g2 h2 => q _ _ _ _ _ (u1.trans u2) g2 h2⟩
    · exact k1.elim⟩
def aJoined (g : AJ) : AE := fun δ κ R => g Str.empty δ κ fun out κ1 => R (.d (.str out)) κ1
theorem ea_joined {v1 v2 : Expr} {rest : List Expr} (h : PJa K X (v1 :: v2 :: rest) ts gj) : PEa K X (.JoinedStr (v1 :: v2 :: rest) pos) (fun σ H Q => tJs ts Str.empty σ H fun out H1 => Q (.str out) H1) (aJoined gj) :=
  ⟨pe_joined h.pj, fun B ρ δ κ σ H R Q s g hh q => h.sd _ _ _ _ _ _ _ _ _ s g hh fun B1 ρ1 κ1 H1 out u1 g1 h1 => q _ _ _ _ _ _ u1 g1 (rp_str _) h1⟩

/-! ### dicts with texts and numbers as keys, data as values -/
def keyD : L2.Key → PyData
  | .inl i => .int i
  | .inr s => .str s
theorem rep_key {k : L2.Key} (h : Rep K B ρ (.d (keyD k)) v) : v = kV k := by
  cases k with
  | inl i => exact h.int
  | inr s => exact h.str
def valD (kvs : List (L2.Key × PyData)) (k : L2.Key) : Option PyData := (kvs.find? fun kv => decide (kv.1 = k)).map (·.2)
def putD (kvs : List (L2.Key × PyData)) (k : L2.Key) (v : PyData) : List (L2.Key × PyData) :=
  if (kvs.any fun kv => decide (kv.1 = k)) = true then kvs.map (fun kv => if kv.1 = k then (kv.1, v) else kv) else kvs ++ [(k, v)]
def mergeD (kvs more : List (L2.Key × PyData)) : List (L2.Key × PyData) := more.foldl (fun acc kv => putD acc kv.1 kv.2) kvs
theorem valD_pos {k k' : L2.Key} {d : PyData} {r : List (L2.Key × PyData)} (h : k' = k) : valD ((k', d) :: r) k = some d := by simp [valD, List.find?_cons, h]
theorem valD_neg {k k' : L2.Key} {d : PyData} {r : List (L2.Key × PyData)} (h : k' ≠ k) : valD ((k', d) :: r) k = valD r k := by simp [valD, List.find?_cons, h]
theorem dpks_val {kvs : List (L2.Key × PyData)} {ws : List (L2.Key × V)} {k : L2.Key} {d : PyData} (h : DpKs K B kvs ws) : valD kvs k = some d → ∃ v, valV ws k = some v ∧ Dp K B v d := by
  unfold DpKs at h
  induction h with
  | nil => intro e; cases e
  | @cons p q ps qs h1 h2 ih =>
    obtain ⟨k1, d1⟩ := p
    obtain ⟨k2, v2⟩ := q
    obtain ⟨e, r⟩ := h1
    have e : k1 = k2 := e
    subst e
    intro hd
    by_cases hk : k1 = k
    · rw [valD_pos hk] at hd
      cases hd
      exact ⟨v2, valV_pos hk, r⟩
    · rw [valD_neg hk] at hd
      obtain ⟨v, h3, h4⟩ := ih hd
      exact ⟨v, by rw [valV_neg (p := (k1, v2)) hk]; exact h3, h4⟩
theorem dpks_any {kvs : List (L2.Key × PyData)} {ws : List (L2.Key × V)} {k : L2.Key} (h : DpKs K B kvs ws) : (kvs.any fun kv => decide (kv.1 = k)) = ws.any fun kv => decide (kv.1 = k) := by
  unfold DpKs at h
  induction h with
  | nil => rfl
  | @cons p q ps qs h1 h2 ih => rw [List.any_cons, List.any_cons, ih, h1.1]
theorem dpks_app {kvs kvs2 : List (L2.Key × PyData)} {ws ws2 : List (L2.Key × V)} (h : DpKs K B kvs ws) (h2 : DpKs K B kvs2 ws2) : DpKs K B (kvs ++ kvs2) (ws ++ ws2) := by
  unfold DpKs at h
  induction h with
  | nil => exact h2
  | cons h1 _ ih => exact .cons h1 ih
theorem dpks_put {kvs : List (L2.Key × PyData)} {ws : List (L2.Key × V)} {k : L2.Key} {d : PyData} (h : DpKs K B kvs ws) (r : Dp K B v d) : DpKs K B (putD kvs k d) (L2.putK ws k v) := by
  unfold putD L2.putK
  rw [dpks_any h]
  split
  · unfold DpKs at h
    induction h with
    | nil => exact .nil
    | @cons p q ps qs h1 h2 ih =>
      rw [List.map_cons, List.map_cons]
      refine .cons ?_ ?_
      · rw [h1.1]
        by_cases hk : q.1 = k
        · rw [if_pos hk, if_pos hk]; exact ⟨rfl, r⟩
        · rw [if_neg hk, if_neg hk]; exact h1
      · rename_i hany
        by_cases ha : (qs.any fun kv => decide (kv.1 = k)) = true
        · exact ih ha
        · have none : ∀ q ∈ qs, q.1 ≠ k := fun q hq e => ha (List.any_eq_true.mpr ⟨q, hq, decide_eq_true e⟩)
          have : ∀ {ps : List (L2.Key × PyData)} {qs : List (L2.Key × V)}, Paired (fun (p : L2.Key × PyData) (q : L2.Key × V) => p.1 = q.1 ∧ Dp K B q.2 p.2) ps qs → (∀ q ∈ qs, q.1 ≠ k) →
              Paired (fun (p : L2.Key × PyData) (q : L2.Key × V) => p.1 = q.1 ∧ Dp K B q.2 p.2) (ps.map fun kv => if kv.1 = k then (kv.1, d) else kv) (qs.map fun kv => if kv.1 = k then (kv.1, v) else kv) := by
            intro ps qs hp
            induction hp with
            | nil => intro _; exact .nil
            | @cons p q ps qs h1 h2 ih =>
              intro hn
              have hq := hn q (List.mem_cons_self ..)
              rw [List.map_cons, List.map_cons, h1.1, if_neg hq, if_neg hq]
              exact .cons h1 (ih fun z hz => hn z (List.mem_cons_of_mem _ hz))
          exact this h2 none
  · exact dpks_app h (.cons ⟨rfl, r⟩ .nil)
theorem dpks_merge : ∀ {more : List (L2.Key × PyData)} {rs : List (L2.Key × V)} {kvs : List (L2.Key × PyData)} {ws : List (L2.Key × V)}, DpKs K B more rs → DpKs K B kvs ws → DpKs K B (mergeD kvs more) (mergeK ws rs) := by
  intro more rs kvs ws r
  unfold DpKs at r
  induction r generalizing kvs ws with
  | nil => intro q; exact q
  | @cons p q ps qs h t ih =>
    intro r0
    refine ih (kvs := putD kvs p.1 p.2) (ws := L2.putK ws q.1 q.2) ?_
    rw [h.1]
    exact dpks_put r0 h.2
/-- a dict cell -/
theorem G.dkAt (g : G K B ρ κ H) {xs : List (L2.Key × PyData)} (hp : ρ[k]? = some p) (ek : κ[k]? = some (.dK xs)) : ∃ vs, DpKs K B xs vs ∧ H p = some (.dK vs) ∧
    ∀ xs' vs', DpKs K B xs' vs' → Up B ρ H B ρ (upd H p (.dK vs')) ∧ G K B ρ (κ.set k (.dK xs')) (upd H p (.dK vs')) := by
  obtain ⟨p', hp', hb, vs, r, eH⟩ := g.cell ek
  rw [hp] at hp'; cases hp'
  refine ⟨vs, r, eH, fun xs' vs' r' => ⟨G.writeUp hp, ?_⟩⟩
  have hc : CellOk K B ρ (upd H p (.dK vs')) p (.dK xs') := ⟨hb, vs', r', upd_same⟩
  exact g.write hp hb hc
/-- d[y] -/
def aDGet (f f2 : AE) : AE := fun δ κ R => f δ κ fun a κ1 => f2 δ κ1 fun b κ2 => match a with
  | .c k => ∃ kvs key d, κ2[k]? = some (.dK kvs) ∧ b = .d (keyD key) ∧ valD kvs key = some d ∧ R (.d d) κ2
  | _ => False
theorem ea_dget {l : Nat} (hr : Room l X.A) (h1 : PEa K X e t f) (h2 : PEa K X e2 u f2) (hs : NoSl e2 := by exact fun _ _ => rfl) : PEa K X (.Subscript e e2 pos) (tDGet t u) (aDGet f f2) :=
  ⟨pe_dget (Nat.lt_of_le_of_lt (by omega) hr.units) h1.pe h2.pe hs, fun B ρ δ κ σ H R Q s g hh q => h1.sd B ρ δ κ σ H _ _ s g hh fun B1 ρ1 κ1 H1 a x u1 g1 r1 k1 => h2.sd _ _ _ _ _ _ _ _ (s.up u1.g) g1 k1 fun B2 ρ2 κ2 H2 b y u2 g2 r2 k2 => by
    split at k2
    · obtain ⟨kvs, key, d, ek, rfl, hv, k2⟩ := k2
      obtain ⟨p, hp, rfl⟩ := r1.up u2.g
      obtain ⟨vs, r, eH, _⟩ := g2.dkAt hp ek
      obtain ⟨v, hv', rv⟩ := dpks_val r hv
      have := rep_key r2
      subst this
      exact ⟨p, v, rfl, by rw [← hv']; exact DGet.k eH, q _ _ _ _ (.d d) _ (u1.trans u2) g2 rv k2⟩
    · exact k2.elim⟩
/-- d[y] = v -/
def aDPut (fo fi fv : AE) : AS := fun A δ κ => fv δ κ fun v κ1 => fo δ κ1 fun a κ2 => fi δ κ2 fun b κ3 => match a with
  | .c k => ∃ kvs key d, κ3[k]? = some (.dK kvs) ∧ b = .d (keyD key) ∧ v = .d d ∧ kvs.length < sizeLine ∧ A.nx δ (κ3.set k (.dK (putD kvs key d)))
  | _ => False
variable {o i val : Expr} {to' ti tv : TE} {fo fi fv : AE} {pos' : Pos}
theorem sa_dput {l : Nat} (hr : Room l X.A) (ho : PEa K X o to' fo) (hi : PEa K X i ti fi) (hv : PEa K X val tv fv) (hs : swapsWith val (some (.Subscript o i pos')) pos.line X.env = pure false := by rfl) :
    PSa K X (.Assign [.Subscript o i pos'] val pos) (sDPut to' ti tv) (aDPut fo fi fv) :=
  ⟨ps_dput (Nat.lt_of_le_of_lt (by omega) hr.units) ho.pe hi.pe hv.pe hs, fun B ρ δ κ σ H A D s g l hh im => hv.sd B ρ δ κ σ H _ _ s g hh fun B1 ρ1 κ1 H1 vv xv u1 g1 r1 k1 => ho.sd _ _ _ _ _ _ _ _ (s.up u1.g) g1 k1 fun B2 ρ2 κ2 H2 a xo u2 g2 r2 k2 => hi.sd _ _ _ _ _ _ _ _ (s.up (u1.trans u2).g) g2 k2 fun B3 ρ3 κ3 H3 b xi u3 g3 r3 k3 => by
    split at k3
    · obtain ⟨kvs, key, d, ek, rfl, rfl, hl, k3⟩ := k3
      obtain ⟨p, hp, rfl⟩ := r2.up u3.g
      obtain ⟨vs, r, eH, wr⟩ := g3.dkAt hp ek
      have := rep_key r3
      subst this
      have rd : Dp K B3 xv d := dp_up (u2.trans u3).s _ _ r1
      obtain ⟨u4, g4⟩ := wr _ _ (dpks_put (k := key) r rd)
      have w := ((u1.trans u2).trans u3).trans u4
      refine ⟨p, _, rfl, DPut.k eH (by rw [← Paired.length r]; exact hl), im.nx _ _ _ _ _ _ w.n g4 (s.up w.g) (Nat.le_trans l (w.len g g4)) k3⟩
    · exact k3.elim⟩
/-- {k: v, ..} -/
abbrev APs := AD → AK → (List (AV × AV) → AK → Prop) → Prop
def aPNil : APs := fun _ κ R => R [] κ
def aPCons (fk fv : AE) (g : APs) : APs := fun δ κ R => fk δ κ fun a κ1 => fv δ κ1 fun b κ2 => g δ κ2 fun ps κ3 => R ((a, b) :: ps) κ3
abbrev RepP (K : PySem.W.Frag) (B : Hp) (ρ : List Addr) : List (AV × AV) → List (V × V) → Prop := Paired fun p q => Rep K B ρ p.1 q.1 ∧ Rep K B ρ p.2 q.2
theorem RepP.up (w : Ug B ρ B' ρ') {as : List (AV × AV)} {vs : List (V × V)} (h : RepP K B ρ as vs) : RepP K B' ρ' as vs := Paired.mapP h fun _ _ r => ⟨r.1.up w, r.2.up w⟩
def SP (K : PySem.W.Frag) (ts : List (TE × TE)) (g : APs) : Prop := ∀ B ρ δ κ σ H (R : List (AV × AV) → AK → Prop) (Q : List (V × V) → Hp → Prop), S K B ρ δ σ → G K B ρ κ H → g δ κ R →
  (∀ B' ρ' κ' H' as vs, Up B ρ H B' ρ' H' → G K B' ρ' κ' H' → RepP K B' ρ' as vs → R as κ' → Q vs H') → tPairs ts σ H Q
structure PPa (K : PySem.W.Frag) (X : Cx) (pos : Pos) (keys : List (Option Expr)) (values : List Expr) (ts : List (TE × TE)) (g : APs) : Prop where
  pp : PPs X pos keys values ts
  sd : SP K ts g
variable {ks : List (Option Expr)} {vs : List Expr} {tps : List (TE × TE)} {gp : APs}
theorem pa_pnil : PPa K X pos [] [] [] aPNil := ⟨pps_nil, fun B ρ δ κ σ H R Q s g h q => q _ _ _ _ _ _ Up.refl g .nil h⟩
theorem pa_pcons (h1 : PEa K X e t f) (h2 : PEa K X e2 u f2) (h3 : PPa K X pos ks vs tps gp) : PPa K X pos (some e :: ks) (e2 :: vs) ((t, u) :: tps) (aPCons f f2 gp) :=
  ⟨pps_cons h1.pe h2.pe h3.pp, fun B ρ δ κ σ H R Q s g hh q => h1.sd B ρ δ κ σ H _ _ s g hh fun B1 ρ1 κ1 H1 a x u1 g1 r1 k1 => h2.sd _ _ _ _ _ _ _ _ (s.up u1.g) g1 k1 fun B2 ρ2 κ2 H2 b y u2 g2 r2 k2 =>
    h3.sd _ _ _ _ _ _ _ _ (s.up (u1.trans u2).g) g2 k2 fun B3 ρ3 κ3 H3 as ws u3 g3 r3 k3 => q _ _ _ _ _ _ ((u1.trans u2).trans u3) g3 (.cons ⟨r1.up (u2.trans u3).g, r2.up u3.g⟩ r3) k3⟩
def aDisp (g : APs) : AE := fun δ κ R => g δ κ fun ps κ1 => ∃ kvs : List (L2.Key × PyData), ps = kvs.map (fun p => (.d (keyD p.1), .d p.2)) ∧ kvs.length ≤ 15 ∧ R (.c κ1.length) (κ1 ++ [.dK (mergeD [] kvs)])
theorem repP_kvs : ∀ {kvs : List (L2.Key × PyData)} {ps : List (V × V)}, RepP K B ρ (kvs.map (fun p => (.d (keyD p.1), .d p.2))) ps → ∃ ws : List (L2.Key × V), ps = ws.map (fun p => (kV p.1, p.2)) ∧ DpKs K B kvs ws
  | [], _, h => by cases h; exact ⟨[], rfl, .nil⟩
  | p :: kvs, _, h => by
    rw [List.map_cons] at h
    cases h with
    | @cons _ b _ bs h1 h2 =>
      obtain ⟨ws, rfl, r⟩ := repP_kvs h2
      obtain ⟨b1, b2⟩ := b
      have e : b1 = kV p.1 := rep_key h1.1
      subst e
      exact ⟨(p.1, b2) :: ws, rfl, .cons ⟨rfl, h1.2⟩ r⟩
theorem ea_disp {keys : List (Option Expr)} {values : List Expr} (h : PPa K X pos keys values tps gp) (hall : keys.all (·.isSome) = true := by rfl) (hl : keys.length = values.length := by rfl) (h0 : keys ≠ [] := by exact List.cons_ne_nil _ _)
    (h15 : keys.length ≤ 15 := by decide) : PEa K X (.Dict keys values pos) (tDisp tps) (aDisp gp) :=
  ⟨pe_disp h.pp hall hl h0 h15, fun B ρ δ κ σ H R Q s g hh q => by
    intro p hp
    have hb := g.fresh hp
    have hr : p ∉ ρ := fun z => by
      obtain ⟨i, hi⟩ := List.mem_iff_getElem?.mp z
      exact g.nin hp hi rfl
    refine h.sd B ρ δ κ σ _ _ _ s (g.off hb hr) hh fun B1 ρ1 κ1 H1 as vs u1 g1 r1 h1 => ?_
    obtain ⟨kvs, rfl, h15, h1⟩ := h1
    obtain ⟨ws, rfl, rd⟩ := repP_kvs r1
    obtain ⟨eD, b1, n1⟩ := u1.f p (.dK []) upd_same hb hr
    refine ⟨eD, ws, rfl, by rw [← Paired.length rd]; exact h15, ?_⟩
    -- the dict becomes a cell
    have g2 : G K B1 (ρ1 ++ [p]) (κ1 ++ [.dK (mergeD [] kvs)]) (upd H1 p (.dK (mergeK [] ws))) := by
      have hc : CellOk K B1 ρ1 (upd H1 p (.dK (mergeK [] ws))) p (.dK (mergeD [] kvs)) := ⟨b1, _, dpks_merge rd .nil, upd_same⟩
      refine ⟨fun b u e => ?_, by rw [List.length_append, List.length_append, g1.len] <;> rfl, fun i j r h1 h2 => ?_, fun i r c h1 h2 => ?_⟩
      · rw [upd_ne (ne_of_none e b1)]; exact g1.ex b u e
      · rcases get_snoc h1 with ⟨l1, e1⟩ | ⟨l1, e1⟩
        · rcases get_snoc h2 with ⟨l2, e2⟩ | ⟨l2, e2⟩
          · exact g1.inj i j r e1 e2
          · subst e2; exact absurd (mem_of_get e1) n1
        · rcases get_snoc h2 with ⟨l2, e2⟩ | ⟨l2, e2⟩
          · subst e1; exact absurd (mem_of_get e2) n1
          · rw [l1, l2]
      · rcases get_snoc h1 with ⟨l1, e1⟩ | ⟨l1, e1⟩
        · rw [List.getElem?_append_left (g1.len ▸ l1)] at h2
          have hq : r ≠ p := fun z => n1 (z ▸ mem_of_get e1)
          exact (g1.at' i r c e1 h2).up up_snoc (fun z => z) fun o' e => by rw [upd_ne hq]; exact e
        · subst e1
          rcases get_snoc h2 with ⟨l2, e2⟩ | ⟨l2, e2⟩
          · rw [l1, g1.len] at l2; exact absurd l2 (Nat.lt_irrefl _)
          · subst e2; exact hc.up up_snoc (fun z => z) fun _ e => e
    refine q B1 (ρ1 ++ [p]) _ _ _ _ ⟨u1.s, fun i a h => get_app (u1.p i a h), fun r o h1 h2 h3 => ?_⟩ g2 (rep_new g1) h1
    have hq := ne_of_none h1 hp
    obtain ⟨y1, y2, y3⟩ := u1.f r o (by rw [upd_ne hq]; exact h1) h2 h3
    refine ⟨by rw [upd_ne hq]; exact y1, y2, fun z => ?_⟩
    rcases List.mem_append.mp z with z | z
    · exact y3 z
    · exact hq (by simpa using z)⟩
end Ab
set_option Elab.async false
set_option linter.all false
set_option maxRecDepth 100000
set_option maxHeartbeats 4000000
/-! Com: the helpers that the laws share -/
namespace Com
open PySem L2 Ab
variable {K : PySem.W.Frag}
/-! ### the source of numbers -/
def srcK (ns : List Int) (i x y : Int) : Cell := .ld [.list (ns.map .int), .int i, .int x, .int y]
def isSrc (c : Cell) : Prop := ∃ ns i x y, c = srcK ns i x y ∧ 0 ≤ i
theorem isSrc.cl {c : Cell} (h : isSrc c) : clC c = true ∧ liveC c = true := by
  obtain ⟨ns, i, x, y, rfl, _⟩ := h
  exact ⟨rfl, rfl⟩
def F__law_source : FSp := fun as κ R _ => ∃ ns : List Int, as = [.d (.list (ns.map .int))] ∧ κ = [] ∧ ∀ s, isSrc s → R (.c 0) [s]
abbrev N__law_source : List Str := ["script"]
def a__law_source (K : PySem.W.Frag) : AS :=
  (aRet (aLst (aCons (aCB (aListOf false) (aCons (aVar 0) aNil)) (aCons (aC (.d (.int 0))) (aCons (aC (.d (.int 0))) (aCons (aC (.d (.int 7))) aNil))))))
theorem len__law_source : ∀ as κ R E', F__law_source as κ R E' → as.length = (["script"] : List Str).length := by
  rintro as κ R E' ⟨ns, rfl, _⟩; rfl
theorem rd__law_source : ∀ as κ R E', F__law_source as κ R E' → a__law_source K (endsA K κ.length R) (startA N__law_source as) κ := by
  rintro as κ R E' ⟨ns, rfl, rfl, h⟩
  exact ⟨(show 4 ≤ sizeLine by decide), _, _, GhR.refl (Nat.zero_le _), h _ ⟨ns, 0, 0, 7, rfl, by decide⟩⟩
def F__law_pick : FSp := fun as κ R _ => ∃ s m, as = [.c 0, .d (.int m)] ∧ κ = [s] ∧ isSrc s ∧ 0 < m ∧ m < 1000000 ∧ ∀ v s', isSrc s' → 0 ≤ v → v < m → R (.d (.int v)) [s']
abbrev N__law_pick : List Str := ["source", "many", "cell", "picked", "mixed"]
def a__law_pick (K : PySem.W.Frag) : AS :=
  (aCut (aIfS (aAnd (aB (aOp aEq (aOp aIx (aVar 0) (aC (.d (.int 2)))) (aC (.d (.int 0))))) (aB (aOp aLt (aOp aIx (aVar 0) (aC (.d (.int 1)))) (aCB aLen (aCons (aOp aIx (aVar 0) (aC (.d (.int 0)))) aNil))))) (aSeq (aSet 2 (aOp aIx (aOp aIx (aVar 0) (aC (.d (.int 0)))) (aOp aIx (aVar 0) (aC (.d (.int 1)))))) (aSeq (aAsg (aOp aAdd (aOp aIx (aVar 0) (aC (.d (.int 1)))) (aC (.d (.int 1)))) (aGSub (aVar 0) (aC (.d (.int 1))) aSetL)) (aIfS (aB (aOp aGt (aVar 2) (aOp aPow (aC (.d (.int 10))) (aC (.d (.int 18)))))) (aAsg (aOp aSub (aVar 2) (aOp aPow (aC (.d (.int 10))) (aC (.d (.int 18))))) (aGSub (aVar 0) (aC (.d (.int 2))) aSetL)) (aAsg (aOp aMod (aCB aIntOf (aCons (aOp aAdd (aOp aMul (aOp aIx (aVar 0) (aC (.d (.int 3)))) (aC (.d (.int 16807)))) (aVar 2)) aNil)) (aC (.d (.int 2147483647)))) (aGSub (aVar 0) (aC (.d (.int 3))) aSetL))))) aNext) (aSeq (aIfS (aB (aOp aGt (aOp aIx (aVar 0) (aC (.d (.int 2)))) (aC (.d (.int 0))))) (aSeq (aSet 3 (aOp aMod (aCB aIntOf (aCons (aOp aIx (aVar 0) (aC (.d (.int 2)))) aNil)) (aVar 1))) (aSeq (aAsg (aOp aDiv (aOp aIx (aVar 0) (aC (.d (.int 2)))) (aVar 1)) (aGSub (aVar 0) (aC (.d (.int 2))) aSetL)) (aRet (aVar 3)))) aNext) (aSeq (aAsg (aOp aMod (aCB aIntOf (aCons (aOp aAdd (aOp aMul (aOp aIx (aVar 0) (aC (.d (.int 3)))) (aC (.d (.int 48271)))) (aC (.d (.int 12345)))) aNil)) (aC (.d (.int 2147483647)))) (aGSub (aVar 0) (aC (.d (.int 3))) aSetL)) (aSeq (aSet 4 (aOp aMul (aOp aMul (aOp aAdd (aOp aMod (aCB aIntOf (aCons (aOp aIx (aVar 0) (aC (.d (.int 3)))) aNil)) (aC (.d (.int 46337)))) (aC (.d (.int 1)))) (aOp aAdd (aOp aDiv (aOp aIx (aVar 0) (aC (.d (.int 3)))) (aC (.d (.int 46337)))) (aC (.d (.int 7))))) (aC (.d (.int 16807))))) (aRet (aOp aMod (aOp aDiv (aOp aMod (aCB aIntOf (aCons (aVar 4) aNil)) (aC (.d (.int 2147483629)))) (aC (.d (.int 32)))) (aVar 1)))))))
theorem len__law_pick : ∀ as κ R E', F__law_pick as κ R E' → as.length = (["source", "many"] : List Str).length := by
  rintro as κ R E' ⟨s, m, rfl, _⟩; rfl
theorem at_ints {ns : List Int} {i : Int} (h0 : 0 ≤ i) (h : i < ns.length) : ∃ v, atI (ns.map PyData.int) i = some (.int v) := by
  obtain ⟨j, rfl⟩ := Int.eq_ofNat_of_zero_le h0
  have hj : j < ns.length := by omega
  exact ⟨ns[j], atI_nat (by rw [List.getElem?_map, List.getElem?_eq_getElem hj]; rfl)⟩
theorem cp18 : CPow 10 18 := ⟨by decide, by decide, by decide⟩
theorem mod_small (a : Int) : -(2 ^ 64) < a % 46337 + 1 ∧ a % 46337 + 1 < 2 ^ 64 := by omega
theorem rd__law_pick : ∀ as κ R E', F__law_pick as κ R E' → a__law_pick K (endsA K κ.length R) (startA N__law_pick as) κ := by
  rintro as κ R E' ⟨s, m, rfl, rfl, ⟨ns, i, x, y, rfl, hi⟩, h0, h1, h⟩
  have fin : ∀ v ns i x y, 0 ≤ i → 0 ≤ v → v < m → (endsA K [srcK ns i x y].length R).rt (.d (.int v)) [srcK ns i x y] := fun v ns i x y hi hv hm => ⟨_, _, GhR.refl (Nat.le_refl _), h _ _ ⟨ns, i, x, y, rfl, hi⟩ hv hm⟩
  have hd : CDiv 0 m := ⟨h0, by omega⟩
  refine ⟨fun δ κ => ∃ i x y c, δ = [some (.c 0), some (.d (.int m)), c, none, none] ∧ κ = [srcK ns i x y] ∧ 0 ≤ i, ?_, ?_⟩
  · refine ⟨_, rfl, bsel_i (fun hx => ?_) fun _ => ⟨i, x, y, _, rfl, rfl, hi⟩⟩
    refine ⟨_, rfl, _, rfl, bsel_i (fun hl => ?_) fun _ => ⟨i, x, y, _, rfl, rfl, hi⟩⟩
    have hl' : i < ns.length := by have := of_decide_eq_true hl; simpa using this
    obtain ⟨v, hv⟩ := at_ints hi hl'
    refine ⟨_, rfl, _, rfl, _, hv, _, rfl, _, rfl, cp18, bsel_i (fun hb => ?_) fun hb => ?_⟩
    · exact ⟨cp18, _, rfl, _, _, _, _, rfl, rfl, by omega⟩
    · exact ⟨_, rfl, .inr (by decide), (by decide : (0 : Int) < 2147483647), _, rfl, _, _, _, _, rfl, rfl, by omega⟩
  · rintro δ κ ⟨i, x, y, c, rfl, rfl, hi⟩ _
    refine ⟨_, rfl, bsel_i (fun hx => ?_) fun _ => ?_⟩
    · refine ⟨_, rfl, h0, _, rfl, ⟨h0, by omega⟩, _, rfl, fin _ _ _ _ _ hi (Int.emod_nonneg _ (by omega)) (Int.emod_lt_of_pos _ h0)⟩
    · exact ⟨_, rfl, .inr (by decide), (by decide : (0 : Int) < 2147483647), _, rfl, _, rfl, (by decide : (0 : Int) < 46337), _, rfl, ⟨by decide, by decide⟩, .inl (mod_small _), .inr (by decide), (by decide : (0 : Int) < 2147483629), ⟨by decide, by decide⟩, h0, fin _ _ _ _ _ hi (Int.emod_nonneg _ (by omega)) (Int.emod_lt_of_pos _ h0)⟩

theorem sel0 {s : Cell} {κr : AK} (h : isSrc s) : selK [0] (s :: κr) = some [s] := by
  show (if clC s = true then some [s] else none) = _
  rw [if_pos h.cl.1]
theorem isSrc.fz {s : Cell} {k : Nat} {d : PyData} (h : isSrc s) : isSrc (fzC k d s) := by
  obtain ⟨ns, i, x, y, rfl, hi⟩ := h; exact ⟨ns, i, x, y, rfl, hi⟩
theorem cl1_ok {s c : Cell} (h : isSrc s) : (([s, c] : AK).take 1).all (okC 1) = true := by
  obtain ⟨ns, i, x, y, rfl, _⟩ := h; rfl
theorem cl1 {s : Cell} (h : isSrc s) : ([s] : AK).all clC = true := List.all_eq_true.mpr fun c hc => by rw [List.mem_singleton.mp hc]; exact h.cl.1
theorem pick_w {s : Cell} {κr : AK} {m : Int} {E : AX → AK → Prop} {R : AR} (hs : isSrc s) (h0 : 0 < m) (h1 : m < 1000000) (k : ∀ v s', isSrc s' → 0 ≤ v → v < m → R (.d (.int v)) (s' :: κr)) : callW F__law_pick E [.c 0, .d (.int m)] (s :: κr) R :=
  callW_i ⟨[0], _, _, by decide, rfl, sel0 hs, s, m, rfl, rfl, hs, h0, h1, fun v s' hs' hv0 hv => ⟨Nat.le_refl _, cl1 hs', rfl, k v s' hs' hv0 hv⟩⟩
/-! ### signs, names -/
def low (c : Nat) : Prop := 97 ≤ c ∧ c ≤ 122
def dig (c : Nat) : Prop := 48 ≤ c ∧ c ≤ 57
def run (c : Nat) : Prop := low c ∨ dig c
instance (c : Nat) : Decidable (low c) := by unfold low; exact inferInstance
instance (c : Nat) : Decidable (dig c) := by unfold dig; exact inferInstance
instance (c : Nat) : Decidable (run c) := by unfold run; exact inferInstance
def wordsL : List Str := ["pact", "end", "choice", "both", "loop", "use"]
def isName (z : Str) : Prop := (∃ c r, tl z = c :: r ∧ low c ∧ (∀ x ∈ r, run x) ∧ r.length ≤ 11) ∧ z ∉ wordsL
abbrev alnum : Str := "abcdefghijklmnopqrstuvwxyz0123456789"
theorem alnum_len : alnum.length = 36 := by decide +kernel
theorem alnum_mem {c : Nat} : c ∈ tl alnum ↔ run c := by
  have h : tl alnum = (List.range 26).map (97 + ·) ++ (List.range 10).map (48 + ·) := by decide +kernel
  rw [h, List.mem_append, List.mem_map, List.mem_map]
  unfold run low dig
  constructor
  · rintro (⟨i, hi, rfl⟩ | ⟨i, hi, rfl⟩) <;> rw [List.mem_range] at hi <;> omega
  · rintro (h | h)
    · exact .inl ⟨c - 97, by rw [List.mem_range]; omega, by omega⟩
    · exact .inr ⟨c - 48, by rw [List.mem_range]; omega, by omega⟩
theorem alnum_low : ∀ j : Nat, j < 26 → ∀ c, (tl alnum)[j]? = some c → low c := by
  have h : tl alnum = (List.range 26).map (97 + ·) ++ (List.range 10).map (48 + ·) := by decide +kernel
  intro j hj c hc
  rw [h, List.getElem?_append_left (by simpa using hj), List.getElem?_map, List.getElem?_range hj] at hc
  simp at hc
  unfold low; omega
theorem sl100 {n : Nat} (h : n ≤ 100000) : n ≤ sizeLine := Nat.le_trans h (by decide)
theorem al_sl : alnum.length ≤ sizeLine := by rw [alnum_len]; decide
/-- blanks -/
def blankC (c : Nat) : Prop := c = 32 ∨ c = 10
def isBlank (b : Str) : Prop := (∀ c ∈ tl b, blankC c) ∧ b.length ≤ 2
def F__law_blank : FSp := fun as κ R _ => ∃ s least, as = [.c 0, .d (.bool least)] ∧ κ = [s] ∧ isSrc s ∧ ∀ b s', isSrc s' → isBlank b → (least = true → b ≠ "") → R (.d (.str b)) [s']
abbrev N__law_blank : List Str := ["source", "least", "blank"]
def a__law_blank (K : PySem.W.Frag) : AS :=
  (aSeq (aSet 2 (aOp aIx (aLstD (aCons (aC (.d (.str ""))) (aCons (aC (.d (.str ""))) (aCons (aC (.d (.str " "))) (aCons (aC (.d (.str "\n"))) (aCons (aC (.d (.str "  "))) (aCons (aC (.d (.str " \n"))) aNil))))))) (aCall F__law_pick (fun _ _ => False) (aCons (aVar 0) (aCons (aC (.d (.int 6))) aNil))))) (aSeq (aIfS (aAnd (aB (aOp aEq (aVar 2) (aC (.d (.str ""))))) (aTru (aVar 1))) (aRet (aOp aIx (aLstD (aCons (aC (.d (.str " "))) (aCons (aC (.d (.str "\n"))) aNil))) (aCall F__law_pick (fun _ _ => False) (aCons (aVar 0) (aCons (aC (.d (.int 2))) aNil))))) aNext) (aRet (aVar 2))))
theorem len__law_blank : ∀ as κ R E', F__law_blank as κ R E' → as.length = (["source", "least"] : List Str).length := by
  rintro as κ R E' ⟨s, m, rfl, _⟩; rfl
theorem blanks6 {w : PyData} (h : w ∈ ([.str "", .str "", .str " ", .str "\n", .str "  ", .str " \n"] : List PyData)) : ∃ b, w = .str b ∧ isBlank b := by
  simp only [List.mem_cons, List.mem_nil_iff, or_false] at h
  rcases h with rfl | rfl | rfl | rfl | rfl | rfl <;> refine ⟨_, rfl, ?_, ?_⟩ <;> first | decide +kernel | (unfold blankC; decide +kernel)
theorem blanks2 {w : PyData} (h : w ∈ ([.str " ", .str "\n"] : List PyData)) : ∃ b, w = .str b ∧ isBlank b ∧ b ≠ "" := by
  simp only [List.mem_cons, List.mem_nil_iff, or_false] at h
  rcases h with rfl | rfl <;> refine ⟨_, rfl, ⟨?_, ?_⟩, ?_⟩ <;> first | decide +kernel | (unfold blankC; decide +kernel)
theorem rd__law_blank : ∀ as κ R E', F__law_blank as κ R E' → a__law_blank K (endsA K κ.length R) (startA N__law_blank as) κ := by
  rintro as κ R E' ⟨s, least, rfl, rfl, hs, h⟩
  have fin : ∀ s b, isSrc s → isBlank b → (least = true → b ≠ "") → (endsA K [s].length R).rt (.d (.str b)) [s] := fun s b h1 h2 h3 => ⟨_, _, GhR.refl (Nat.le_refl _), h _ _ h1 h2 h3⟩
  refine ⟨(show 6 ≤ sizeLine by decide), ?_⟩
  refine pick_w hs (by decide) (by decide) fun v s' hs' hv0 hv => ?_
  obtain ⟨w, hw, hm, _⟩ := at_mem (xs := ([.str "", .str "", .str " ", .str "\n", .str "  ", .str " \n"] : List PyData)) hv0 hv
  obtain ⟨b, rfl, hb⟩ := blanks6 hm
  refine ⟨_, hw, bsel_i (fun he => ?_) fun he => ?_⟩
  · cases least with
    | false => exact fin _ _ hs' hb (fun z => by cases z)
    | true =>
      refine ⟨(show 2 ≤ sizeLine by decide), ?_⟩
      refine pick_w hs' (by decide) (by decide) fun v s2 hs2 hv0 hv => ?_
      obtain ⟨w, hw, hm, _⟩ := at_mem (xs := ([.str " ", .str "\n"] : List PyData)) hv0 hv
      obtain ⟨b2, rfl, hb2, hn⟩ := blanks2 hm
      exact ⟨_, hw, fin _ _ hs2 hb2 fun _ => hn⟩
  · exact fin _ _ hs' hb fun _ => of_decide_eq_false he

theorem bsel_or {c d : Bool} {S F X : Prop} (h : (c || d) = true → S) (h' : (c || d) = false → F) (k : bsel d S F → X) : bsel c (bsel true S F) X := by
  cases c with
  | true => exact h rfl
  | false => exact k (by cases d with | true => exact h rfl | false => exact h' rfl)
/-! ### a name -/
def spare (i : Nat) : Str := "q" ++ Str.ofString (toString ((i : Nat) : Int))
theorem tl_q : tl "q" = [113] := by decide +kernel
theorem tl_spare (i : Nat) : tl (spare i) = 113 :: TL.numL i := by
  unfold spare
  rw [tl_app, tl_q]
  show [113] ++ TL.tl _ = _
  rw [TL.tl_num]; rfl
theorem spare_inj {i j : Nat} (h : spare i = spare j) : i = j := by
  have e := congrArg tl h
  rw [tl_spare, tl_spare] at e
  exact TL.numL_inj (List.cons.inj e).2
theorem words_heads : ∀ w ∈ wordsL, (tl w).head? ≠ some 113 := by decide +kernel
theorem spare_name {i : Nat} (h : i ≤ 100000) : isName (spare i) := by
  refine ⟨⟨113, TL.numL i, tl_spare i, by decide, fun x hx => ?_, ?_⟩, fun hm => ?_⟩
  · have := TL.numL_digits i x hx
    right; unfold dig; simpa using this
  · have := TL.numL_len (n := i) (k := 6) (by decide) (by omega); omega
  · have := words_heads _ hm
    rw [tl_spare] at this; exact this rfl
theorem spare_free (tk : List Str) : ∃ i, i < tk.length + 1 ∧ spare i ∉ tk := by
  apply Classical.byContradiction
  intro hn
  have all : ∀ i, i < tk.length + 1 → spare i ∈ tk := fun i hi => Classical.byContradiction fun h => hn ⟨i, hi, h⟩
  have nd : ((List.range (tk.length + 1)).map spare).Nodup := by
    rw [List.Nodup, List.pairwise_map]
    exact List.nodup_range.imp fun h e => h (spare_inj e)
  have := List.Nodup.length_le_of_subset nd (l₂ := tk) (fun x hx => by
    obtain ⟨i, hi, rfl⟩ := List.mem_map.mp hx
    exact all i (List.mem_range.mp hi))
  rw [List.length_map, List.length_range] at this
  omega
theorem wordsD : ([.str "pact", .str "end", .str "choice", .str "both", .str "loop", .str "use"] : List PyData) = wordsL.map .str := rfl
def F__law_name : FSp := fun as κ R _ => ∃ (s : Cell) (tk : List Str), as = [.c 0, .d (.list (tk.map .str))] ∧ κ = [s] ∧ isSrc s ∧ tk.length ≤ 10000 ∧ ∀ z s', isSrc s' → isName z → z ∉ tk → R (.d (.str z)) [s']
abbrev N__law_name : List Str := ["source", "taken", "letters", "name", "k", "spare", "one"]
def a__law_name (K : PySem.W.Frag) : AS :=
  (aSeq (aSet 2 (aC (.d (.str "abcdefghijklmnopqrstuvwxyz0123456789")))) (aSeq (aSet 3 (aOp aIx (aVar 2) (aCall F__law_pick (fun _ _ => False) (aCons (aVar 0) (aCons (aC (.d (.int 26))) aNil))))) (aSeq (aFor (aRng1 (aCons (aOp aIx (aLstD (aCons (aC (.d (.int 0))) (aCons (aC (.d (.int 0))) (aCons (aC (.d (.int 1))) (aCons (aC (.d (.int 2))) (aCons (aCall F__law_pick (fun _ _ => False) (aCons (aVar 0) (aCons (aC (.d (.int 12))) aNil))) aNil)))))) (aCall F__law_pick (fun _ _ => False) (aCons (aVar 0) (aCons (aC (.d (.int 5))) aNil)))) aNil)) (aName 4) (aSet 3 (aOp aAdd (aVar 3) (aOp aIx (aVar 2) (aCall F__law_pick (fun _ _ => False) (aCons (aVar 0) (aCons (aC (.d (.int 36))) aNil))))))) (aSeq (aIfS (aOr (aB (aOp (aIn id) (aVar 3) (aVar 1))) (aB (aOp (aIn id) (aVar 3) (aTup (aCons (aC (.d (.str "pact"))) (aCons (aC (.d (.str "end"))) (aCons (aC (.d (.str "choice"))) (aCons (aC (.d (.str "both"))) (aCons (aC (.d (.str "loop"))) (aCons (aC (.d (.str "use"))) aNil)))))))))) (aSeq (aSet 5 (aLc (aRng1 (aCons (aOp aAdd (aCB aLen (aCons (aVar 1) aNil)) (aC (.d (.int 1)))) aNil)) (aName 4) aYes (aOp aAdd (aC (.d (.str "q"))) (aCB aStrOf (aCons (aVar 4) aNil))) [4])) (aRet (aOp aIx (aLc (aIter (aVar 5)) (aName 6) (aB (aOp (aIn not) (aVar 6) (aVar 1))) (aVar 6) [6]) (aC (.d (.int 0)))))) aNext) (aRet (aVar 3))))))
theorem len__law_name : ∀ as κ R E', F__law_name as κ R E' → as.length = (["source", "taken"] : List Str).length := by
  rintro as κ R E' ⟨s, m, rfl, _⟩; rfl
def nmOf (z : Str) (i : Nat) : Prop := ∃ c r, tl z = c :: r ∧ low c ∧ (∀ x ∈ r, run x) ∧ r.length = i
theorem nmOf.len {z : Str} {i : Nat} (h : nmOf z i) : z.length = i + 1 := by
  obtain ⟨c, r, e, _, _, l⟩ := h
  rw [tl_len, e, List.length_cons, l]
theorem nmOf.snoc {z : Str} {i c : Nat} (h : nmOf z i) (hc : run c) : nmOf (z ++ ⟨#[c]⟩) (i + 1) := by
  obtain ⟨d, r, e, h1, h2, l⟩ := h
  refine ⟨d, r ++ [c], by rw [tl_app, e]; rfl, h1, fun x hx => ?_, by simp [l]⟩
  rcases List.mem_append.mp hx with z | z
  · exact h2 x z
  · rw [List.mem_singleton.mp z]; exact hc
theorem five {w : PyData} {v : Int} (h0 : 0 ≤ v) (h1 : v < 12) (h : w ∈ ([.int 0, .int 0, .int 1, .int 2, .int v] : List PyData)) : ∃ n : Int, w = .int n ∧ 0 ≤ n ∧ n ≤ 11 := by
  simp only [List.mem_cons, List.mem_nil_iff, or_false] at h
  rcases h with rfl | rfl | rfl | rfl | rfl <;> exact ⟨_, rfl, by omega, by omega⟩
theorem log_small {n : Int} (h0 : 0 ≤ n) (h : n < 20000) : n.natAbs.log2 < 1920 := by
  by_cases e : n.natAbs = 0
  · rw [e]; decide
  · exact Nat.lt_of_lt_of_le ((Nat.log2_lt e).mpr (show n.natAbs < 2 ^ 15 by omega)) (by decide)
theorem rd__law_name : ∀ as κ R E', F__law_name as κ R E' → a__law_name K (endsA K κ.length R) (startA N__law_name as) κ := by
  rintro as κ R E' ⟨s, tk, rfl, rfl, hs, htk, h⟩
  have fin : ∀ s z, isSrc s → isName z → z ∉ tk → (endsA K [s].length R).rt (.d (.str z)) [s] := fun s z h1 h2 h3 => ⟨_, _, GhR.refl (Nat.le_refl _), h _ _ h1 h2 h3⟩
  refine pick_w hs (by decide) (by decide) fun v s1 hs1 h0 h1 => ?_
  have la : (tl alnum).length = 36 := by rw [← tl_len]; exact alnum_len
  obtain ⟨c, hc, hm, hg⟩ := at_mem (xs := tl alnum) h0 (by omega)
  refine ⟨c, al_sl, hc, ?_⟩
  have hc1 := alnum_low v.toNat (by omega) c hg
  refine pick_w hs1 (by decide) (by decide) fun v2 s2 hs2 h20 h21 => ⟨(show 5 ≤ sizeLine by decide), ?_⟩
  refine pick_w hs2 (by decide) (by decide) fun v3 s3 hs3 h30 h31 => ?_
  obtain ⟨w, hw, hwm, _⟩ := at_mem (xs := ([.int 0, .int 0, .int 1, .int 2, .int v2] : List PyData)) h30 h31
  obtain ⟨n, rfl, hn0, hn1⟩ := five h20 h21 hwm
  refine ⟨_, hw, by omega, by omega, ?_⟩
  refine for_r (fun i δ κ => ∃ z k s, δ = [some (.c 0), some (.d (.list (tk.map .str))), some (.d (.str alnum)), some (.d (.str z)), k, none, none] ∧ κ = [s] ∧ isSrc s ∧ nmOf z i)
    ⟨_, _, s3, rfl, rfl, hs3, c, [], rfl, hc1, fun x hx => (by cases hx), rfl⟩ ?_ ?_
  · rintro δ κ ⟨z, k, s, rfl, rfl, hs, hz⟩ _
    refine ⟨rfl, flat_strs _, bsel_or (d := id (inD (.str z) (wordsL.map .str))) (fun ht => ?_) (fun ht => ?_) fun q => ⟨(show 6 ≤ sizeLine by decide), rfl, rfl, q⟩⟩
    · -- a spare name
      have ltk : (tk.map PyData.str).length = tk.length := List.length_map ..
      refine ⟨by omega, by omega, lc_r (fun i acc κ' => κ' = [s] ∧ acc = (List.range i).map fun i => .str (spare i)) ⟨rfl, rfl⟩ ?_ ?_⟩
      · rintro acc κ' ⟨rfl, rfl⟩
        rw [ltk]
        have e : ((tk.length : Int) + 1).toNat = tk.length + 1 := by omega
        rw [e]
        refine lc_d (fun i acc κ' => κ' = [s] ∧ ∃ l : List Str, acc = l.map .str ∧ l = (((List.range (tk.length + 1)).map spare).take i).filter fun x => decide (x ∉ tk)) ⟨rfl, [], rfl, rfl⟩ ?_ ?_
        · rintro acc κ' ⟨rfl, l, rfl, hl⟩
          rw [List.length_map, List.length_range, List.take_of_length_le (by simp)] at hl
          obtain ⟨i, hi, hf⟩ := spare_free tk
          have hmem : spare i ∈ l := by
            rw [hl, List.mem_filter]
            exact ⟨List.mem_map.mpr ⟨i, List.mem_range.mpr hi, rfl⟩, decide_eq_true hf⟩
          cases l with
          | nil => cases hmem
          | cons z0 l =>
            have hz0 : z0 ∈ ((List.range (tk.length + 1)).map spare).filter fun x => decide (x ∉ tk) := by rw [← hl]; exact List.mem_cons_self ..
            obtain ⟨y1, y2⟩ := List.mem_filter.mp hz0
            obtain ⟨j, hj, rfl⟩ := List.mem_map.mp y1
            rw [List.mem_range] at hj
            exact ⟨_, at_nat (j := 0) rfl, fin _ _ hs (spare_name (by omega)) (of_decide_eq_true y2)⟩
        · rintro i x acc κ' hx ⟨rfl, l, rfl, hl⟩
          rw [List.getElem?_map] at hx
          obtain ⟨j, hj, rfl⟩ := Option.map_eq_some_iff.mp hx
          have hlen : l.length ≤ 10001 := by
            rw [hl]
            refine Nat.le_trans (List.length_filter_le ..) (Nat.le_trans (List.length_take_le' ..) ?_)
            simp; omega
          have ht : ((List.range (tk.length + 1)).map spare)[i]? = some (spare j) := by rw [List.getElem?_map, hj]; rfl
          refine ⟨rfl, flat_strs _, bsel_i (fun hb => ⟨_, rfl, ?_, rfl, l ++ [spare j], by simp, ?_⟩) fun hb => ⟨rfl, l, rfl, ?_⟩⟩
          · rw [List.length_map]; exact Nat.lt_of_le_of_lt hlen (by decide)
          · rw [inD_str] at hb
            rw [List.take_add_one, ht, List.filter_append, ← hl]
            congr 1
            show [spare j] = List.filter _ [spare j]
            rw [List.filter_cons_of_pos (by simpa using hb)]; rfl
          · rw [inD_str] at hb
            rw [List.take_add_one, ht, List.filter_append, ← hl]
            show l = l ++ List.filter _ [spare j]
            rw [List.filter_cons_of_neg (by simpa using hb)]; simp
      · rintro i acc κ' hi ⟨rfl, rfl⟩
        have hi' : i < 10001 := by omega
        have e0 : (0 : Int) + (i : Int) = (i : Int) := Int.zero_add _
        rw [e0]
        refine ⟨log_small (by omega) (by omega), ?_, _, rfl, ?_, rfl, ?_⟩
        · have l1 : (Str.ofString (toString ((i : Nat) : Int))).length ≤ 6 := by
            rw [tl_len]
            show (TL.tl _).length ≤ 6
            rw [TL.tl_num]
            exact TL.numL_len (by decide) (by omega)
          have l2 : ("q" : Str).length = 1 := by decide +kernel
          exact sl100 (by omega)
        · rw [List.length_map, List.length_range]; exact Nat.lt_of_lt_of_le hi' (by decide)
        · rw [List.range_succ, List.map_append]; rfl
    · -- the name itself
      rw [Bool.or_eq_false_iff] at ht
      have h1 := ht.1
      have h2 := ht.2
      have h1' : inD (.str z) (tk.map .str) = false := h1
      have h2' : inD (.str z) (wordsL.map .str) = false := h2
      rw [inD_str] at h1' h2'
      obtain ⟨c, r, e1, e2, e3, e4⟩ := hz
      exact fin _ _ hs ⟨⟨c, r, e1, e2, e3, by omega⟩, of_decide_eq_false h2'⟩ (of_decide_eq_false h1')
  · rintro i δ κ hi ⟨z, k, s, rfl, rfl, hs, hz⟩ _
    refine pick_w hs (by decide) (by decide) fun v s1 hs1 h0 h1 => ?_
    obtain ⟨c, hc, hm, hg⟩ := at_mem (xs := tl alnum) h0 (by omega)
    refine ⟨c, al_sl, hc, ?_, _, _, s1, rfl, rfl, hs1, hz.snoc (alnum_mem.mp hm)⟩
    rw [hz.len]
    show i + 1 + 1 ≤ sizeLine
    exact sl100 (by omega)

/-! ### words spread over a text -/
def runFirst (w : Str) : Prop := ∃ c r, tl w = c :: r ∧ run c
def runLast (w : Str) : Prop := ∃ r c, tl w = r ++ [c] ∧ run c
abbrev Piece := Str × Str
def txt (ps : List Piece) : List Nat := ps.flatMap fun p => tl p.1 ++ tl p.2
/-- where the words stand -/
def plc (n : Nat) : List Piece → List Int
  | [] => []
  | p :: ps => ((n + p.1.length : Nat) : Int) :: plc (n + p.1.length + p.2.length) ps
theorem txt_snoc (ps : List Piece) (p : Piece) : txt (ps ++ [p]) = txt ps ++ (tl p.1 ++ tl p.2) := by
  unfold txt; rw [List.flatMap_append]; simp
theorem txt_len : ∀ ps : List Piece, (txt ps).length = (ps.map fun p => p.1.length + p.2.length).sum
  | [] => rfl
  | p :: ps => by
    have ih := txt_len ps
    unfold txt at ih ⊢
    rw [List.flatMap_cons, List.length_append, ih, List.length_append, ← tl_len, ← tl_len]; rfl
theorem plc_snoc : ∀ (n : Nat) (ps : List Piece) (p : Piece), plc n (ps ++ [p]) = plc n ps ++ [((n + (txt ps).length + p.1.length : Nat) : Int)]
  | n, [], p => rfl
  | n, q :: ps, p => by
    show _ :: plc _ (ps ++ [p]) = _ :: (plc _ ps ++ _)
    rw [plc_snoc _ ps p]
    congr 2
    have : (txt (q :: ps)).length = q.1.length + q.2.length + (txt ps).length := by
      unfold txt; rw [List.flatMap_cons, List.length_append, List.length_append, ← tl_len, ← tl_len]
    rw [this]
    congr 2; omega
def Sep (ps : List Piece) : Prop := ∀ (k : Nat) (p q : Piece), ps[k]? = some p → ps[k + 1]? = some q → runLast p.2 → runFirst q.2 → q.1 ≠ ""
structure Spread (ws : List Str) (text : Str) (places : List Int) : Prop where
  ex : ∃ (b0 bl : Str) (ps : List Piece), ps.map (·.2) = ws ∧ isBlank b0 ∧ isBlank bl ∧ (∀ p ∈ ps, isBlank p.1) ∧ Sep ps ∧ tl text = tl b0 ++ txt ps ++ tl bl ∧ places = plc b0.length ps
def F__law_spread : FSp := fun as κ R _ => ∃ (s : Cell) (ws : List Str), as = [.c 0, .d (.list (ws.map .str))] ∧ κ = [s] ∧ isSrc s ∧ ws.length ≤ 50000 ∧ (∀ w ∈ ws, w.length ≤ 100 ∧ w ≠ "") ∧
  ∀ text places s', isSrc s' → Spread ws text places → text.length ≤ 102 * ws.length + 4 → R (.d (.tuple [.str text, .list (places.map .int)])) [s']
abbrev N__law_spread : List Str := ["source", "words", "signs", "text", "places", "k"]
def a__law_spread (K : PySem.W.Frag) : AS :=
  (aSeq (aSet 2 (aC (.d (.str "abcdefghijklmnopqrstuvwxyz0123456789")))) (aSeq (aSet 3 (aCall F__law_blank (fun _ _ => False) (aCons (aVar 0) (aCons (aC (.d (.bool false))) aNil)))) (aSeq (aSet 4 (aLst aNil)) (aSeq (aFor (aRng1 (aCons (aCB aLen (aCons (aVar 1) aNil)) aNil)) (aName 5) (aSeq (aSet 3 (aOp aAdd (aVar 3) (aCall F__law_blank (fun _ _ => False) (aCons (aVar 0) (aCons (aAndV (aOp aGt (aVar 5) (aC (.d (.int 0)))) (aAndV (aOp (aIn id) (aOp aIx (aOp aIx (aVar 1) (aVar 5)) (aC (.d (.int 0)))) (aVar 2)) (aOp (aIn id) (aOp aIx (aOp aIx (aVar 1) (aOp aSub (aVar 5) (aC (.d (.int 1))))) (aUn aNeg (aC (.d (.int 1))))) (aVar 2)))) aNil))))) (aSeq (aDrop (aBM "list" aAppend (aVar 4) (aCons (aCB aLen (aCons (aVar 3) aNil)) aNil))) (aSet 3 (aOp aAdd (aVar 3) (aOp aIx (aVar 1) (aVar 5))))))) (aGh K (aRet (aTup (aCons (aOp aAdd (aVar 3) (aCall F__law_blank (fun _ _ => False) (aCons (aVar 0) (aCons (aC (.d (.bool false))) aNil)))) (aCons (aVar 4) aNil)))))))))
theorem len__law_spread : ∀ as κ R E', F__law_spread as κ R E' → as.length = (["source", "words"] : List Str).length := by
  rintro as κ R E' ⟨s, m, rfl, _⟩; rfl
theorem blank_w {s : Cell} {κr : AK} {b : Bool} {E : AX → AK → Prop} {R : AR} (hs : isSrc s) (k : ∀ z s', isSrc s' → isBlank z → (b = true → z ≠ "") → R (.d (.str z)) (s' :: κr)) : callW F__law_blank E [.c 0, .d (.bool b)] (s :: κr) R :=
  callW_i ⟨[0], _, _, by decide, rfl, sel0 hs, s, b, rfl, rfl, hs, fun z s' hs' hb hn => ⟨Nat.le_refl _, cl1 hs', rfl, k z s' hs' hb hn⟩⟩
theorem tl_empty : tl "" = [] := by decide +kernel
theorem ne_tl {w : Str} (h : w ≠ "") : tl w ≠ [] := fun e => h (tl_inj (e.trans tl_empty.symm))
theorem ne_first {w : Str} (h : w ≠ "") : ∃ c r, tl w = c :: r := by
  cases e : tl w with
  | nil => exact absurd e (ne_tl h)
  | cons c r => exact ⟨c, r, rfl⟩
theorem ne_last {w : Str} (h : w ≠ "") : ∃ r c, tl w = r ++ [c] := ⟨_, _, (List.dropLast_concat_getLast (ne_tl h)).symm⟩
theorem txt_le : ∀ {ps : List Piece}, (∀ p ∈ ps, isBlank p.1 ∧ p.2.length ≤ 100) → (txt ps).length ≤ 102 * ps.length
  | [], _ => Nat.le_refl _
  | p :: ps, h => by
    have ih := txt_le (ps := ps) fun q hq => h q (List.mem_cons_of_mem _ hq)
    obtain ⟨h1, h2⟩ := h p (List.mem_cons_self ..)
    have := h1.2
    unfold txt at ih ⊢
    rw [List.flatMap_cons, List.length_append, List.length_append, ← tl_len, ← tl_len, List.length_cons]
    omega
theorem andV_i {f g : AE} {δ : AD} {κ : AK} {R : AR} (a b : Bool) (hf : ∀ R', R' (.d (.bool a)) κ → f δ κ R') (hg : a = true → ∀ R', R' (.d (.bool b)) κ → g δ κ R') (h : R (.d (.bool (a && b))) κ) : aAndV f g δ κ R := by
  refine hf _ ?_
  cases a with
  | true => exact hg rfl _ h
  | false => exact h
theorem rd__law_spread : ∀ as κ R E', F__law_spread as κ R E' → a__law_spread K (endsA K κ.length R) (startA N__law_spread as) κ := by
  rintro as κ R E' ⟨s, ws, rfl, rfl, hs, hlen, hw, h⟩
  refine blank_w hs fun b0 s0 hs0 hb0 _ => ⟨Nat.zero_le _, ?_⟩
  have lw : (ws.map PyData.str).length = ws.length := List.length_map ..
  refine ⟨by omega, by omega, ?_⟩
  refine for_r (fun i δ κ => ∃ (text : Str) (s : Cell) (ps : List Piece) (k : Option AV), δ = [some (.c 0), some (.d (.list (ws.map .str))), some (.d (.str alnum)), some (.d (.str text)), some (.c 1), k] ∧
      κ = [s, .ld ((plc b0.length ps).map .int)] ∧ isSrc s ∧ ps.map (·.2) = ws.take i ∧ (∀ p ∈ ps, isBlank p.1) ∧ Sep ps ∧ tl text = tl b0 ++ txt ps)
    ⟨b0, s0, [], none, rfl, rfl, hs0, rfl, fun p hp => (by cases hp), fun k p q h => (by simp at h), by simp [txt]⟩ ?_ ?_
  · rintro δ κ ⟨text, s, ps, k, rfl, rfl, hs, hps, hb, hsep, ht⟩ _
    have e : ((ws.map PyData.str).length : Int).toNat = ws.length := by omega
    rw [e, List.take_length] at hps
    refine ⟨_, _, GhS.freeze (show 1 ≤ 2 by decide) 1 _ rfl, ?_⟩
    refine blank_w hs.fz fun bl s2 hs2 hbl _ => ?_
    have pl : ps.length = ws.length := by rw [← hps, List.length_map]
    have t1 : text.length = b0.length + (txt ps).length := by rw [tl_len, ht, List.length_append, ← tl_len]
    have t2 : (txt ps).length ≤ 102 * ps.length := txt_le fun p hp => ⟨hb p hp, (hw p.2 (by rw [← hps]; exact List.mem_map.mpr ⟨p, hp, rfl⟩)).1⟩
    have h1 := hb0.2
    have h2 := hbl.2
    refine ⟨Nat.le_trans (show text.length + bl.length ≤ 6000000 by omega) (by decide), (show 2 ≤ sizeLine by decide), _, _, GhR.take 1 (Nat.le_refl _) (show 1 ≤ 2 by decide) (cl1_ok hs2) rfl, h _ _ _ hs2 ⟨b0, bl, ps, hps, hb0, hbl, hb, hsep, by rw [tl_app, ht], rfl⟩ ?_⟩
    show (text ++ bl).length ≤ _
    rw [tl_len, tl_app, List.length_append, ← tl_len, ← tl_len]; omega
  · rintro i δ κ hi ⟨text, s, ps, k, rfl, rfl, hs, hps, hb, hsep, ht⟩ _
    have hi' : i < ws.length := by omega
    have ei : (0 : Int) + (i : Int) = (i : Int) := Int.zero_add _
    rw [ei]
    have hwi : (ws.map PyData.str)[i]? = some (.str ws[i]) := by rw [List.getElem?_map, List.getElem?_eq_getElem hi']; rfl
    obtain ⟨hl1, hne⟩ := hw _ (List.getElem_mem hi')
    obtain ⟨c, r, ec⟩ := ne_first hne
    have pl : ps.length = i := by
      have := congrArg List.length hps
      rw [List.length_map, List.length_take] at this; omega
    have t1 : text.length = b0.length + (txt ps).length := by rw [tl_len, ht, List.length_append, ← tl_len]
    have t2 : (txt ps).length ≤ 102 * ps.length := txt_le fun p hp => ⟨hb p hp, (hw p.2 (List.mem_of_mem_take (by rw [← hps]; exact List.mem_map.mpr ⟨p, hp, rfl⟩))).1⟩
    have h1 := hb0.2
    have hc0 : atI (tl ws[i]) 0 = some c := at_nat (j := 0) (by rw [ec]; rfl)
    -- the blank's condition
    have cond : ∃ least : Bool, (∀ p, ps[i - 1]? = some p → 0 < i → runLast p.2 → runFirst ws[i] → least = true) ∧ ∀ R' : AR, R' (.d (.bool least)) [s, .ld ((plc b0.length ps).map .int)] →
        aAndV (aOp aGt (aVar 5) (aC (.d (.int 0)))) (aAndV (aOp (aIn id) (aOp aIx (aOp aIx (aVar 1) (aVar 5)) (aC (.d (.int 0)))) (aVar 2)) (aOp (aIn id) (aOp aIx (aOp aIx (aVar 1) (aOp aSub (aVar 5) (aC (.d (.int 1))))) (aUn aNeg (aC (.d (.int 1))))) (aVar 2)))
          [some (.c 0), some (.d (.list (ws.map .str))), some (.d (.str alnum)), some (.d (.str text)), some (.c 1), some (.d (.int i))] [s, .ld ((plc b0.length ps).map .int)] R' := by
      by_cases h0 : i = 0
      · refine ⟨false, fun _ _ z => absurd h0 (by omega), fun R' h => andV_i false true (fun R2 h2 => ?_) (fun z => by cases z) h⟩
        show R2 (.d (.bool (decide ((0 : Int) < (i : Int))))) _
        rw [decide_eq_false (by omega)]; exact h2
      · have hj : i - 1 < ws.length := by omega
        obtain ⟨hlj, hnj⟩ := hw _ (List.getElem_mem hj)
        obtain ⟨r', c', ec'⟩ := ne_last hnj
        have hwj : (ws.map PyData.str)[i - 1]? = some (.str ws[i - 1]) := by rw [List.getElem?_map, List.getElem?_eq_getElem hj]; rfl
        refine ⟨true && (decide (c ∈ tl alnum) && decide (c' ∈ tl alnum)), fun p hp _ hl hf => ?_, fun R' h => andV_i true _ (fun R2 h2 => ?_) (fun _ R2 h2 => andV_i _ _ (fun R3 h3 => ?_) (fun _ R3 h3 => ?_) h2) h⟩
        · have e2 : p.2 = ws[i - 1] := by
            have := congrArg (fun l => l[i - 1]?) hps
            simp only [List.getElem?_map, hp, List.getElem?_take_of_lt (show i - 1 < i by omega), List.getElem?_eq_getElem hj] at this
            exact Option.some.inj this
          rw [e2] at hl
          obtain ⟨r2, c2, y1, y2⟩ := hl
          obtain ⟨c3, r3, y3, y4⟩ := hf
          rw [ec] at y3; cases y3
          rw [ec'] at y1
          obtain ⟨_, y5⟩ := List.append_inj' y1 rfl
          cases y5
          rw [Bool.true_and, Bool.and_eq_true, decide_eq_true_eq, decide_eq_true_eq]
          exact ⟨alnum_mem.mpr y4, alnum_mem.mpr y2⟩
        · show R2 (.d (.bool (decide ((0 : Int) < (i : Int))))) _
          rw [decide_eq_true (by omega)]; exact h2
        · exact ⟨_, at_nat hwi, c, sl100 (by omega), hc0, c, rfl, h3⟩
        · have ej : ((i : Int) - 1) = ((i - 1 : Nat) : Int) := by omega
          have hjv : atI (ws.map PyData.str) ((i : Int) - 1) = some (.str ws[i - 1]) := by rw [ej]; exact at_nat hwj
          refine ⟨_, hjv, c', sl100 (by omega), (by rw [show (ws[i - 1]).cps.toList = r' ++ [c'] from ec']; exact atI_last _ _), c', rfl, h3⟩
    obtain ⟨least, hleast, hcond⟩ := cond
    refine hcond _ (blank_w hs fun bl s2 hs2 hbl hn => ?_)
    have h2 := hbl.2
    refine ⟨Nat.le_trans (show text.length + bl.length ≤ 6000000 by omega) (by decide), ?_⟩
    have ltb : (text ++ bl).length = text.length + bl.length := by rw [tl_len, tl_app, List.length_append, ← tl_len, ← tl_len]
    refine ⟨rfl, Nat.le_trans (show (text ++ bl).length ≤ 6000000 by omega) (by decide), ?_, _, at_nat hwi, Nat.le_trans (show (text ++ bl).length + (ws[i]).length ≤ 6000000 by omega) (by decide), text ++ bl ++ ws[i], s2, ps ++ [(bl, ws[i])], _, rfl, ?_, hs2, ?_, ?_, ?_, ?_⟩
    · have lp : (plc b0.length ps).length = ps.length := by
        have : ∀ (n : Nat) (l : List Piece), (plc n l).length = l.length := by
          intro n l
          induction l generalizing n with
          | nil => rfl
          | cons p l ih => show (plc _ l).length + 1 = _; rw [ih]; rfl
        exact this _ _
      rw [List.length_map, lp]
      exact Nat.lt_of_lt_of_le (show ps.length < 60000 by omega) (by decide)
    · rw [plc_snoc, List.map_append]
      show [s2, Cell.ld (_ ++ [PyData.int ((text ++ bl).length : Nat)])] = _
      rw [ltb, t1]; rfl
    · rw [List.map_append, hps]
      show _ ++ [ws[i]] = _
      rw [List.take_add_one, List.getElem?_eq_getElem hi']; rfl
    · intro p hp
      rcases List.mem_append.mp hp with z | z
      · exact hb p z
      · rw [List.mem_singleton.mp z]; exact hbl
    · intro k p q hk hk1 hl hf
      by_cases hlt : k + 1 < ps.length
      · rw [List.getElem?_append_left (by omega)] at hk hk1
        exact hsep k p q hk hk1 hl hf
      · have hb' := (List.getElem?_eq_some_iff.mp hk1).1
        rw [List.length_append] at hb'
        have hb2 : ([(bl, ws[i])] : List Piece).length = 1 := rfl
        have ek : k + 1 = ps.length := by omega
        rw [List.getElem?_append_right (by omega), ek, Nat.sub_self] at hk1
        cases hk1
        rw [List.getElem?_append_left (by omega)] at hk
        have : k = i - 1 := by omega
        subst this
        exact hn (hleast p hk (by omega) hl hf)
    · rw [tl_app, tl_app, ht, txt_snoc]; simp

/-! ### the same -/
/-- data of a depth below n, lists not longer than a range may be -/
def sdep : Nat → PyData → Prop
  | 0, _ => False
  | n + 1, .list ds => ds.length < 2 ^ 62 ∧ ∀ d ∈ ds, sdep n d
  | n + 1, .tuple ds => ds.length < 2 ^ 62 ∧ ∀ d ∈ ds, sdep n d
  | _ + 1, .dict _ => False
  | _ + 1, _ => True
def F_same (n : Nat) : FSp := fun as κ R _ => ∃ d, sdep n d ∧ R (.d (.bool true)) κ ∧ ((as = [.d d, .d d] ∧ κ = []) ∨ ∃ ds, d = .list ds ∧ as = [.c 0, .d d] ∧ κ = [.ld ds])
def F__law_same : FSp := F_same 5
theorem sdep_mono : ∀ {n : Nat} {d : PyData}, sdep n d → sdep (n + 1) d
  | 0, _, h => h.elim
  | n + 1, .list ds, h => ⟨h.1, fun d hd => sdep_mono (h.2 d hd)⟩
  | n + 1, .tuple ds, h => ⟨h.1, fun d hd => sdep_mono (h.2 d hd)⟩
  | _ + 1, .dict _, h => h.elim
  | _ + 1, .none, _ => trivial
  | _ + 1, .bool _, _ => trivial
  | _ + 1, .int _, _ => trivial
  | _ + 1, .str _, _ => trivial
theorem len__law_same (n : Nat) : ∀ as κ R E', F_same n as κ R E' → as.length = (["actual", "due"] : List Str).length := by
  rintro as κ R E' ⟨d, _, _, ⟨rfl, _⟩ | ⟨ds, _, rfl, _⟩⟩ <;> rfl
theorem rd0__law_same {as : List AV} {κ : AK} {R : AR} {E' : AX → AK → Prop} (h : F_same 0 as κ R E') : False := by
  obtain ⟨d, h, _⟩ := h; exact h
theorem same_w {n : Nat} {d : PyData} {κ : AK} {R : AR} {E : AX → AK → Prop} (hd : sdep n d) (h : R (.d (.bool true)) κ) : callW (F_same n) E [.d d, .d d] κ R :=
  callW_i ⟨[], _, _, .nil, rfl, rfl, d, hd, ⟨Nat.zero_le _, rfl, rfl, h⟩, .inl ⟨rfl, rfl⟩⟩
theorem tru_of {f : AE} {δ : AD} {κ : AK} {R : Bool → AK → Prop} (b : Bool) (h : f δ κ fun a κ1 => a = .d (.bool b) ∧ R b κ1) (mono : ∀ P Q : AR, (∀ a κ, P a κ → Q a κ) → f δ κ P → f δ κ Q) : aTru f δ κ R := mono _ _ (fun a κ1 ⟨e, q⟩ => by subst e; exact q) h
theorem kb_b : kitB "bool" "bool" = some true := by decide +kernel
theorem kb_i : kitB "int" "bool" = some false := by decide +kernel
theorem kb_s : kitB "str" "bool" = some false := by decide +kernel
theorem kb_l : kitB "list" "bool" = some false := by decide +kernel
theorem kb_t : kitB "tuple" "bool" = some false := by decide +kernel
theorem ki_i : kitB "int" "int" = some true := by decide +kernel
theorem ki_s : kitB "str" "int" = some false := by decide +kernel
theorem ki_l : kitB "list" "int" = some false := by decide +kernel
theorem ki_t : kitB "tuple" "int" = some false := by decide +kernel
theorem ks_s : kitB "str" "str" = some true := by decide +kernel
theorem ks_l : kitB "list" "str" = some false := by decide +kernel
theorem ks_t : kitB "tuple" "str" = some false := by decide +kernel
theorem kl_l : kitB "list" "list" = some true := by decide +kernel
theorem kl_t : kitB "tuple" "list" = some false := by decide +kernel
theorem kt_l : kitB "list" "tuple" = some false := by decide +kernel
theorem kt_t : kitB "tuple" "tuple" = some true := by decide +kernel
abbrev N__law_same : List Str := ["actual", "due", "k"]
def a__law_same (K : PySem.W.Frag) (F_self : FSp) : AS :=
  (aSeq (aIfS (aB (aOp (aIsN id) (aVar 1) (aC (.d .none)))) (aRet (aOp (aIsN id) (aVar 0) (aC (.d .none)))) aNext) (aSeq (aIfS (aTru (aCB aIsi (aCons (aVar 1) (aCons (aC (.r (.ty "bool"))) aNil)))) (aRet (aAndV (aCB aIsi (aCons (aVar 0) (aCons (aC (.r (.ty "bool"))) aNil))) (aOp aEq (aVar 0) (aVar 1)))) aNext) (aSeq (aIfS (aTru (aCB aIsi (aCons (aVar 1) (aCons (aC (.r (.ty "int"))) aNil)))) (aRet (aAndV (aCB aIsi (aCons (aVar 0) (aCons (aC (.r (.ty "int"))) aNil))) (aAndV (aNotV (aCB aIsi (aCons (aVar 0) (aCons (aC (.r (.ty "bool"))) aNil)))) (aOp aEq (aVar 0) (aVar 1))))) aNext) (aSeq (aIfS (aTru (aCB aIsi (aCons (aVar 1) (aCons (aC (.r (.ty "str"))) aNil)))) (aRet (aAndV (aCB aIsi (aCons (aVar 0) (aCons (aC (.r (.ty "str"))) aNil))) (aOp aEq (aVar 0) (aVar 1)))) aNext) (aSeq (aIfS (aOr (aB (aOp aNe (aCB aIsi (aCons (aVar 1) (aCons (aC (.r (.ty "list"))) aNil))) (aCB aIsi (aCons (aVar 0) (aCons (aC (.r (.ty "list"))) aNil))))) (aB (aOp aNe (aCB aIsi (aCons (aVar 1) (aCons (aC (.r (.ty "tuple"))) aNil))) (aCB aIsi (aCons (aVar 0) (aCons (aC (.r (.ty "tuple"))) aNil)))))) (aRet (aC (.d (.bool false)))) aNext) (aSeq (aIfS (aB (aOp aNe (aCB aLen (aCons (aVar 0) aNil)) (aCB aLen (aCons (aVar 1) aNil)))) (aRet (aC (.d (.bool false)))) aNext) (aSeq (aFor (aRng1 (aCons (aCB aLen (aCons (aVar 1) aNil)) aNil)) (aName 2) (aIfS (aNot (aTru (aCall F_self (fun _ _ => False) (aCons (aOp aIx (aVar 0) (aVar 2)) (aCons (aOp aIx (aVar 1) (aVar 2)) aNil))))) (aRet (aC (.d (.bool false)))) aNext)) (aRet (aC (.d (.bool true)))))))))))
theorem rd__law_same (n : Nat) : ∀ as κ R E', F_same (n + 1) as κ R E' → a__law_same K (F_same n) (endsA K κ.length R) (startA N__law_same as) κ := by
  rintro as κ R E' ⟨d, hd, hR, hv⟩
  have fin : (endsA K κ.length R).rt (.d (.bool true)) κ := ⟨_, _, GhR.refl (Nat.le_refl _), hR⟩
  have eqt : ∀ b : Bool, b = true → (endsA K κ.length R).rt (.d (.bool b)) κ := fun b e => by subst e; exact fin
  -- the items, one by one
  have items : ∀ (a b : AV) (ds : List PyData), ds.length < 2 ^ 62 → (∀ x ∈ ds, sdep n x) → ((a = .d (.list ds) ∧ b = .d (.list ds)) ∨ (a = .d (.tuple ds) ∧ b = .d (.tuple ds)) ∨ (a = .c 0 ∧ b = .d (.list ds) ∧ κ = [.ld ds])) →
      ForW (itR 0 ds.length) (aName 2) (aIfS (aNot (aTru (aCall (F_same n) (fun _ _ => False) (aCons (aOp aIx (aVar 0) (aVar 2)) (aCons (aOp aIx (aVar 1) (aVar 2)) aNil))))) (aRet (aC (.d (.bool false)))) aNext)
        { n := κ.length, nx := aRet (aC (.d (.bool true))) (endsA K κ.length R), rt := (endsA K κ.length R).rt, bk := (endsA K κ.length R).bk, ct := (endsA K κ.length R).ct } κ.length [some a, some b, none] κ := by
    intro a b ds hl hs hab
    refine for_r (fun i δ κ' => ∃ k, δ = [some a, some b, k] ∧ κ' = κ) ⟨none, rfl, rfl⟩ ?_ ?_
    · rintro δ κ' ⟨k, rfl, rfl⟩ _
      exact fin
    · rintro i δ κ' hi ⟨k, rfl, e⟩ _
      have e0 : (0 : Int) + (i : Int) = (i : Int) := Int.zero_add _
      have hx := List.getElem?_eq_getElem hi
      have hsi := hs _ (List.getElem_mem hi)
      rw [e0]
      rcases hab with ⟨rfl, rfl⟩ | ⟨rfl, rfl⟩ | ⟨rfl, rfl, rfl⟩
      · exact ⟨_, at_nat hx, _, at_nat hx, same_w hsi ⟨_, rfl, e⟩⟩
      · exact ⟨_, at_nat hx, _, at_nat hx, same_w hsi ⟨_, rfl, e⟩⟩
      · subst e; exact ⟨_, at_nat hx, _, at_nat hx, same_w hsi ⟨_, rfl, rfl⟩⟩
  rcases hv with ⟨rfl, rfl⟩ | ⟨ds, rfl, rfl, rfl⟩
  · cases d with
    | none => exact fin
    | bool b => exact ⟨true, kb_b, true, kb_b, eqt _ (decide_eq_true rfl)⟩
    | int i => exact ⟨false, kb_i, true, ki_i, true, ki_i, false, kb_i, eqt _ (decide_eq_true rfl)⟩
    | str z => exact ⟨false, kb_s, false, ki_s, true, ks_s, true, ks_s, eqt _ (decide_eq_true rfl)⟩
    | list ds =>
      refine ⟨false, kb_l, false, ki_l, false, ks_l, true, kl_l, true, kl_l, false, kt_l, false, kt_l, bsel_i (fun h => by simp at h) fun _ => ?_⟩
      obtain ⟨hl, hs⟩ := hd
      refine ⟨by omega, by omega, ?_⟩
      exact items _ _ ds hl hs (.inl ⟨rfl, rfl⟩)
    | tuple ds =>
      refine ⟨false, kb_t, false, ki_t, false, ks_t, false, kl_t, false, kl_t, true, kt_t, true, kt_t, bsel_i (fun h => by simp at h) fun _ => ?_⟩
      obtain ⟨hl, hs⟩ := hd
      refine ⟨by omega, by omega, ?_⟩
      exact items _ _ ds hl hs (.inr (.inl ⟨rfl, rfl⟩))
    | dict _ => exact hd.elim
  · refine ⟨false, kb_l, false, ki_l, false, ks_l, true, kl_l, true, kl_l, false, kt_l, false, kt_l, bsel_i (fun h => by simp at h) fun _ => ?_⟩
    obtain ⟨hl, hs⟩ := hd
    refine ⟨by omega, by omega, ?_⟩
    exact items _ _ ds hl hs (.inr (.inr ⟨rfl, rfl, rfl⟩))
theorem imp__law_same : ∀ as κ R E', F__law_same as κ R E' → F_same 5 as κ R E' := fun _ _ _ _ h => h
theorem source_w {ns : List Int} {κ : AK} {R : AR} {E : AX → AK → Prop} (h : ∀ s, isSrc s → R (.c κ.length) (κ ++ [s])) : callW F__law_source E [.d (.list (ns.map .int))] κ R :=
  callW_i ⟨[], _, _, .nil, rfl, rfl, ns, rfl, rfl, fun s hs => ⟨Nat.zero_le _, cl1 hs, List.all_eq_true.mpr fun c hc => (by have hc : c ∈ [s] := hc; rw [List.mem_singleton.mp hc]; exact hs.cl.2), h s hs⟩⟩
theorem name_w {s : Cell} {κr : AK} {tk : List Str} {E : AX → AK → Prop} {R : AR} (hs : isSrc s) (ht : tk.length ≤ 10000) (k : ∀ z s', isSrc s' → isName z → z ∉ tk → R (.d (.str z)) (s' :: κr)) : callW F__law_name E [.c 0, .d (.list (tk.map .str))] (s :: κr) R :=
  callW_i ⟨[0], _, _, by decide, rfl, sel0 hs, s, tk, rfl, rfl, hs, ht, fun z s' hs' hb hn => ⟨Nat.le_refl _, cl1 hs', rfl, k z s' hs' hb hn⟩⟩
theorem spread_w {s : Cell} {κr : AK} {ws : List Str} {E : AX → AK → Prop} {R : AR} (hs : isSrc s) (h1 : ws.length ≤ 50000) (h2 : ∀ w ∈ ws, w.length ≤ 100 ∧ w ≠ "")
    (k : ∀ text places s', isSrc s' → Spread ws text places → text.length ≤ 102 * ws.length + 4 → R (.d (.tuple [.str text, .list (places.map .int)])) (s' :: κr)) : callW F__law_spread E [.c 0, .d (.list (ws.map .str))] (s :: κr) R :=
  callW_i ⟨[0], _, _, by decide, rfl, sel0 hs, s, ws, rfl, rfl, hs, h1, h2, fun t p s' hs' hb hn => ⟨Nat.le_refl _, cl1 hs', rfl, k t p s' hs' hb hn⟩⟩
end Com
set_option Elab.async false
set_option linter.all false
set_option maxRecDepth 100000
set_option maxHeartbeats 4000000
namespace K08
open PySem L2 Ab Com
variable {K : PySem.W.Frag}
def topS (i : Nat) : Stmt := PySem.Challenge.pw_pactloom_k08_printed_forms.main.body.getD i (.Pass ⟨0, 0, 0, 0⟩)
abbrev s__law_source : Stmt := topS 8
theorem sc__law_source : FnScope Com.N__law_source ["script"] (defScope s__law_source) := ⟨rfl, rfl, rfl, by decide +kernel, rfl, by decide +kernel, by decide +kernel⟩
abbrev s__law_pick : Stmt := topS 9
theorem sc__law_pick : FnScope Com.N__law_pick ["source", "many"] (defScope s__law_pick) := ⟨rfl, rfl, rfl, by decide +kernel, rfl, by decide +kernel, by decide +kernel⟩
abbrev s__law_name : Stmt := topS 10
theorem sc__law_name : FnScope Com.N__law_name ["source", "taken"] (defScope s__law_name) := ⟨rfl, rfl, rfl, by decide +kernel, rfl, by decide +kernel, by decide +kernel⟩
abbrev s__law_names : Stmt := topS 11
abbrev N__law_names : List Str := ["source", "many", "taken", "names", "k"]
theorem sc__law_names : FnScope N__law_names ["source", "many", "taken"] (defScope s__law_names) := ⟨rfl, rfl, rfl, by decide +kernel, rfl, by decide +kernel, by decide +kernel⟩
abbrev s__law_letter : Stmt := topS 12
abbrev N__law_letter : List Str := ["source", "world", "parties", "sender", "taker"]
theorem sc__law_letter : FnScope N__law_letter ["source", "world"] (defScope s__law_letter) := ⟨rfl, rfl, rfl, by decide +kernel, rfl, by decide +kernel, by decide +kernel⟩
abbrev s__law_use : Stmt := topS 13
abbrev N__law_use : List Str := ["source", "world", "fits", "name", "many", "left", "chosen", "k", "one"]
theorem sc__law_use : FnScope N__law_use ["source", "world"] (defScope s__law_use) := ⟨rfl, rfl, rfl, by decide +kernel, rfl, by decide +kernel, by decide +kernel⟩
abbrev s__law_step : Stmt := topS 14
abbrev N__law_step : List Str := ["source", "world", "depth", "kind", "bodies", "made", "k"]
theorem sc__law_step : FnScope N__law_step ["source", "world", "depth"] (defScope s__law_step) := ⟨rfl, rfl, rfl, by decide +kernel, rfl, by decide +kernel, by decide +kernel⟩
abbrev s__law_body : Stmt := topS 15
abbrev N__law_body : List Str := ["source", "world", "depth", "steps", "k", "step"]
theorem sc__law_body : FnScope N__law_body ["source", "world", "depth"] (defScope s__law_body) := ⟨rfl, rfl, rfl, by decide +kernel, rfl, by decide +kernel, by decide +kernel⟩
abbrev s__law_book : Stmt := topS 16
abbrev N__law_book : List Str := ["source", "most", "room", "book", "names", "earlier", "name", "world", "body"]
theorem sc__law_book : FnScope N__law_book ["source", "most", "room"] (defScope s__law_book) := ⟨rfl, rfl, rfl, by decide +kernel, rfl, by decide +kernel, by decide +kernel⟩
abbrev s__law_inner : Stmt := topS 21
abbrev N__law_inner : List Str := ["body", "bodies", "step", "part"]
theorem sc__law_inner : FnScope N__law_inner ["body"] (defScope s__law_inner) := ⟨rfl, rfl, rfl, by decide +kernel, rfl, by decide +kernel, by decide +kernel⟩
abbrev s__law_same : Stmt := topS 17
theorem sc__law_same : FnScope Com.N__law_same ["actual", "due"] (defScope s__law_same) := ⟨rfl, rfl, rfl, by decide +kernel, rfl, by decide +kernel, by decide +kernel⟩
abbrev s__print_call : Stmt := topS 6
abbrev N__print_call : List Str := ["name", "parties"]
theorem sc__print_call : FnScope N__print_call ["name", "parties"] (defScope s__print_call) := ⟨rfl, rfl, rfl, by decide +kernel, rfl, by decide +kernel, by decide +kernel⟩
abbrev s_print_braces : Stmt := topS 5
abbrev N_print_braces : List Str := ["word", "texts"]
theorem sc_print_braces : FnScope N_print_braces ["word", "texts"] (defScope s_print_braces) := ⟨rfl, rfl, rfl, by decide +kernel, rfl, by decide +kernel, by decide +kernel⟩
abbrev s_print_step : Stmt := topS 4
abbrev N_print_step : List Str := ["step", "_", "sender", "taker", "label", "body"]
theorem sc_print_step : FnScope N_print_step ["step"] (defScope s_print_step) := ⟨rfl, rfl, rfl, by decide +kernel, rfl, by decide +kernel, by decide +kernel⟩
abbrev s_print_body : Stmt := topS 3
abbrev N_print_body : List Str := ["body", "step"]
theorem sc_print_body : FnScope N_print_body ["body"] (defScope s_print_body) := ⟨rfl, rfl, rfl, by decide +kernel, rfl, by decide +kernel, by decide +kernel⟩
abbrev s_print_pact : Stmt := topS 2
abbrev N_print_pact : List Str := ["pact", "_", "name", "parties", "body", "words"]
theorem sc_print_pact : FnScope N_print_pact ["pact"] (defScope s_print_pact) := ⟨rfl, rfl, rfl, by decide +kernel, rfl, by decide +kernel, by decide +kernel⟩
abbrev s_print_book : Stmt := topS 1
abbrev N_print_book : List Str := ["book", "pact"]
theorem sc_print_book : FnScope N_print_book ["book"] (defScope s_print_book) := ⟨rfl, rfl, rfl, by decide +kernel, rfl, by decide +kernel, by decide +kernel⟩
abbrev s__law_step_text : Stmt := topS 18
abbrev N__law_step_text : List Str := ["step", "body"]
theorem sc__law_step_text : FnScope N__law_step_text ["step"] (defScope s__law_step_text) := ⟨rfl, rfl, rfl, by decide +kernel, rfl, by decide +kernel, by decide +kernel⟩
abbrev s__law_body_text : Stmt := topS 19
abbrev N__law_body_text : List Str := ["body", "text", "k"]
theorem sc__law_body_text : FnScope N__law_body_text ["body"] (defScope s__law_body_text) := ⟨rfl, rfl, rfl, by decide +kernel, rfl, by decide +kernel, by decide +kernel⟩
abbrev s__law_pact_text : Stmt := topS 20
abbrev N__law_pact_text : List Str := ["pact", "kind", "name", "parties", "body", "text"]
theorem sc__law_pact_text : FnScope N__law_pact_text ["pact"] (defScope s__law_pact_text) := ⟨rfl, rfl, rfl, by decide +kernel, rfl, by decide +kernel, by decide +kernel⟩
abbrev s_law : Stmt := topS 22
abbrev N_law : List Str := ["script", "source", "k", "book", "pact", "body"]
theorem sc_law : FnScope N_law ["script"] (defScope s_law) := ⟨rfl, rfl, rfl, by decide +kernel, rfl, by decide +kernel, by decide +kernel⟩

/-! ### texts -/
theorem slen_app (a b : Str) : (a ++ b).length = a.length + b.length := by rw [tl_len, tl_app, List.length_append, ← tl_len, ← tl_len]
theorem emp_app (a : Str) : Str.empty ++ a = a := tl_inj (by rw [tl_app]; rfl)
theorem app_assoc (a b c : Str) : a ++ b ++ c = a ++ (b ++ c) := tl_inj (by simp only [tl_app, List.append_assoc])
theorem tl_tjoin (s : Str) (ys : List Str) : tl (Txt.join s ys) = TL.joinL (tl s) (ys.map tl) := by
  rw [TL.join_eq]; exact TL.tl_join s ys
theorem joinL_len (S : List Nat) : ∀ ps : List (List Nat), (TL.joinL S ps).length ≤ (ps.map fun p => p.length + S.length).sum
  | [] => Nat.le_refl _
  | [p] => by show p.length ≤ (p.length + S.length) + 0; omega
  | p :: q :: r => by
    have ih := joinL_len S (q :: r)
    show (p ++ (S ++ TL.joinL S (q :: r))).length ≤ _
    rw [List.map_cons, List.sum_cons, List.length_append, List.length_append]
    omega
theorem tjoin_len (s : Str) (ys : List Str) : (Txt.join s ys).length ≤ (ys.map fun y => y.length + s.length).sum := by
  have h := joinL_len (tl s) (ys.map tl)
  rw [← tl_tjoin, ← tl_len, List.map_map] at h
  refine Nat.le_trans h (Nat.le_of_eq ?_)
  refine congrArg List.sum (List.map_congr_left fun y _ => ?_)
  show (tl y).length + (tl s).length = _
  rw [← tl_len, ← tl_len]
theorem joinL_snoc (S p : List Nat) : ∀ ps : List (List Nat), TL.joinL S (ps ++ [p]) = if ps = [] then p else TL.joinL S ps ++ (S ++ p)
  | [] => rfl
  | [q] => rfl
  | q :: q2 :: r => by
    have ih := joinL_snoc S p (q2 :: r)
    show q ++ (S ++ TL.joinL S ((q2 :: r) ++ [p])) = (q ++ (S ++ TL.joinL S (q2 :: r))) ++ (S ++ p)
    rw [ih, if_neg (by simp)]
    simp only [List.append_assoc]
theorem tjoin_snoc (s y : Str) (ys : List Str) : Txt.join s (ys ++ [y]) = if ys = [] then y else Txt.join s ys ++ s ++ y := by
  apply tl_inj
  rw [tl_tjoin, List.map_append]
  show TL.joinL (tl s) (ys.map tl ++ [tl y]) = _
  rw [joinL_snoc]
  cases ys with
  | nil => rfl
  | cons z zs => rw [if_neg (by simp), if_neg (by simp), tl_app, tl_app, tl_tjoin, List.append_assoc]
theorem tjoin_nil (s : Str) : Txt.join s [] = Str.empty := tl_inj (by rw [tl_tjoin]; rfl)
theorem tjoin_one (s y : Str) : Txt.join s [y] = y := tl_inj (by rw [tl_tjoin]; rfl)
theorem sum_le {α : Type} {f g : α → Nat} : ∀ {xs : List α}, (∀ x ∈ xs, f x ≤ g x) → (xs.map f).sum ≤ (xs.map g).sum
  | [], _ => Nat.le_refl _
  | x :: xs, h => by
    have h1 := h x (List.mem_cons_self ..)
    have h2 := sum_le (xs := xs) fun z hz => h z (List.mem_cons_of_mem _ hz)
    rw [List.map_cons, List.map_cons, List.sum_cons, List.sum_cons]; omega
theorem sum_mul {α : Type} (c : Nat) (g : α → Nat) : ∀ xs : List α, (xs.map fun x => c * g x).sum = c * (xs.map g).sum
  | [] => rfl
  | x :: xs => by rw [List.map_cons, List.map_cons, List.sum_cons, List.sum_cons, sum_mul c g xs, Nat.mul_add]
theorem sum_addc {α : Type} (c : Nat) (g : α → Nat) : ∀ xs : List α, (xs.map fun x => g x + c).sum = (xs.map g).sum + c * xs.length
  | [] => rfl
  | x :: xs => by rw [List.map_cons, List.map_cons, List.sum_cons, List.sum_cons, sum_addc c g xs, List.length_cons, Nat.mul_add]; omega
theorem sum_const {α : Type} (c : Nat) : ∀ xs : List α, (xs.map fun _ => c).sum = c * xs.length
  | [] => rfl
  | x :: xs => by rw [List.map_cons, List.sum_cons, sum_const c xs, List.length_cons, Nat.mul_add]; omega
theorem l0 : (Str.empty).length = 0 := rfl
theorem l1 : ("(" : Str).length = 1 := by decide +kernel
theorem l2 : (")" : Str).length = 1 := by decide +kernel
theorem l3 : (", " : Str).length = 2 := by decide +kernel
theorem l4 : (" {" : Str).length = 2 := by decide +kernel
theorem l5 : ("}" : Str).length = 1 := by decide +kernel
theorem l6 : (" | " : Str).length = 3 := by decide +kernel
theorem l7 : (" -> " : Str).length = 4 := by decide +kernel
theorem l8 : (": " : Str).length = 2 := by decide +kernel
theorem l9 : ("use " : Str).length = 4 := by decide +kernel
theorem l10 : ("; " : Str).length = 2 := by decide +kernel
theorem l11 : ("loop {" : Str).length = 6 := by decide +kernel
theorem l12 : ("loop" : Str).length = 4 := by decide +kernel
theorem l13 : ("choice" : Str).length = 6 := by decide +kernel
theorem l14 : ("both" : Str).length = 4 := by decide +kernel
theorem l15 : ("pact " : Str).length = 5 := by decide +kernel
theorem l16 : (" end" : Str).length = 4 := by decide +kernel
theorem l17 : (" " : Str).length = 1 := by decide +kernel
theorem l18 : ("pact" : Str).length = 4 := by decide +kernel
theorem l19 : ("end" : Str).length = 3 := by decide +kernel
theorem l20 : ("\n" : Str).length = 1 := by decide +kernel
theorem l21 : ("" : Str).length = 0 := by decide +kernel
/-! ### trees: a step, its letters and steps counted, its text -/
def nm (z : Str) : Prop := z.length ≤ 12
theorem nm_of {z : Str} (h : isName z) : nm z := by
  obtain ⟨⟨c, r, e, _, _, l⟩, _⟩ := h
  unfold nm
  rw [tl_len, e, List.length_cons]; omega
inductive StepR (Bd : List PyData → Nat → Str → Prop) : PyData → Nat → Str → Prop
  | letter (w a b c : Str) : w = "letter" → nm a → nm b → nm c → StepR Bd (.tuple [.str w, .str a, .str b, .str c]) 1 (a ++ " -> " ++ b ++ ": " ++ c)
  | use (w n : Str) (ps : List Str) : w = "use" → nm n → (∀ p ∈ ps, nm p) → ps.length ≤ 6 → StepR Bd (.tuple [.str w, .str n, .tuple (ps.map .str)]) 1 ("use " ++ n ++ "(" ++ Txt.join ", " ps ++ ")")
  | loop (w : Str) (b : List PyData) (m : Nat) (t : Str) : w = "loop" → Bd b m t → StepR Bd (.tuple [.str w, .tuple b]) (m + 1) ("loop {" ++ t ++ "}")
  | br (w : Str) (bs : List (List PyData × Nat × Str)) : (w = "choice" ∨ w = "both") → (∀ x ∈ bs, Bd x.1 x.2.1 x.2.2) → bs.length ≤ 3 →
    StepR Bd (.tuple [.str w, .tuple (bs.map fun x => .tuple x.1)]) ((bs.map (·.2.1)).sum + 1) (w ++ " {" ++ Txt.join " | " (bs.map (·.2.2)) ++ "}")
def bodyR : Nat → List PyData → Nat → Str → Prop
  | 0 => fun _ _ _ => False
  | n + 1 => fun ds m t => ∃ xs : List (PyData × Nat × Str), ds = xs.map (·.1) ∧ (∀ x ∈ xs, StepR (bodyR n) x.1 x.2.1 x.2.2) ∧ m = (xs.map (·.2.1)).sum ∧ t = Txt.join "; " (xs.map (·.2.2))
theorem parts_len {ps : List Str} (h : ∀ p ∈ ps, nm p) (h6 : ps.length ≤ 6) : (Txt.join ", " ps).length ≤ 84 := by
  have h1 := tjoin_len ", " ps
  have h2 : (ps.map fun y => y.length + (", " : Str).length).sum ≤ (ps.map fun _ => 14).sum := sum_le fun p hp => by have := h p hp; unfold nm at this; rw [l3]; omega
  rw [sum_const] at h2
  omega
theorem stepR_pos {Bd d m t} (h : StepR Bd d m t) : 1 ≤ m := by cases h <;> omega
theorem stepR_len {Bd : List PyData → Nat → Str → Prop} (hB : ∀ ds m t, Bd ds m t → t.length ≤ 200 * m) {d m t} (h : StepR Bd d m t) : t.length + 2 ≤ 200 * m := by
  cases h with
  | letter w a b c hw ha hb hc => unfold nm at *; (first | omega | (simp only [slen_app, l0, l1, l2, l3, l4, l5, l6, l7, l8, l9, l10, l11, l12, l13, l14, l15, l16, l17, l18, l19, l20, l21] at * <;> omega))
  | use w n ps hw hn hp h6 =>
    have := parts_len hp h6
    unfold nm at hn; (first | omega | (simp only [slen_app, l0, l1, l2, l3, l4, l5, l6, l7, l8, l9, l10, l11, l12, l13, l14, l15, l16, l17, l18, l19, l20, l21] at * <;> omega))
  | loop w b m t hw hb =>
    have := hB _ _ _ hb
    (first | omega | (simp only [slen_app, l0, l1, l2, l3, l4, l5, l6, l7, l8, l9, l10, l11, l12, l13, l14, l15, l16, l17, l18, l19, l20, l21] at * <;> omega))
  | br w bs hw hb h3 =>
    have h1 := tjoin_len " | " (bs.map (·.2.2))
    rw [List.map_map] at h1
    have h2 : (bs.map ((fun y : Str => y.length + (" | " : Str).length) ∘ fun x => x.2.2)).sum ≤ (bs.map fun x => 200 * x.2.1 + 3).sum := sum_le fun x hx => by
      have := hB _ _ _ (hb x hx)
      show x.2.2.length + _ ≤ _
      rw [l6]; omega
    rw [sum_addc, sum_mul] at h2
    have lw : w.length ≤ 6 := by rcases hw with rfl | rfl <;> decide +kernel
    (first | omega | (simp only [slen_app, l0, l1, l2, l3, l4, l5, l6, l7, l8, l9, l10, l11, l12, l13, l14, l15, l16, l17, l18, l19, l20, l21] at * <;> omega))
theorem bodyR_len : ∀ {k ds m t}, bodyR k ds m t → t.length ≤ 200 * m
  | 0, _, _, _, h => h.elim
  | k + 1, ds, m, t, h => by
    obtain ⟨xs, rfl, hx, rfl, rfl⟩ := h
    have h1 := tjoin_len "; " (xs.map (·.2.2))
    rw [List.map_map] at h1
    have h2 : (xs.map ((fun y : Str => y.length + ("; " : Str).length) ∘ fun x => x.2.2)).sum ≤ (xs.map fun x => 200 * x.2.1).sum := sum_le fun x hx' => by
      have := stepR_len (fun _ _ _ h => bodyR_len h) (hx x hx')
      show x.2.2.length + _ ≤ _
      rw [l10]; omega
    rw [sum_mul] at h2
    omega
theorem bodyR_cnt {k ds m t} (h : bodyR k ds m t) : ds.length ≤ m := by
  cases k with
  | zero => exact h.elim
  | succ k =>
    obtain ⟨xs, rfl, hx, rfl, rfl⟩ := h
    have h2 : (xs.map fun _ => 1).sum ≤ (xs.map (·.2.1)).sum := sum_le fun x hx' => stepR_pos (hx x hx')
    rw [sum_const, Nat.one_mul] at h2
    rw [List.length_map]; exact h2
theorem bodyR_nil (k : Nat) : bodyR (k + 1) [] 0 Str.empty := ⟨[], rfl, (fun x hx => by cases hx), rfl, (tjoin_nil _).symm⟩
theorem bodyR_snoc {k ds m t d m2 t2} (h : bodyR (k + 1) ds m t) (h2 : StepR (bodyR k) d m2 t2) : ∃ t3, bodyR (k + 1) (ds ++ [d]) (m + m2) t3 := by
  obtain ⟨xs, rfl, hx, rfl, rfl⟩ := h
  refine ⟨_, xs ++ [(d, m2, t2)], by simp, fun x hx' => ?_, by simp, rfl⟩
  rcases List.mem_append.mp hx' with z | z
  · exact hx x z
  · rw [List.mem_singleton.mp z]; exact h2
theorem bodyR_app {k ds m t ds2 m2 t2} (h : bodyR k ds m t) (h2 : bodyR k ds2 m2 t2) : ∃ t3, bodyR k (ds ++ ds2) (m + m2) t3 := by
  cases k with
  | zero => exact h.elim
  | succ k =>
    obtain ⟨xs, rfl, hx, rfl, rfl⟩ := h
    obtain ⟨ys, rfl, hy, rfl, rfl⟩ := h2
    refine ⟨_, xs ++ ys, by simp, fun x hx' => ?_, by simp, rfl⟩
    rcases List.mem_append.mp hx' with z | z
    · exact hx x z
    · exact hy x z
/-! ### names -/
def F__law_names : FSp := fun as κ R _ => ∃ (s : Cell) (m : Int) (tk : List Str), as = [.c 0, .d (.int m), .d (.list (tk.map .str))] ∧ κ = [s] ∧ isSrc s ∧ 0 ≤ m ∧ m ≤ 1000 ∧ tk.length ≤ 1000 ∧
  ∀ (zs : List Str) (s' : Cell), isSrc s' → zs.length = m.toNat → (∀ z ∈ zs, nm z) → R (.d (.list (zs.map .str))) [s']
def a__law_names (K : PySem.W.Frag) : AS :=
  (aSeq (aSet 3 (aLst aNil)) (aSeq (aFor (aRng1 (aCons (aVar 1) aNil)) (aName 4) (aDrop (aBM "list" aAppend (aVar 3) (aCons (aCall Com.F__law_name (fun _ _ => False) (aCons (aVar 0) (aCons (aOp (aCat false) (aVar 3) (aVar 2)) aNil))) aNil)))) (aRet (aVar 3))))
theorem len__law_names : ∀ as κ R E', F__law_names as κ R E' → as.length = (["source", "many", "taken"] : List Str).length := by
  rintro as κ R E' ⟨s, m, tk, rfl, _⟩; rfl
theorem src2_take {s c : Cell} (h : isSrc s) : (([s, c] : AK).take 1).all (okC 1) = true := by
  obtain ⟨ns, i, x, y, rfl, _⟩ := h; rfl
theorem rd__law_names : ∀ as κ R E', F__law_names as κ R E' → a__law_names K (endsA K κ.length R) (startA N__law_names as) κ := by
  rintro as κ R E' ⟨s, m, tk, rfl, rfl, hs, h0, h1, htk, h⟩
  refine ⟨Nat.zero_le _, ?_⟩
  refine ⟨by omega, by omega, ?_⟩
  refine for_r (fun i δ κ => ∃ s zs k, δ = [some (.c 0), some (.d (.int m)), some (.d (.list (tk.map .str))), some (.c 1), k] ∧ κ = [s, .ld (zs.map .str)] ∧ isSrc s ∧ zs.length = i ∧ ∀ z ∈ zs, nm z)
    ⟨s, [], none, rfl, rfl, hs, rfl, (fun z hz => by cases hz)⟩ ?_ ?_
  · rintro δ κ ⟨s, zs, k, rfl, rfl, hs, hl, hz⟩ _
    refine ⟨_, _, (GhR.freeze (show 1 ≤ 2 by decide) 1 _ rfl).trans (GhR.take 1 (Nat.le_refl _) (show 1 ≤ 2 by decide) (src2_take hs.fz) rfl), h _ _ hs.fz hl hz⟩
  · rintro i δ κ hi ⟨s, zs, k, rfl, rfl, hs, hl, hz⟩ _
    refine ⟨rfl, zs.map .str, tk.map .str, rfl, rfl, ?_, ?_⟩
    · rw [List.length_map, List.length_map]; exact sl100 (by omega)
    rw [← List.map_append]
    refine name_w hs (by rw [List.length_append]; omega) fun z s' hs' hn _ => ?_
    refine ⟨?_, s', zs ++ [z], _, rfl, ?_, hs', by simp [hl], fun x hx => ?_⟩
    · rw [List.length_map]; exact Nat.lt_of_lt_of_le (show zs.length < 10000 by omega) (by decide)
    · simp
    · rcases List.mem_append.mp hx with y | y
      · exact hz x y
      · rw [List.mem_singleton.mp y]; exact nm_of hn
theorem names_w {s : Cell} {κr : AK} {m : Int} {tk : List Str} {E : AX → AK → Prop} {R : AR} (hs : isSrc s) (h0 : 0 ≤ m) (h1 : m ≤ 1000) (ht : tk.length ≤ 1000)
    (k : ∀ (zs : List Str) (s' : Cell), isSrc s' → zs.length = m.toNat → (∀ z ∈ zs, nm z) → R (.d (.list (zs.map .str))) (s' :: κr)) : callW F__law_names E [.c 0, .d (.int m), .d (.list (tk.map .str))] (s :: κr) R :=
  callW_i ⟨[0], _, _, by decide, rfl, sel0 hs, s, m, tk, rfl, rfl, hs, h0, h1, ht, fun zs s' hs' hl hz => ⟨Nat.le_refl _, cl1 hs', rfl, k zs s' hs' hl hz⟩⟩
/-! ### the world of a pact -/
def wD (ps : List Str) (er : List (Str × Nat)) (rm : Int) (lb : List Str) (dp : Int) : List (L2.Key × PyData) :=
  [(.inr "parties", .list (ps.map .str)), (.inr "earlier", .list (er.map fun p => .tuple [.str p.1, .int p.2])), (.inr "room", .int rm), (.inr "labels", .list (lb.map .str)), (.inr "deep", .int dp)]
structure okW (ps : List Str) (er : List (Str × Nat)) (lb : List Str) : Prop where
  p : ∀ x ∈ ps, nm x
  pl : ps.length ≤ 6
  pp : 0 < ps.length
  e : ∀ x ∈ er, nm x.1
  el : er.length ≤ 1000
  l : ∀ x ∈ lb, nm x
  ll : lb.length ≤ 1000
  lp : 0 < lb.length
theorem kne {a b : Str} (h : a ≠ b) : (Sum.inr a : L2.Key) ≠ .inr b := fun e => h (Sum.inr.inj e)
section
variable {ps : List Str} {er : List (Str × Nat)} {rm rm' dp : Int} {lb : List Str}
theorem get_p : valD (wD ps er rm lb dp) (.inr "parties") = some (.list (ps.map .str)) := valD_pos rfl
theorem get_e : valD (wD ps er rm lb dp) (.inr "earlier") = some (.list (er.map fun p => .tuple [.str p.1, .int p.2])) := (valD_neg (kne (by decide +kernel))).trans (valD_pos rfl)
theorem get_r : valD (wD ps er rm lb dp) (.inr "room") = some (.int rm) := (valD_neg (kne (by decide +kernel))).trans ((valD_neg (kne (by decide +kernel))).trans (valD_pos rfl))
theorem get_l : valD (wD ps er rm lb dp) (.inr "labels") = some (.list (lb.map .str)) := (valD_neg (kne (by decide +kernel))).trans ((valD_neg (kne (by decide +kernel))).trans ((valD_neg (kne (by decide +kernel))).trans (valD_pos rfl)))
theorem get_d : valD (wD ps er rm lb dp) (.inr "deep") = some (.int dp) := (valD_neg (kne (by decide +kernel))).trans ((valD_neg (kne (by decide +kernel))).trans ((valD_neg (kne (by decide +kernel))).trans ((valD_neg (kne (by decide +kernel))).trans (valD_pos rfl))))
theorem s_er : ("earlier" : Str) ≠ "room" := by decide +kernel
theorem s_pr : ("parties" : Str) ≠ "room" := by decide +kernel
theorem s_lr : ("labels" : Str) ≠ "room" := by decide +kernel
theorem s_dr : ("deep" : Str) ≠ "room" := by decide +kernel
theorem s_pl : ("parties" : Str) ≠ "labels" := by decide +kernel
theorem s_el : ("earlier" : Str) ≠ "labels" := by decide +kernel
theorem s_rl : ("room" : Str) ≠ "labels" := by decide +kernel
theorem s_pd : ("parties" : Str) ≠ "deep" := by decide +kernel
theorem s_ed : ("earlier" : Str) ≠ "deep" := by decide +kernel
theorem s_rd : ("room" : Str) ≠ "deep" := by decide +kernel
theorem s_ld : ("labels" : Str) ≠ "deep" := by decide +kernel
theorem s_pe : ("parties" : Str) ≠ "earlier" := by decide +kernel
theorem put_r : putD (wD ps er rm lb dp) (.inr "room") (.int rm') = wD ps er rm' lb dp := by
  simp [putD, wD, s_er, s_pr, s_lr, s_dr]
theorem mk_w {a b c : PyData} : mergeD [] [(.inr "parties", a), (.inr "earlier", b), (.inr "room", c)] = [(.inr "parties", a), (.inr "earlier", b), (.inr "room", c)] := by
  simp [mergeD, putD, s_pr, s_er, s_pe]
theorem put_l {a b c d : PyData} : putD [(.inr "parties", a), (.inr "earlier", b), (.inr "room", c)] (.inr "labels") d = [(.inr "parties", a), (.inr "earlier", b), (.inr "room", c), (.inr "labels", d)] := by
  simp [putD, s_pl, s_el, s_rl]
theorem put_d {a b c d e : PyData} : putD [(.inr "parties", a), (.inr "earlier", b), (.inr "room", c), (.inr "labels", d)] (.inr "deep") e = [(.inr "parties", a), (.inr "earlier", b), (.inr "room", c), (.inr "labels", d), (.inr "deep", e)] := by
  simp [putD, s_pd, s_ed, s_rd, s_ld]
end
end K08
set_option Elab.async false
set_option linter.all false
set_option maxRecDepth 100000
set_option maxHeartbeats 4000000
namespace K08
open PySem L2 Ab Com
variable {K : PySem.W.Frag}
theorem str_at {xs : List Str} {i : Int} (h0 : 0 ≤ i) (h : i < xs.length) : ∃ z, z ∈ xs ∧ atI (xs.map PyData.str) i = some (.str z) ∧ (xs.map PyData.str)[i.toNat]? = some (.str z) := by
  obtain ⟨w, hw, hm, hg⟩ := at_mem (xs := xs.map PyData.str) h0 (by rw [List.length_map]; exact h)
  obtain ⟨z, hz, rfl⟩ := List.mem_map.mp hm
  exact ⟨z, hz, hw, hg⟩
theorem sel01 {s : Cell} {kv : List (L2.Key × PyData)} {κr : AK} (h : isSrc s) : selK [0, 1] (s :: .dK kv :: κr) = some [s, .dK kv] := by
  show (match some s, (if true = true then some [Cell.dK kv] else none) with | some c, some cs => if clC c = true then some (c :: cs) else none | _, _ => none) = _
  simp [h.cl.1]
theorem sel02 {s c1 : Cell} {kv : List (L2.Key × PyData)} {κr : AK} (h : isSrc s) : selK [0, 2] (s :: c1 :: .dK kv :: κr) = some [s, .dK kv] := by
  show (match some s, (if true = true then some [Cell.dK kv] else none) with | some c, some cs => if clC c = true then some (c :: cs) else none | _, _ => none) = _
  simp [h.cl.1]
theorem cl2 {s : Cell} {kv : List (L2.Key × PyData)} (h : isSrc s) : ([s, .dK kv] : AK).all clC = true := by rw [List.all_cons, h.cl.1]; rfl
theorem map_erase {α β : Type} (f : α → β) : ∀ (l : List α) (i : Nat), (l.map f).eraseIdx i = (l.eraseIdx i).map f
  | [], _ => rfl
  | _ :: _, 0 => rfl
  | a :: l, i + 1 => congrArg (f a :: ·) (map_erase f l i)
theorem mem_erase {α : Type} {x : α} : ∀ {l : List α} {i : Nat}, x ∈ l.eraseIdx i → x ∈ l
  | [], _, h => h
  | _ :: _, 0, h => List.mem_cons_of_mem _ h
  | a :: l, i + 1, h => by
    rcases List.mem_cons.mp (show x ∈ a :: l.eraseIdx i from h) with rfl | h
    · exact List.mem_cons_self ..
    · exact List.mem_cons_of_mem _ (mem_erase h)
/-! ### a letter -/
def F__law_letter : FSp := fun as κ R _ => ∃ (s : Cell) (ps : List Str) (er : List (Str × Nat)) (rm : Int) (lb : List Str) (dp : Int), as = [.c 0, .c 1] ∧ κ = [s, .dK (wD ps er rm lb dp)] ∧ isSrc s ∧ okW ps er lb ∧
  (∀ s', isSrc s' → R (.d .none) [s', .dK (wD ps er rm lb dp)]) ∧ ∀ s' a b c, isSrc s' → nm a → nm b → nm c → R (.d (.tuple [.str "letter", .str a, .str b, .str c])) [s', .dK (wD ps er rm lb dp)]
def a__law_letter (K : PySem.W.Frag) : AS :=
  (aSeq (aSet 2 (aDGet (aVar 1) (aC (.d (.str "parties"))))) (aSeq (aIfS (aB (aOp aLt (aCB aLen (aCons (aVar 2) aNil)) (aC (.d (.int 2))))) (aRet (aC (.d .none))) aNext) (aSeq (aSet 3 (aCall Com.F__law_pick (fun _ _ => False) (aCons (aVar 0) (aCons (aCB aLen (aCons (aVar 2) aNil)) aNil)))) (aSeq (aSet 4 (aOp aMod (aCB aIntOf (aCons (aOp aAdd (aOp aAdd (aVar 3) (aC (.d (.int 1)))) (aCall Com.F__law_pick (fun _ _ => False) (aCons (aVar 0) (aCons (aOp aSub (aCB aLen (aCons (aVar 2) aNil)) (aC (.d (.int 1)))) aNil)))) aNil)) (aCB aLen (aCons (aVar 2) aNil)))) (aRet (aTup (aCons (aC (.d (.str "letter"))) (aCons (aOp aIx (aVar 2) (aVar 3)) (aCons (aOp aIx (aVar 2) (aVar 4)) (aCons (aOp aIx (aDGet (aVar 1) (aC (.d (.str "labels")))) (aCall Com.F__law_pick (fun _ _ => False) (aCons (aVar 0) (aCons (aCB aLen (aCons (aDGet (aVar 1) (aC (.d (.str "labels")))) aNil)) aNil)))) aNil))))))))))
theorem len__law_letter : ∀ as κ R E', F__law_letter as κ R E' → as.length = (["source", "world"] : List Str).length := by
  rintro as κ R E' ⟨s, m, tk, _, _, _, rfl, _⟩; rfl
theorem rd__law_letter : ∀ as κ R E', F__law_letter as κ R E' → a__law_letter K (endsA K κ.length R) (startA N__law_letter as) κ := by
  rintro as κ R E' ⟨s, ps, er, rm, lb, dp, rfl, rfl, hs, ok, h1, h2⟩
  have lp : (ps.map PyData.str).length = ps.length := List.length_map ..
  have ll : (lb.map PyData.str).length = lb.length := List.length_map ..
  have := ok.pl; have := ok.pp; have := ok.ll; have := ok.lp
  refine ⟨_, .inr "parties", _, rfl, rfl, get_p, ?_⟩
  refine bsel_i (fun _ => ⟨_, _, GhR.refl (Nat.le_refl _), h1 _ hs⟩) fun hl => ?_
  have hl : ¬ (((ps.map PyData.str).length : Nat) : Int) < 2 := of_decide_eq_false hl
  refine pick_w hs (by omega) (by omega) fun v s1 hs1 h10 h11 => ?_
  refine pick_w hs1 (by show (0 : Int) < ((ps.map PyData.str).length : Int) - 1; omega) (by show ((ps.map PyData.str).length : Int) - 1 < 1000000; omega) fun v2 s2 hs2 h20 h21 => ⟨by omega, ?_⟩
  obtain ⟨z1, m1, e1, _⟩ := str_at (xs := ps) h10 (by omega)
  have hlp : (0 : Int) < ((ps.map PyData.str).length : Nat) := by omega
  obtain ⟨z2, m2, e2, _⟩ := str_at (xs := ps) (i := (v + 1 + v2) % ((ps.map PyData.str).length : Nat)) (Int.emod_nonneg _ (by omega)) (by have := Int.emod_lt_of_pos (v + 1 + v2) hlp; omega)
  refine ⟨_, e1, _, e2, _, .inr "labels", _, rfl, rfl, get_l, _, .inr "labels", _, rfl, rfl, get_l, ?_⟩
  refine pick_w hs2 (by omega) (by omega) fun v3 s3 hs3 h30 h31 => ?_
  obtain ⟨z3, m3, e3, _⟩ := str_at (xs := lb) h30 (by omega)
  exact ⟨_, e3, (show 4 ≤ sizeLine by decide), _, _, GhR.refl (Nat.le_refl _), h2 _ _ _ _ hs3 (ok.p _ m1) (ok.p _ m2) (ok.l _ m3)⟩
theorem letter_w {s : Cell} {κr : AK} {ps : List Str} {er : List (Str × Nat)} {rm : Int} {lb : List Str} {dp : Int} {E : AX → AK → Prop} {R : AR} (hs : isSrc s) (ok : okW ps er lb)
    (h1 : ∀ s', isSrc s' → R (.d .none) (s' :: .dK (wD ps er rm lb dp) :: κr)) (h2 : ∀ s' a b c, isSrc s' → nm a → nm b → nm c → R (.d (.tuple [.str "letter", .str a, .str b, .str c])) (s' :: .dK (wD ps er rm lb dp) :: κr)) :
    callW F__law_letter E [.c 0, .c 1] (s :: .dK (wD ps er rm lb dp) :: κr) R :=
  callW_i ⟨[0, 1], _, _, by decide, rfl, sel01 hs, s, ps, er, rm, lb, dp, rfl, rfl, hs, ok, fun s' hs' => ⟨Nat.le_refl _, cl2 hs', rfl, h1 s' hs'⟩, fun s' a b c hs' ha hb hc => ⟨Nat.le_refl _, cl2 hs', rfl, h2 s' a b c hs' ha hb hc⟩⟩
/-! ### a use -/
def F__law_use : FSp := fun as κ R _ => ∃ (s : Cell) (ps : List Str) (er : List (Str × Nat)) (rm : Int) (lb : List Str) (dp : Int), as = [.c 0, .c 1] ∧ κ = [s, .dK (wD ps er rm lb dp)] ∧ isSrc s ∧ okW ps er lb ∧
  (∀ s', isSrc s' → R (.d .none) [s', .dK (wD ps er rm lb dp)]) ∧ ∀ (s' : Cell) (n : Str) (qs : List Str), isSrc s' → nm n → (∀ q ∈ qs, nm q) → qs.length ≤ 6 → R (.d (.tuple [.str "use", .str n, .tuple (qs.map .str)])) [s', .dK (wD ps er rm lb dp)]
def a__law_use (K : PySem.W.Frag) : AS :=
  (aSeq (aSet 2 (aLc (aIter (aDGet (aVar 1) (aC (.d (.str "earlier"))))) (aName 8) (aB (aOp aLe (aOp aIx (aVar 8) (aC (.d (.int 1)))) (aCB aLen (aCons (aDGet (aVar 1) (aC (.d (.str "parties")))) aNil)))) (aVar 8) [8])) (aSeq (aIfS (aNot (aTru (aVar 2))) (aRet (aC (.d .none))) aNext) (aSeq (aAsg (aOp aIx (aVar 2) (aCall Com.F__law_pick (fun _ _ => False) (aCons (aVar 0) (aCons (aCB aLen (aCons (aVar 2) aNil)) aNil)))) (aGTup 2 (aGCons (aName 3) (aGCons (aName 4) aGNil)))) (aSeq (aSet 5 (aCB (aListOf true) (aCons (aDGet (aVar 1) (aC (.d (.str "parties")))) aNil))) (aSeq (aSet 6 (aLst aNil)) (aSeq (aFor (aRng1 (aCons (aVar 4) aNil)) (aName 7) (aDrop (aBM "list" aAppend (aVar 6) (aCons (aBM "list" aPopAt (aVar 5) (aCons (aCall Com.F__law_pick (fun _ _ => False) (aCons (aVar 0) (aCons (aCB aLen (aCons (aVar 5) aNil)) aNil))) aNil)) aNil)))) (aRet (aTup (aCons (aC (.d (.str "use"))) (aCons (aVar 3) (aCons (aCB aTupOf (aCons (aVar 6) aNil)) aNil)))))))))))
theorem len__law_use : ∀ as κ R E', F__law_use as κ R E' → as.length = (["source", "world"] : List Str).length := by
  rintro as κ R E' ⟨s, m, tk, _, _, _, rfl, _⟩; rfl
theorem src_takeW {s : Cell} {kv : List (L2.Key × PyData)} {κr : AK} (h : isSrc s) : ((s :: .dK kv :: κr : AK).take 2).all (okC 2) = true := by
  obtain ⟨ns, i, x, y, rfl, _⟩ := h; rfl
theorem rd__law_use : ∀ as κ R E', F__law_use as κ R E' → a__law_use K (endsA K κ.length R) (startA N__law_use as) κ := by
  rintro as κ R E' ⟨s, ps, er, rm, lb, dp, rfl, rfl, hs, ok, h1, h2⟩
  have lp : (ps.map PyData.str).length = ps.length := List.length_map ..
  have := ok.pl; have := ok.pp; have := ok.el
  refine ⟨_, .inr "earlier", _, rfl, rfl, get_e, ?_⟩
  refine lc_d (fun i acc κ' => κ' = [s, .dK (wD ps er rm lb dp)] ∧ ∃ es : List (Str × Nat), acc = es.map (fun p => .tuple [.str p.1, .int p.2]) ∧ es.length ≤ i ∧ ∀ e ∈ es, nm e.1 ∧ e.2 ≤ ps.length) ⟨rfl, [], rfl, Nat.zero_le _, (fun e he => by cases he)⟩ ?_ ?_
  · rintro acc κ' ⟨rfl, es, rfl, hel, hes⟩
    have le : (es.map (fun p : Str × Nat => PyData.tuple [.str p.1, .int p.2])).length = es.length := List.length_map ..
    have ler : (er.map (fun p : Str × Nat => PyData.tuple [.str p.1, .int p.2])).length = er.length := List.length_map ..
    refine bsel_i (fun _ => ⟨_, _, GhR.refl (Nat.le_refl _), h1 _ hs⟩) fun hn => ?_
    have hne : 0 < es.length := by
      cases es with
      | nil => exact absurd hn (by decide)
      | cons _ _ => exact Nat.succ_pos _
    refine pick_w hs (by omega) (by omega) fun v s1 hs1 h10 h11 => ?_
    obtain ⟨w, hw, hm, _⟩ := at_mem (xs := es.map (fun p : Str × Nat => PyData.tuple [.str p.1, .int p.2])) h10 h11
    obtain ⟨⟨n, k⟩, hmem, rfl⟩ := List.mem_map.mp hm
    obtain ⟨hn1, hk⟩ := hes _ hmem
    have hk : k ≤ ps.length := hk
    refine ⟨_, hw, rfl, _, .inr "parties", _, rfl, rfl, get_p, Nat.zero_le _, by omega, by omega, ?_⟩
    refine for_r (fun i δ κ => ∃ (s : Cell) (l ch : List Str) (x : Option AV), δ = [some (.c 0), some (.c 1), some (.d (.list (es.map fun p => .tuple [.str p.1, .int p.2]))), some (.d (.str n)), some (.d (.int k)), some (.c 2), some (.c 3), x, none] ∧ κ = [s, .dK (wD ps er rm lb dp), .ld (l.map .str), .ld (ch.map .str)] ∧ isSrc s ∧ l.length + i = ps.length ∧ ch.length = i ∧ (∀ z ∈ l, nm z) ∧ ∀ z ∈ ch, nm z)
      ⟨s1, ps, [], none, rfl, rfl, hs1, rfl, rfl, ok.p, (fun z hz => by cases hz)⟩ ?_ ?_
    · rintro δ κ ⟨s, l, ch, x, rfl, rfl, hs, hl, hc, hl2, hc2⟩ _
      exact ⟨_, rfl, (show 3 ≤ sizeLine by decide), _, _, GhR.take 2 (Nat.le_refl _) (show 2 ≤ 4 by decide) (src_takeW hs) rfl, h2 _ _ _ hs hn1 hc2 (by omega)⟩
    · rintro i δ κ hi ⟨s, l, ch, x, rfl, rfl, hs, hl, hc, hl2, hc2⟩ _
      have ll : (l.map PyData.str).length = l.length := List.length_map ..
      refine ⟨rfl, rfl, pick_w hs (by omega) (by omega) fun v s2 hs2 h20 h21 => ?_⟩
      obtain ⟨z, hz, _, hg⟩ := str_at (xs := l) h20 (by omega)
      refine ⟨_, _, rfl, h20, by omega, hg, ?_, ?_⟩
      · rw [List.length_map]; exact Nat.lt_of_lt_of_le (show ch.length < 1000 by omega) (by decide)
      · refine ⟨s2, l.eraseIdx v.toNat, ch ++ [z], _, rfl, ?_, hs2, ?_, by simp [hc], fun y hy => hl2 _ (mem_erase hy), fun y hy => ?_⟩
        · simp only [List.set_cons_succ, List.set_cons_zero, map_erase, List.map_append, List.map_cons, List.map_nil]
        · rw [List.length_eraseIdx_of_lt (by omega)]; omega
        · rcases List.mem_append.mp hy with q | q
          · exact hc2 y q
          · rw [List.mem_singleton.mp q]; exact hl2 z hz
  · rintro i x acc κ' hx ⟨rfl, es, rfl, hel, hes⟩
    rw [List.getElem?_map] at hx
    obtain ⟨⟨n, k⟩, hg, rfl⟩ := Option.map_eq_some_iff.mp hx
    refine ⟨_, at_nat (j := 1) rfl, _, .inr "parties", _, rfl, rfl, get_p, bsel_i (fun hc => ?_) fun _ => ⟨rfl, es, rfl, Nat.le_succ_of_le hel, hes⟩⟩
    have hc : ((k : Nat) : Int) ≤ ((ps.map PyData.str).length : Nat) := of_decide_eq_true hc
    have hil := (List.getElem?_eq_some_iff.mp hg).1
    refine ⟨_, rfl, ?_, rfl, es ++ [(n, k)], by simp, by simp; omega, fun e he => ?_⟩
    · rw [List.length_map]; exact Nat.lt_of_lt_of_le (show es.length < 100000 by omega) (by decide)
    · rcases List.mem_append.mp he with q | q
      · exact hes e q
      · rw [List.mem_singleton.mp q]; exact ⟨ok.e _ (List.mem_of_getElem? hg), (show k ≤ ps.length by omega)⟩
theorem use_w {s : Cell} {κr : AK} {ps : List Str} {er : List (Str × Nat)} {rm : Int} {lb : List Str} {dp : Int} {E : AX → AK → Prop} {R : AR} (hs : isSrc s) (ok : okW ps er lb)
    (h1 : ∀ s', isSrc s' → R (.d .none) (s' :: .dK (wD ps er rm lb dp) :: κr)) (h2 : ∀ (s' : Cell) (n : Str) (qs : List Str), isSrc s' → nm n → (∀ q ∈ qs, nm q) → qs.length ≤ 6 → R (.d (.tuple [.str "use", .str n, .tuple (qs.map .str)])) (s' :: .dK (wD ps er rm lb dp) :: κr)) :
    callW F__law_use E [.c 0, .c 1] (s :: .dK (wD ps er rm lb dp) :: κr) R :=
  callW_i ⟨[0, 1], _, _, by decide, rfl, sel01 hs, s, ps, er, rm, lb, dp, rfl, rfl, hs, ok, fun s' hs' => ⟨Nat.le_refl _, cl2 hs', rfl, h1 s' hs'⟩, fun s' a b hs' ha hb hc => ⟨Nat.le_refl _, cl2 hs', rfl, h2 s' a b hs' ha hb hc⟩⟩
end K08
set_option Elab.async false
set_option linter.all false
set_option maxRecDepth 100000
set_option maxHeartbeats 4000000
namespace K08
open PySem L2 Ab Com
variable {K : PySem.W.Frag}
theorem stepR_tup {Bd d m t} (h : StepR Bd d m t) : ∃ l, d = .tuple l := by cases h <;> exact ⟨_, rfl⟩
/-! ### steps, bodies -/
def FF__law_step (n : Nat) : FSp := fun as κ R _ => ∃ (s : Cell) (D : Int) (d : Nat) (ps : List Str) (er : List (Str × Nat)) (rm : Int) (lb : List Str) (dp : Int), as = [.c 0, .c 1, .d (.int D)] ∧ κ = [s, .dK (wD ps er rm lb dp)] ∧ D = d ∧ isSrc s ∧ okW ps er lb ∧
  d ≤ 8 ∧ dp ≤ 8 ∧ 0 ≤ rm ∧ rm ≤ 100 ∧ 2 * (9 - d) ≤ n + 1 ∧ (∀ s' rm', isSrc s' → 0 ≤ rm' → rm' ≤ rm → R (.d .none) [s', .dK (wD ps er rm' lb dp)]) ∧
  ∀ (s' : Cell) (x : PyData) (m : Nat) (t : Str) (rm' : Int), isSrc s' → StepR (bodyR (8 - d)) x m t → 0 ≤ rm' → m + rm' ≤ rm + 1 → R (.d x) [s', .dK (wD ps er rm' lb dp)]
def FF__law_body (n : Nat) : FSp := fun as κ R _ => ∃ (s : Cell) (D : Int) (d : Nat) (ps : List Str) (er : List (Str × Nat)) (rm : Int) (lb : List Str) (dp : Int), as = [.c 0, .c 1, .d (.int D)] ∧ κ = [s, .dK (wD ps er rm lb dp)] ∧ D = d ∧ isSrc s ∧ okW ps er lb ∧
  d ≤ 8 ∧ dp ≤ 8 ∧ 0 ≤ rm ∧ rm ≤ 100 ∧ 2 * (9 - d) ≤ n ∧
  ∀ (s' : Cell) (ds : List PyData) (m : Nat) (t : Str) (rm' : Int), isSrc s' → bodyR (9 - d) ds m t → 0 ≤ rm' → m + rm' ≤ rm → R (.d (.tuple ds)) [s', .dK (wD ps er rm' lb dp)]
def a__law_step (K : PySem.W.Frag) (F_self__law_body : FSp) : AS :=
  (aSeq (aSet 3 (aCall Com.F__law_pick (fun _ _ => False) (aCons (aVar 0) (aCons (aC (.d (.int 9))) aNil)))) (aCut (aIfS (aAnd (aB (aOp aGt (aVar 3) (aC (.d (.int 4))))) (aAnd (aB (aOp aLt (aVar 3) (aC (.d (.int 8))))) (aB (aOp aLt (aVar 2) (aDGet (aVar 1) (aC (.d (.str "deep")))))))) (aSeq (aIfS (aB (aOp aEq (aVar 3) (aC (.d (.int 7))))) (aRet (aTup (aCons (aC (.d (.str "loop"))) (aCons (aCall F_self__law_body (fun _ _ => False) (aCons (aVar 0) (aCons (aVar 1) (aCons (aOp aAdd (aVar 2) (aC (.d (.int 1)))) aNil)))) aNil)))) aNext) (aSeq (aSet 4 (aLc (aRng1 (aCons (aOp aAdd (aC (.d (.int 1))) (aCall Com.F__law_pick (fun _ _ => False) (aCons (aVar 0) (aCons (aC (.d (.int 3))) aNil)))) aNil)) (aName 6) aYes (aCall F_self__law_body (fun _ _ => False) (aCons (aVar 0) (aCons (aVar 1) (aCons (aOp aAdd (aVar 2) (aC (.d (.int 1)))) aNil)))) [6])) (aRet (aTup (aCons (aOp aIx (aLstD (aCons (aC (.d (.str "choice"))) (aCons (aC (.d (.str "both"))) aNil))) (aOp aSub (aVar 3) (aC (.d (.int 5))))) (aCons (aCB aTupOf (aCons (aVar 4) aNil)) aNil)))))) aNext) (aCut (aIfS (aB (aOp aEq (aVar 3) (aC (.d (.int 8))))) (aSeq (aSet 5 (aCall F__law_use (fun _ _ => False) (aCons (aVar 0) (aCons (aVar 1) aNil)))) (aIfS (aB (aOp (aIsN not) (aVar 5) (aC (.d .none)))) (aRet (aVar 5)) aNext)) aNext) (aRet (aCall F__law_letter (fun _ _ => False) (aCons (aVar 0) (aCons (aVar 1) aNil)))))))
def a__law_body (K : PySem.W.Frag) (F_self__law_step : FSp) : AS :=
  (aSeq (aSet 3 (aLst aNil)) (aSeq (aFor (aRng1 (aCons (aCall Com.F__law_pick (fun _ _ => False) (aCons (aVar 0) (aCons (aC (.d (.int 4))) aNil))) aNil)) (aName 4) (aIfS (aB (aOp aGt (aDGet (aVar 1) (aC (.d (.str "room")))) (aC (.d (.int 0))))) (aSeq (aDPut (aVar 1) (aC (.d (.str "room"))) (aOp aSub (aDGet (aVar 1) (aC (.d (.str "room")))) (aC (.d (.int 1))))) (aSeq (aSet 5 (aCall F_self__law_step (fun _ _ => False) (aCons (aVar 0) (aCons (aVar 1) (aCons (aVar 2) aNil))))) (aIfS (aB (aOp (aIsN not) (aVar 5) (aC (.d .none)))) (aDrop (aBM "list" aAppend (aVar 3) (aCons (aVar 5) aNil))) aNext))) aNext)) (aRet (aCB aTupOf (aCons (aVar 3) aNil)))))
theorem len__law_step (n : Nat) : ∀ as κ R E', FF__law_step n as κ R E' → as.length = (["source", "world", "depth"] : List Str).length := by
  rintro as κ R E' ⟨s, m, tk, _, _, _, _, _, rfl, _⟩; rfl
theorem len__law_body (n : Nat) : ∀ as κ R E', FF__law_body n as κ R E' → as.length = (["source", "world", "depth"] : List Str).length := by
  rintro as κ R E' ⟨s, m, tk, _, _, _, _, _, rfl, _⟩; rfl
theorem rd0__law_step {as κ R E'} (h : FF__law_step 0 as κ R E') : False := by
  obtain ⟨s, D, d, ps, er, rm, lb, dp, _, _, _, _, _, hd, _, _, _, hn, _⟩ := h; omega
theorem rd0__law_body {as κ R E'} (h : FF__law_body 0 as κ R E') : False := by
  obtain ⟨s, D, d, ps, er, rm, lb, dp, _, _, _, _, _, hd, _, _, _, hn, _⟩ := h; omega
section
variable {s : Cell} {κr : AK} {n : Nat} {D : Int} {d : Nat} {ps : List Str} {er : List (Str × Nat)} {rm : Int} {lb : List Str} {dp : Int} {E : AX → AK → Prop} {R : AR} {kv : List (L2.Key × PyData)}
theorem step_w (hk : kv = wD ps er rm lb dp) (hD : D = d) (hs : isSrc s) (ok : okW ps er lb) (h8 : d ≤ 8) (hp8 : dp ≤ 8) (h0 : 0 ≤ rm) (h100 : rm ≤ 100) (hn : 2 * (9 - d) ≤ n + 1)
    (h1 : ∀ s' rm', isSrc s' → 0 ≤ rm' → rm' ≤ rm → R (.d .none) (s' :: .dK (wD ps er rm' lb dp) :: κr))
    (h2 : ∀ (s' : Cell) (x : PyData) (m : Nat) (t : Str) (rm' : Int), isSrc s' → StepR (bodyR (8 - d)) x m t → 0 ≤ rm' → m + rm' ≤ rm + 1 → R (.d x) (s' :: .dK (wD ps er rm' lb dp) :: κr)) :
    callW (FF__law_step n) E [.c 0, .c 1, .d (.int D)] (s :: .dK kv :: κr) R := by
  subst hk
  exact callW_i ⟨[0, 1], _, _, by decide, rfl, sel01 hs, s, D, d, ps, er, rm, lb, dp, rfl, rfl, hD, hs, ok, h8, hp8, h0, h100, hn, fun s' rm' hs' a b => ⟨Nat.le_refl _, cl2 hs', rfl, h1 s' rm' hs' a b⟩,
    fun s' x m t rm' hs' hx a b => by obtain ⟨l, rfl⟩ := stepR_tup hx; exact ⟨Nat.le_refl _, cl2 hs', rfl, h2 s' _ m t rm' hs' hx a b⟩⟩
theorem body_w (hk : kv = wD ps er rm lb dp) (hD : D = d) (hs : isSrc s) (ok : okW ps er lb) (h8 : d ≤ 8) (hp8 : dp ≤ 8) (h0 : 0 ≤ rm) (h100 : rm ≤ 100) (hn : 2 * (9 - d) ≤ n)
    (h2 : ∀ (s' : Cell) (ds : List PyData) (m : Nat) (t : Str) (rm' : Int), isSrc s' → bodyR (9 - d) ds m t → 0 ≤ rm' → m + rm' ≤ rm → R (.d (.tuple ds)) (s' :: .dK (wD ps er rm' lb dp) :: κr)) :
    callW (FF__law_body n) E [.c 0, .c 1, .d (.int D)] (s :: .dK kv :: κr) R := by
  subst hk
  exact callW_i ⟨[0, 1], _, _, by decide, rfl, sel01 hs, s, D, d, ps, er, rm, lb, dp, rfl, rfl, hD, hs, ok, h8, hp8, h0, h100, hn, fun s' ds m t rm' hs' hx a b => ⟨Nat.le_refl _, cl2 hs', rfl, h2 s' ds m t rm' hs' hx a b⟩⟩
theorem body_w2 {c1 : Cell} (hk : kv = wD ps er rm lb dp) (hD : D = d) (hs : isSrc s) (ok : okW ps er lb) (h8 : d ≤ 8) (hp8 : dp ≤ 8) (h0 : 0 ≤ rm) (h100 : rm ≤ 100) (hn : 2 * (9 - d) ≤ n)
    (h2 : ∀ (s' : Cell) (ds : List PyData) (m : Nat) (t : Str) (rm' : Int), isSrc s' → bodyR (9 - d) ds m t → 0 ≤ rm' → m + rm' ≤ rm → R (.d (.tuple ds)) (s' :: c1 :: .dK (wD ps er rm' lb dp) :: κr)) :
    callW (FF__law_body n) E [.c 0, .c 2, .d (.int D)] (s :: c1 :: .dK kv :: κr) R := by
  subst hk
  exact callW_i ⟨[0, 2], _, _, by decide, rfl, sel02 hs, s, D, d, ps, er, rm, lb, dp, rfl, rfl, hD, hs, ok, h8, hp8, h0, h100, hn, fun s' ds m t rm' hs' hx a b => ⟨Nat.le_refl _, cl2 hs', rfl, h2 s' ds m t rm' hs' hx a b⟩⟩
end
theorem rd__law_body (n : Nat) : ∀ as κ R E', FF__law_body (n + 1) as κ R E' → a__law_body K (FF__law_step n) (endsA K κ.length R) (startA N__law_body as) κ := by
  rintro as κ R E' ⟨s, D, d, ps, er, rm, lb, dp, rfl, rfl, hD, hs, ok, h8, hp8, h0, h100, hn, h⟩
  have e9 : 9 - d = (8 - d) + 1 := by omega
  rw [e9] at h
  refine ⟨Nat.zero_le _, pick_w hs (by decide) (by decide) fun v s1 hs1 h10 h11 => ⟨by omega, by omega, ?_⟩⟩
  refine for_r (fun i δ κ => ∃ (s : Cell) (rm' : Int) (ds : List PyData) (m : Nat) (t : Str) (x y : Option AV), δ = [some (.c 0), some (.c 1), some (.d (.int D)), some (.c 2), x, y] ∧ κ = [s, .dK (wD ps er rm' lb dp), .ld ds] ∧ isSrc s ∧ bodyR ((8 - d) + 1) ds m t ∧ 0 ≤ rm' ∧ m + rm' ≤ rm)
    ⟨s1, rm, [], 0, _, none, none, rfl, rfl, hs1, bodyR_nil _, h0, by omega⟩ ?_ ?_
  · rintro δ κ ⟨s, rm', ds, m, t, x, y, rfl, rfl, hs, hb, hr0, hr⟩ _
    exact ⟨_, rfl, _, _, GhR.take 2 (Nat.le_refl _) (show 2 ≤ 3 by decide) (src_takeW hs) rfl, h _ _ _ _ _ hs hb hr0 hr⟩
  · rintro i δ κ hi ⟨s, rm', ds, m, t, x, y, rfl, rfl, hs, hb, hr0, hr⟩ _
    refine ⟨_, .inr "room", _, rfl, rfl, get_r, bsel_i (fun hc => ?_) fun _ => ⟨s, rm', ds, m, t, _, _, rfl, rfl, hs, hb, hr0, hr⟩⟩
    have hc : (0 : Int) < rm' := of_decide_eq_true hc
    refine ⟨_, .inr "room", _, rfl, rfl, get_r, _, .inr "room", _, rfl, rfl, rfl, (show 5 < sizeLine by decide), ?_⟩
    refine step_w (rm := rm' - 1) put_r hD hs ok h8 hp8 (by omega) (by omega) hn (fun s2 rm2 hs2 a b => ?_) fun s2 x m2 t2 rm2 hs2 hx a b => ?_
    · exact ⟨s2, rm2, ds, m, t, _, _, rfl, rfl, hs2, hb, a, by omega⟩
    · obtain ⟨t3, hb3⟩ := bodyR_snoc hb hx
      obtain ⟨l, rfl⟩ := stepR_tup hx
      refine ⟨rfl, ?_, s2, rm2, _, _, t3, _, _, rfl, rfl, hs2, hb3, a, by omega⟩
      have := bodyR_cnt hb
      exact Nat.lt_of_lt_of_le (show ds.length < 1000 by omega) (by decide)
theorem rd__law_step (n : Nat) : ∀ as κ R E', FF__law_step (n + 1) as κ R E' → a__law_step K (FF__law_body n) (endsA K κ.length R) (startA N__law_step as) κ := by
  rintro as κ R E' ⟨s, D, d, ps, er, rm, lb, dp, rfl, rfl, hD, hs, ok, h8, hp8, h0, h100, hn, h1, h2⟩
  refine pick_w hs (by decide) (by decide) fun v s1 hs1 h10 h11 => ?_
  have e9 : d < 8 → 9 - (d + 1) = 8 - d := by omega
  refine ⟨fun δ κ => δ = [some (.c 0), some (.c 1), some (.d (.int D)), some (.d (.int v)), none, none, none] ∧ κ = [s1, .dK (wD ps er rm lb dp)], ?_, ?_⟩
  · refine bsel_i (fun hv4 => bsel_i (fun hv8 => ⟨_, .inr "deep", _, rfl, rfl, get_d, bsel_i (fun hdp => ?_) fun _ => ⟨rfl, rfl⟩⟩) fun _ => ⟨rfl, rfl⟩) fun _ => ⟨rfl, rfl⟩
    have hv4 : (4 : Int) < v := of_decide_eq_true hv4
    have hv8 : v < 8 := of_decide_eq_true hv8
    have hdp : D < dp := of_decide_eq_true hdp
    have hd8 : d < 8 := by omega
    refine bsel_i (fun hv7 => ?_) fun hv7 => ?_
    · refine body_w (d := d + 1) rfl (by omega) hs1 ok (by omega) hp8 h0 h100 (by omega) fun s2 ds m t rm2 hs2 hb a b => ?_
      rw [e9 hd8] at hb
      exact ⟨(show 2 ≤ sizeLine by decide), _, _, GhR.refl (Nat.le_refl _), h2 _ _ _ _ _ hs2 (.loop _ ds m t rfl hb) a (by omega)⟩
    · have hv7 : v ≠ 7 := of_decide_eq_false hv7
      refine pick_w hs1 (by decide) (by decide) fun w s2 hs2 h20 h21 => ⟨by omega, by omega, ?_⟩
      refine lc_r (fun i acc κ' => ∃ (s : Cell) (rm' : Int) (bs : List (List PyData × Nat × Str)), κ' = [s, .dK (wD ps er rm' lb dp)] ∧ acc = bs.map (fun x => .tuple x.1) ∧ isSrc s ∧ (∀ x ∈ bs, bodyR (8 - d) x.1 x.2.1 x.2.2) ∧ bs.length = i ∧ 0 ≤ rm' ∧ ((bs.map (·.2.1)).sum : Nat) + rm' ≤ rm)
        ⟨s2, rm, [], rfl, rfl, hs2, (fun x hx => by cases hx), rfl, h0, by simp⟩ ?_ ?_
      · rintro acc κ' ⟨s, rm', bs, rfl, rfl, hs, hb, hl, hr0, hr⟩
        refine ⟨(show 2 ≤ sizeLine by decide), ?_⟩
        have : ∃ w : Str, (w = "choice" ∨ w = "both") ∧ atI ([.str "choice", .str "both"] : List PyData) (v - 5) = some (.str w) := by
          by_cases e5 : v = 5
          · subst e5; exact ⟨"choice", .inl rfl, at_nat (j := 0) rfl⟩
          · have e6 : v = 6 := by omega
            subst e6; exact ⟨"both", .inr rfl, at_nat (j := 1) rfl⟩
        obtain ⟨w, hw, hat⟩ := this
        refine ⟨_, hat, _, rfl, (show 2 ≤ sizeLine by decide), _, _, GhR.refl (Nat.le_refl _), h2 _ _ _ _ _ hs (.br w bs hw hb (by omega)) hr0 (by omega)⟩
      · rintro i acc κ' hi ⟨s, rm', bs, rfl, rfl, hs, hb, hl, hr0, hr⟩
        refine body_w (d := d + 1) rfl (by omega) hs ok (by omega) hp8 hr0 (by omega) (by omega) fun s3 ds m t rm3 hs3 hb3 a b => ?_
        rw [e9 hd8] at hb3
        refine ⟨_, rfl, ?_, s3, rm3, bs ++ [(ds, m, t)], rfl, by simp, hs3, fun x hx => ?_, by simp [hl], a, ?_⟩
        · rw [List.length_map]; exact Nat.lt_of_lt_of_le (show bs.length < 100 by omega) (by decide)
        · rcases List.mem_append.mp hx with q | q
          · exact hb x q
          · rw [List.mem_singleton.mp q]; exact hb3
        · simp only [List.map_append, List.map_cons, List.map_nil, List.sum_append, List.sum_cons, List.sum_nil]; omega
  · rintro δ κ ⟨rfl, rfl⟩ _
    refine ⟨fun δ κ => ∃ (s : Cell) (x : Option AV), δ = [some (.c 0), some (.c 1), some (.d (.int D)), some (.d (.int v)), none, x, none] ∧ κ = [s, .dK (wD ps er rm lb dp)] ∧ isSrc s, ?_, ?_⟩
    · refine bsel_i (fun _ => ?_) fun _ => ⟨s1, _, rfl, rfl, hs1⟩
      refine use_w hs1 ok (fun s2 hs2 => ⟨s2, _, rfl, rfl, hs2⟩) fun s2 n qs hs2 hn hq h6 => ?_
      exact ⟨_, _, GhR.refl (Nat.le_refl _), h2 _ _ _ _ _ hs2 (.use _ n qs rfl hn hq h6) h0 (by omega)⟩
    · rintro δ κ ⟨s, x, rfl, rfl, hs⟩ _
      refine letter_w hs ok (fun s2 hs2 => ⟨_, _, GhR.refl (Nat.le_refl _), h1 _ _ hs2 h0 (Int.le_refl _)⟩) fun s2 a b c hs2 ha hb hc => ⟨_, _, GhR.refl (Nat.le_refl _), h2 _ _ _ _ _ hs2 (.letter _ a b c rfl ha hb hc) h0 (by omega)⟩
end K08
set_option Elab.async false
set_option linter.all false
set_option maxRecDepth 100000
set_option maxHeartbeats 4000000
namespace K08
open PySem L2 Ab Com
variable {K : PySem.W.Frag}
/-! ### pacts, books -/
def pactD (name : Str) (ps : List Str) (body : List PyData) : PyData := .tuple [.str "pact", .str name, .tuple (ps.map .str), .tuple body]
def pactT (name : Str) (ps : List Str) (body : List PyData) (bt : Str) : Str := match body with
  | [] => "pact " ++ name ++ "(" ++ Txt.join ", " ps ++ ")" ++ " end"
  | _ :: _ => "pact " ++ name ++ "(" ++ Txt.join ", " ps ++ ")" ++ " " ++ bt ++ " end"
def pactR (p : PyData) (t : Str) : Prop := ∃ (name : Str) (ps : List Str) (body : List PyData) (m : Nat) (bt : Str), p = pactD name ps body ∧ t = pactT name ps body bt ∧ nm name ∧ (∀ x ∈ ps, nm x) ∧ ps.length ≤ 6 ∧ bodyR 9 body m bt ∧ m ≤ 6
theorem pactT_len {p t} (h : pactR p t) : t.length ≤ 2000 := by
  obtain ⟨name, ps, body, m, bt, rfl, rfl, hn, hp, h6, hb, hm⟩ := h
  have h1 := parts_len hp h6
  have h2 := bodyR_len hb
  unfold nm at hn
  cases body with
  | nil => unfold pactT; (first | omega | (simp only [slen_app, l0, l1, l2, l3, l4, l5, l6, l7, l8, l9, l10, l11, l12, l13, l14, l15, l16, l17, l18, l19, l20, l21] at * <;> omega))
  | cons _ _ => unfold pactT; (first | omega | (simp only [slen_app, l0, l1, l2, l3, l4, l5, l6, l7, l8, l9, l10, l11, l12, l13, l14, l15, l16, l17, l18, l19, l20, l21] at * <;> omega))
def F__law_book : FSp := fun as κ R _ => ∃ (s : Cell) (most : Int), as = [.c 0, .d (.int most), .d (.int 6)] ∧ κ = [s] ∧ isSrc s ∧ 0 < most ∧ most ≤ 10 ∧
  ∀ (s' : Cell) (bk : List (PyData × Str)), isSrc s' → (∀ x ∈ bk, pactR x.1 x.2) → bk.length ≤ 10 → R (.d (.list (bk.map (·.1)))) [s']
def a__law_book (K : PySem.W.Frag) : AS :=
  (aSeq (aSet 3 (aLst aNil)) (aSeq (aSet 4 (aCall F__law_names (fun _ _ => False) (aCons (aVar 0) (aCons (aOp aAdd (aC (.d (.int 1))) (aCall Com.F__law_pick (fun _ _ => False) (aCons (aVar 0) (aCons (aVar 1) aNil)))) (aCons (aLstD aNil) aNil))))) (aSeq (aSet 5 (aLstD aNil)) (aSeq (aFor (aIter (aVar 4)) (aName 6) (aSeq (aSet 7 (aDisp (aPCons (aC (.d (.str "parties"))) (aCall F__law_names (fun _ _ => False) (aCons (aVar 0) (aCons (aOp aAdd (aC (.d (.int 1))) (aCall Com.F__law_pick (fun _ _ => False) (aCons (aVar 0) (aCons (aC (.d (.int 6))) aNil)))) (aCons (aLstD aNil) aNil)))) (aPCons (aC (.d (.str "earlier"))) (aVar 5) (aPCons (aC (.d (.str "room"))) (aVar 2) aPNil))))) (aSeq (aDPut (aVar 7) (aC (.d (.str "labels"))) (aCall F__law_names (fun _ _ => False) (aCons (aVar 0) (aCons (aOp aAdd (aC (.d (.int 1))) (aCall Com.F__law_pick (fun _ _ => False) (aCons (aVar 0) (aCons (aC (.d (.int 4))) aNil)))) (aCons (aLstD aNil) aNil))))) (aSeq (aDPut (aVar 7) (aC (.d (.str "deep"))) (aOp aIx (aLstD (aCons (aC (.d (.int 1))) (aCons (aC (.d (.int 2))) (aCons (aC (.d (.int 3))) (aCons (aC (.d (.int 8))) aNil))))) (aCall Com.F__law_pick (fun _ _ => False) (aCons (aVar 0) (aCons (aC (.d (.int 4))) aNil))))) (aSeq (aSet 8 (aCall (FF__law_body 20) (fun _ _ => False) (aCons (aVar 0) (aCons (aVar 7) (aCons (aC (.d (.int 0))) aNil))))) (aCut (aIfS (aB (aOp aGt (aCall Com.F__law_pick (fun _ _ => False) (aCons (aVar 0) (aCons (aC (.d (.int 4))) aNil))) (aC (.d (.int 0))))) (aSet 8 (aOp aAdd (aVar 8) (aCall (FF__law_body 20) (fun _ _ => False) (aCons (aVar 0) (aCons (aVar 7) (aCons (aC (.d (.int 0))) aNil)))))) aNext) (aSeq (aDrop (aBM "list" aAppend (aVar 3) (aCons (aTup (aCons (aC (.d (.str "pact"))) (aCons (aVar 6) (aCons (aCB aTupOf (aCons (aDGet (aVar 7) (aC (.d (.str "parties")))) aNil)) (aCons (aVar 8) aNil))))) aNil))) (aSeq (aSet 5 (aOp (aCat false) (aVar 5) (aLstD (aCons (aTup (aCons (aVar 6) (aCons (aCB aLen (aCons (aDGet (aVar 7) (aC (.d (.str "parties")))) aNil)) aNil))) aNil)))) (aGh K aNext))))))))) (aRet (aVar 3))))))
theorem len__law_book : ∀ as κ R E', F__law_book as κ R E' → as.length = (["source", "most", "room"] : List Str).length := by
  rintro as κ R E' ⟨s, m, rfl, _⟩; rfl
theorem deeps {w : PyData} (h : w ∈ ([.int 1, .int 2, .int 3, .int 8] : List PyData)) : ∃ n : Int, w = .int n ∧ n ≤ 8 := by
  simp only [List.mem_cons, List.mem_nil_iff, or_false] at h
  rcases h with rfl | rfl | rfl | rfl <;> exact ⟨_, rfl, by omega⟩
theorem src_take2 {s : Cell} {ds : List PyData} {κr : AK} (h : isSrc s) : ((s :: .ld ds :: κr : AK).take 2).all (okC 2) = true := by
  obtain ⟨ns, i, x, y, rfl, _⟩ := h; rfl
theorem rd__law_book : ∀ as κ R E', F__law_book as κ R E' → a__law_book K (endsA K κ.length R) (startA N__law_book as) κ := by
  rintro as κ R E' ⟨s, most, rfl, rfl, hs, hm0, hm1, h⟩
  refine ⟨Nat.zero_le _, pick_w hs hm0 (by omega) fun v s1 hs1 h10 h11 => ⟨Nat.zero_le _, ?_⟩⟩
  refine names_w (tk := []) hs1 (by omega) (by omega) (Nat.zero_le _) fun zs s2 hs2 hzl hz => ⟨Nat.zero_le _, ?_⟩
  refine for_d (fun i δ κ => ∃ (s : Cell) (bk : List (PyData × Str)) (er : List (Str × Nat)) (x6 x7 x8 : Option AV), δ = [some (.c 0), some (.d (.int most)), some (.d (.int 6)), some (.c 1), some (.d (.list (zs.map .str))), some (.d (.list (er.map fun p => .tuple [.str p.1, .int p.2]))), x6, x7, x8] ∧ κ = [s, .ld (bk.map (·.1))] ∧ isSrc s ∧ (∀ x ∈ bk, pactR x.1 x.2) ∧ bk.length = i ∧ er.length = i ∧ ∀ e ∈ er, nm e.1)
    ⟨s2, [], [], none, none, none, rfl, rfl, hs2, (fun x hx => by cases hx), rfl, rfl, fun x hx => by cases hx⟩ ?_ ?_
  · rintro δ κ ⟨s, bk, er, x6, x7, x8, rfl, rfl, hs, hb, hbl, hel, he⟩ _
    rw [List.length_map] at hbl
    exact ⟨_, _, (GhR.freeze (show 1 ≤ 2 by decide) 1 _ rfl).trans (GhR.take 1 (Nat.le_refl _) (show 1 ≤ 2 by decide) (src2_take hs.fz) rfl), h _ bk hs.fz hb (by omega)⟩
  · rintro i x δ κ hx ⟨s, bk, er, x6, x7, x8, rfl, rfl, hs, hb, hbl, hel, he⟩ _
    obtain ⟨name, hname, rfl⟩ : ∃ z, z ∈ zs ∧ x = .str z := by
      rw [List.getElem?_map] at hx
      obtain ⟨z, hg, rfl⟩ := Option.map_eq_some_iff.mp hx
      exact ⟨z, List.mem_of_getElem? hg, rfl⟩
    have hil : i < zs.length := by have := (List.getElem?_eq_some_iff.mp hx).1; rwa [List.length_map] at this
    refine pick_w hs (by decide) (by decide) fun v3 s3 hs3 h30 h31 => ⟨Nat.zero_le _, ?_⟩
    refine names_w (tk := []) hs3 (by omega) (by omega) (Nat.zero_le _) fun ps s4 hs4 hpl hps => ?_
    refine ⟨[(.inr "parties", .list (ps.map .str)), (.inr "earlier", .list (er.map fun p => .tuple [.str p.1, .int p.2])), (.inr "room", .int 6)], rfl, (show 3 ≤ 15 by decide), ?_⟩
    refine pick_w hs4 (by decide) (by decide) fun v5 s5 hs5 h50 h51 => ⟨Nat.zero_le _, ?_⟩
    refine names_w (tk := []) hs5 (by omega) (by omega) (Nat.zero_le _) fun lb s6 hs6 hll hlb => ?_
    refine ⟨_, .inr "labels", _, rfl, rfl, rfl, (by rw [mk_w]; exact (show 3 < sizeLine by decide)), ?_⟩
    refine ⟨(show 4 ≤ sizeLine by decide), pick_w hs6 (by decide) (by decide) fun v7 s7 hs7 h70 h71 => ?_⟩
    obtain ⟨w, hw, hwm, _⟩ := at_mem (xs := ([.int 1, .int 2, .int 3, .int 8] : List PyData)) h70 h71
    obtain ⟨dp, rfl, hdp⟩ := deeps hwm
    refine ⟨_, hw, _, .inr "deep", _, rfl, rfl, rfl, (by rw [mk_w, put_l]; exact (show 4 < sizeLine by decide)), ?_⟩
    have ok : okW ps er lb := ⟨hps, by omega, by omega, he, by omega, hlb, by omega, by omega⟩
    refine body_w2 (d := 0) (ps := ps) (er := er) (rm := 6) (lb := lb) (dp := dp) (by rw [mk_w, put_l, put_d]; rfl) rfl hs7 ok (by decide) hdp (by decide) (by decide) (by decide) fun s8 body m t rm8 hs8 hbd h80 h81 => ?_
    refine ⟨fun δ κ => ∃ (s : Cell) (body : List PyData) (m : Nat) (t : Str) (rm : Int), δ = [some (.c 0), some (.d (.int most)), some (.d (.int 6)), some (.c 1), some (.d (.list (zs.map .str))), some (.d (.list (er.map fun p => .tuple [.str p.1, .int p.2]))), some (.d (.str name)), some (.c 2), some (.d (.tuple body))] ∧ κ = [s, .ld (bk.map (·.1)), .dK (wD ps er rm lb dp)] ∧ isSrc s ∧ bodyR 9 body m t ∧ m ≤ 6, ?_, ?_⟩
    · refine pick_w hs8 (by decide) (by decide) fun v9 s9 hs9 h90 h91 => bsel_i (fun _ => ?_) fun _ => ⟨s9, body, m, t, rm8, rfl, rfl, hs9, hbd, by omega⟩
      refine body_w2 (d := 0) rfl rfl hs9 ok (by decide) hdp h80 (by omega) (by decide) fun s10 body2 m2 t2 rm10 hs10 hbd2 h100 h101 => ?_
      obtain ⟨t3, hb3⟩ := bodyR_app hbd hbd2
      have c1 := bodyR_cnt hbd
      have c2 := bodyR_cnt hbd2
      exact ⟨sl100 (by omega), s10, _, _, t3, rm10, rfl, rfl, hs10, hb3, by omega⟩
    · rintro δ κ ⟨s, body, m, t, rm, rfl, rfl, hs, hbd, hm⟩ _
      refine ⟨rfl, _, .inr "parties", _, rfl, rfl, get_p, _, rfl, (show 4 ≤ sizeLine by decide), ?_, _, .inr "parties", _, rfl, rfl, get_p, (show 2 ≤ sizeLine by decide), (show 1 ≤ sizeLine by decide), ?_⟩
      · rw [List.length_map]; exact Nat.lt_of_lt_of_le (show bk.length < 100 by omega) (by decide)
      refine ⟨_, _, rfl, rfl, ?_, ?_⟩
      · rw [List.length_map]; exact sl100 (by show er.length + 1 ≤ _; omega)
      refine ⟨_, _, (GhS.wipe [6, 7, 8] (show 2 ≤ 3 by decide)).trans (GhS.take 2 (Nat.le_refl _) (show 2 ≤ 3 by decide) (src_take2 hs) rfl), s, bk ++ [(pactD name ps body, pactT name ps body t)], er ++ [(name, ps.length)], none, none, none, ?_, ?_, hs, fun x hx => ?_, by simp [hbl], by simp [hel], fun x hx => ?_⟩
      · simp only [List.map_append, List.map_cons, List.map_nil, List.length_map]; rfl
      · simp only [List.map_append, List.map_cons, List.map_nil]; rfl
      · rcases List.mem_append.mp hx with q | q
        · exact hb x q
        · rw [List.mem_singleton.mp q]; exact ⟨name, ps, body, m, t, rfl, rfl, hz _ hname, hps, ok.pl, hbd, hm⟩
      · rcases List.mem_append.mp hx with q | q
        · exact he x q
        · rw [List.mem_singleton.mp q]; exact hz _ hname
theorem book_w {s : Cell} {κr : AK} {most : Int} {E : AX → AK → Prop} {R : AR} (hs : isSrc s) (h0 : 0 < most) (h1 : most ≤ 10) (k : ∀ (s' : Cell) (bk : List (PyData × Str)), isSrc s' → (∀ x ∈ bk, pactR x.1 x.2) → bk.length ≤ 10 → R (.d (.list (bk.map (·.1)))) (s' :: κr)) :
    callW F__law_book E [.c 0, .d (.int most), .d (.int 6)] (s :: κr) R :=
  callW_i ⟨[0], _, _, by decide, rfl, sel0 hs, s, most, rfl, rfl, hs, h0, h1, fun s' bk hs' hb hl => ⟨Nat.le_refl _, cl1 hs', rfl, k s' bk hs' hb hl⟩⟩
theorem le_sum {α : Type} (f : α → Nat) {x : α} : ∀ {xs : List α}, x ∈ xs → f x ≤ (xs.map f).sum
  | y :: ys, h => by
    rw [List.map_cons, List.sum_cons]
    rcases List.mem_cons.mp h with rfl | h
    · omega
    · have := le_sum f h; omega
/-! ### the program prints -/
def F__print_call : FSp := fun as κ R _ => ∃ (n : Str) (ps : List Str), as = [.d (.str n), .d (.tuple (ps.map .str))] ∧ κ = [] ∧ nm n ∧ (∀ p ∈ ps, nm p) ∧ ps.length ≤ 6 ∧ R (.d (.str (n ++ "(" ++ Txt.join ", " ps ++ ")"))) []
def a__print_call (K : PySem.W.Frag) : AS :=
  (aRet (aOp aAdd (aOp aAdd (aOp aAdd (aVar 0) (aC (.d (.str "(")))) (aBM "str" aJoin (aC (.d (.str ", "))) (aCons (aVar 1) aNil))) (aC (.d (.str ")")))))
theorem len__print_call : ∀ as κ R E', F__print_call as κ R E' → as.length = (["name", "parties"] : List Str).length := by
  rintro as κ R E' ⟨s, m, rfl, _⟩; rfl
theorem parts_sum {ps : List Str} (h : ∀ p ∈ ps, nm p) (h6 : ps.length ≤ 6) : (ps.map (·.length)).sum ≤ 72 := by
  have h2 : (ps.map (·.length)).sum ≤ (ps.map fun _ => 12).sum := sum_le fun p hp => h p hp
  rw [sum_const] at h2
  omega
theorem rd__print_call : ∀ as κ R E', F__print_call as κ R E' → a__print_call K (endsA K κ.length R) (startA N__print_call as) κ := by
  rintro as κ R E' ⟨n, ps, rfl, rfl, hn, hp, h6, h⟩
  have h1 := parts_len hp h6
  have h2 := parts_sum hp h6
  unfold nm at hn
  refine ⟨by (refine sl100 ?_; first | omega | (simp only [slen_app, l0, l1, l2, l3, l4, l5, l6, l7, l8, l9, l10, l11, l12, l13, l14, l15, l16, l17, l18, l19, l20, l21] at * <;> omega)), rfl, ps, rfl, by rw [l3]; omega, by (refine sl100 ?_; first | omega | (simp only [slen_app, l0, l1, l2, l3, l4, l5, l6, l7, l8, l9, l10, l11, l12, l13, l14, l15, l16, l17, l18, l19, l20, l21] at * <;> omega)), by (refine sl100 ?_; first | omega | (simp only [slen_app, l0, l1, l2, l3, l4, l5, l6, l7, l8, l9, l10, l11, l12, l13, l14, l15, l16, l17, l18, l19, l20, l21] at * <;> omega)), _, _, GhR.refl (Nat.le_refl _), h⟩
theorem pcall_w {n : Str} {ps : List Str} {κ : AK} {E : AX → AK → Prop} {R : AR} (hn : nm n) (hp : ∀ p ∈ ps, nm p) (h6 : ps.length ≤ 6) (h : R (.d (.str (n ++ "(" ++ Txt.join ", " ps ++ ")"))) κ) : callW F__print_call E [.d (.str n), .d (.tuple (ps.map .str))] κ R :=
  callW_i ⟨[], _, _, .nil, rfl, rfl, n, ps, rfl, rfl, hn, hp, h6, ⟨Nat.zero_le _, rfl, rfl, h⟩⟩
def F_print_braces : FSp := fun as κ R _ => ∃ (w : Str) (ts : List Str), as = [.d (.str w), .d (.list (ts.map .str))] ∧ κ = [] ∧ w.length ≤ 10 ∧ ts.length ≤ 3 ∧ (ts.map (·.length)).sum ≤ 30000 ∧ R (.d (.str (w ++ " {" ++ Txt.join " | " ts ++ "}"))) []
def a_print_braces (K : PySem.W.Frag) : AS :=
  (aRet (aOp aAdd (aOp aAdd (aOp aAdd (aVar 0) (aC (.d (.str " {")))) (aBM "str" aJoin (aC (.d (.str " | "))) (aCons (aVar 1) aNil))) (aC (.d (.str "}")))))
theorem len_print_braces : ∀ as κ R E', F_print_braces as κ R E' → as.length = (["word", "texts"] : List Str).length := by
  rintro as κ R E' ⟨s, m, rfl, _⟩; rfl
theorem bars_len {ts : List Str} : (Txt.join " | " ts).length ≤ (ts.map (·.length)).sum + 3 * ts.length := by
  have h := tjoin_len " | " ts
  rw [l6, sum_addc] at h; exact h
theorem rd_print_braces : ∀ as κ R E', F_print_braces as κ R E' → a_print_braces K (endsA K κ.length R) (startA N_print_braces as) κ := by
  rintro as κ R E' ⟨w, ts, rfl, rfl, hw, hl, hs, h⟩
  have h1 := bars_len (ts := ts)
  exact ⟨by (refine sl100 ?_; first | omega | (simp only [slen_app, l0, l1, l2, l3, l4, l5, l6, l7, l8, l9, l10, l11, l12, l13, l14, l15, l16, l17, l18, l19, l20, l21] at * <;> omega)), rfl, ts, rfl, by rw [l6]; omega, by (refine sl100 ?_; first | omega | (simp only [slen_app, l0, l1, l2, l3, l4, l5, l6, l7, l8, l9, l10, l11, l12, l13, l14, l15, l16, l17, l18, l19, l20, l21] at * <;> omega)), by (refine sl100 ?_; first | omega | (simp only [slen_app, l0, l1, l2, l3, l4, l5, l6, l7, l8, l9, l10, l11, l12, l13, l14, l15, l16, l17, l18, l19, l20, l21] at * <;> omega)), _, _, GhR.refl (Nat.le_refl _), h⟩
theorem pbr_w {w : Str} {ts : List Str} {κ : AK} {E : AX → AK → Prop} {R : AR} (hw : w.length ≤ 10) (hl : ts.length ≤ 3) (hs : (ts.map (·.length)).sum ≤ 30000) (h : R (.d (.str (w ++ " {" ++ Txt.join " | " ts ++ "}"))) κ) : callW F_print_braces E [.d (.str w), .d (.list (ts.map .str))] κ R :=
  callW_i ⟨[], _, _, .nil, rfl, rfl, w, ts, rfl, rfl, hw, hl, hs, ⟨Nat.zero_le _, rfl, rfl, h⟩⟩
/-- a body's text, a step's text: by depth -/
def F_bodyT (n : Nat) : FSp := fun as κ R _ => ∃ (ds : List PyData) (m : Nat) (t : Str) (k : Nat), as = [.d (.tuple ds)] ∧ κ = [] ∧ bodyR k ds m t ∧ m ≤ 100 ∧ 2 * k ≤ n ∧ R (.d (.str t)) []
def F_stepT (n : Nat) : FSp := fun as κ R _ => ∃ (d : PyData) (m : Nat) (t : Str) (k : Nat), as = [.d d] ∧ κ = [] ∧ StepR (bodyR k) d m t ∧ m ≤ 100 ∧ 2 * k + 1 ≤ n ∧ R (.d (.str t)) []
abbrev FF_print_body := F_bodyT
abbrev FF_print_step := F_stepT
abbrev FF__law_body_text := F_bodyT
abbrev FF__law_step_text := F_stepT
theorem bodyT_w {n : Nat} {ds : List PyData} {m : Nat} {t : Str} {k : Nat} {κ : AK} {E : AX → AK → Prop} {R : AR} (hb : bodyR k ds m t) (hm : m ≤ 100) (hk : 2 * k ≤ n) (h : R (.d (.str t)) κ) : callW (F_bodyT n) E [.d (.tuple ds)] κ R :=
  callW_i ⟨[], _, _, .nil, rfl, rfl, ds, m, t, k, rfl, rfl, hb, hm, hk, ⟨Nat.zero_le _, rfl, rfl, h⟩⟩
theorem stepT_w {n : Nat} {d : PyData} {m : Nat} {t : Str} {k : Nat} {κ : AK} {E : AX → AK → Prop} {R : AR} (hb : StepR (bodyR k) d m t) (hm : m ≤ 100) (hk : 2 * k + 1 ≤ n) (h : R (.d (.str t)) κ) : callW (F_stepT n) E [.d d] κ R :=
  callW_i ⟨[], _, _, .nil, rfl, (by obtain ⟨l, rfl⟩ := stepR_tup hb; rfl), d, m, t, k, rfl, rfl, hb, hm, hk, ⟨Nat.zero_le _, rfl, rfl, h⟩⟩
def a_print_step (K : PySem.W.Frag) (F_self_print_body : FSp) : AS :=
  (aSeq (aIfS (aB (aOp aEq (aOp aIx (aVar 0) (aC (.d (.int 0)))) (aC (.d (.str "letter"))))) (aSeq (aAsg (aVar 0) (aGTup 4 (aGCons (aName 1) (aGCons (aName 2) (aGCons (aName 3) (aGCons (aName 4) aGNil)))))) (aRet (aJoined (aJCons (aFmt (aVar 2)) (aJCons (aC (.d (.str " -> "))) (aJCons (aFmt (aVar 3)) (aJCons (aC (.d (.str ": "))) (aJCons (aFmt (aVar 4)) aJNil)))))))) aNext) (aSeq (aIfS (aB (aOp aEq (aOp aIx (aVar 0) (aC (.d (.int 0)))) (aC (.d (.str "use"))))) (aRet (aOp aAdd (aC (.d (.str "use "))) (aCall F__print_call (fun _ _ => False) (aCons (aOp aIx (aVar 0) (aC (.d (.int 1)))) (aCons (aOp aIx (aVar 0) (aC (.d (.int 2)))) aNil))))) aNext) (aSeq (aIfS (aB (aOp aEq (aOp aIx (aVar 0) (aC (.d (.int 0)))) (aC (.d (.str "loop"))))) (aRet (aCall F_print_braces (fun _ _ => False) (aCons (aC (.d (.str "loop"))) (aCons (aLstD (aCons (aCall F_self_print_body (fun _ _ => False) (aCons (aOp aIx (aVar 0) (aC (.d (.int 1)))) aNil)) aNil)) aNil)))) aNext) (aRet (aCall F_print_braces (fun _ _ => False) (aCons (aOp aIx (aVar 0) (aC (.d (.int 0)))) (aCons (aLc (aIter (aOp aIx (aVar 0) (aC (.d (.int 1))))) (aName 5) aYes (aCall F_self_print_body (fun _ _ => False) (aCons (aVar 5) aNil)) [5]) aNil)))))))
def a_print_body (K : PySem.W.Frag) (F_self_print_step : FSp) : AS :=
  (aRet (aBM "str" aJoin (aC (.d (.str "; "))) (aCons (aLc (aIter (aVar 0)) (aName 1) aYes (aCall F_self_print_step (fun _ _ => False) (aCons (aVar 1) aNil)) [1]) aNil)))
theorem len_print_step (n : Nat) : ∀ as κ R E', FF_print_step n as κ R E' → as.length = (["step"] : List Str).length := by
  rintro as κ R E' ⟨s, m, _, _, rfl, _⟩; rfl
theorem len_print_body (n : Nat) : ∀ as κ R E', FF_print_body n as κ R E' → as.length = (["body"] : List Str).length := by
  rintro as κ R E' ⟨s, m, _, _, rfl, _⟩; rfl
theorem rd0_print_step {as κ R E'} (h : FF_print_step 0 as κ R E') : False := by
  obtain ⟨d, m, t, k, _, _, _, _, hk, _⟩ := h; omega
theorem rd0_print_body {as κ R E'} (h : FF_print_body 0 as κ R E') : False := by
  obtain ⟨d, m, t, k, _, _, hb, _, hk, _⟩ := h
  have : k = 0 := by omega
  subst this; exact hb
theorem bsel_t {b : Bool} {A C : Prop} (e : b = true) (h : A) : bsel b A C := bsel_i (fun _ => h) fun z => by rw [e] at z; cases z
theorem bsel_f {b : Bool} {A C : Prop} (e : b = false) (h : C) : bsel b A C := bsel_i (fun z => by rw [e] at z; cases z) fun _ => h
theorem rd_print_body (n : Nat) : ∀ as κ R E', FF_print_body (n + 1) as κ R E' → a_print_body K (FF_print_step n) (endsA K κ.length R) (startA N_print_body as) κ := by
  rintro as κ R E' ⟨ds, m, t, k, rfl, rfl, hb, hm, hk, h⟩
  have hlen := bodyR_len hb
  have hcnt := bodyR_cnt hb
  cases k with
  | zero => exact hb.elim
  | succ k =>
    obtain ⟨xs, rfl, hx, rfl, rfl⟩ := hb
    rw [List.length_map] at hcnt
    refine ⟨rfl, ?_⟩
    refine lc_d (fun i acc κ' => κ' = [] ∧ acc = (xs.take i).map fun x => .str x.2.2) ⟨rfl, rfl⟩ ?_ ?_
    · rintro acc κ' ⟨rfl, rfl⟩
      rw [List.length_map, List.take_of_length_le (Nat.le_refl _)]
      have h2 : ((xs.map (·.2.2)).map (·.length)).sum ≤ (xs.map fun x => 200 * x.2.1).sum := by
        rw [List.map_map]
        exact sum_le fun x hx' => by
          have := stepR_len (fun _ _ _ h => bodyR_len h) (hx x hx')
          show x.2.2.length ≤ _
          omega
      rw [sum_mul] at h2
      refine ⟨xs.map (·.2.2), ?_, ?_, _, _, GhR.refl (Nat.le_refl _), h⟩
      · show some (xs.map fun x => PyData.str x.2.2) = some ((xs.map (·.2.2)).map PyData.str)
        rw [List.map_map]; rfl
      · rw [l10, List.length_map]; omega
    · rintro i x acc κ' hx' ⟨rfl, rfl⟩
      rw [List.getElem?_map] at hx'
      obtain ⟨y, hy, rfl⟩ := Option.map_eq_some_iff.mp hx'
      have hmem := List.mem_of_getElem? hy
      have hil := (List.getElem?_eq_some_iff.mp hy).1
      have hle : y.2.1 ≤ (xs.map (·.2.1)).sum := le_sum (fun x => x.2.1) hmem
      refine stepT_w (hx y hmem) (by omega) (by omega) ⟨_, rfl, ?_, rfl, ?_⟩
      · rw [List.length_map, List.length_take]
        exact Nat.lt_of_lt_of_le (show min i xs.length < 1000 by omega) (by decide)
      · rw [List.take_add_one, hy]; simp
theorem k_ul : ("use" : Str) ≠ "letter" := by decide +kernel
theorem ixs {α : Type} {a : α} {l : List α} : atI (a :: l) (0 : Int) = some a := at_nat (j := 0) rfl
theorem loop_tx (t : Str) : "loop" ++ " {" ++ Txt.join " | " [t] ++ "}" = ("loop {" ++ t ++ "}" : Str) := by
  rw [tjoin_one]
  have : ("loop" ++ " {" : Str) = "loop {" := by decide +kernel
  rw [this]
theorem use_tx (n : Str) (j : Str) : "use " ++ (n ++ "(" ++ j ++ ")") = ("use " ++ n ++ "(" ++ j ++ ")" : Str) := by simp only [app_assoc]
theorem bs_sum {k : Nat} {bs : List (List PyData × Nat × Str)} (hb : ∀ x ∈ bs, bodyR k x.1 x.2.1 x.2.2) : ((bs.map (·.2.2)).map (·.length)).sum ≤ 200 * (bs.map (·.2.1)).sum := by
  rw [List.map_map, ← sum_mul]
  exact sum_le fun x hx => bodyR_len (hb x hx)
theorem rd_print_step (n : Nat) : ∀ as κ R E', FF_print_step (n + 1) as κ R E' → a_print_step K (FF_print_body n) (endsA K κ.length R) (startA N_print_step as) κ := by
  rintro as κ R E' ⟨d, m, t, k, rfl, rfl, hs, hm, hk, h⟩
  cases hs with
  | letter w a b c hw ha hb hc =>
    unfold nm at *
    refine ⟨.str w, at_nat (j := 0) rfl, bsel_t (decide_eq_true hw) ⟨rfl, ?_⟩⟩
    refine ⟨by (refine sl100 ?_; first | omega | (simp only [slen_app, l0, l1, l2, l3, l4, l5, l6, l7, l8, l9, l10, l11, l12, l13, l14, l15, l16, l17, l18, l19, l20, l21] at * <;> omega)), by (refine sl100 ?_; first | omega | (simp only [slen_app, l0, l1, l2, l3, l4, l5, l6, l7, l8, l9, l10, l11, l12, l13, l14, l15, l16, l17, l18, l19, l20, l21] at * <;> omega)), by (refine sl100 ?_; first | omega | (simp only [slen_app, l0, l1, l2, l3, l4, l5, l6, l7, l8, l9, l10, l11, l12, l13, l14, l15, l16, l17, l18, l19, l20, l21] at * <;> omega)), by (refine sl100 ?_; first | omega | (simp only [slen_app, l0, l1, l2, l3, l4, l5, l6, l7, l8, l9, l10, l11, l12, l13, l14, l15, l16, l17, l18, l19, l20, l21] at * <;> omega)), by (refine sl100 ?_; first | omega | (simp only [slen_app, l0, l1, l2, l3, l4, l5, l6, l7, l8, l9, l10, l11, l12, l13, l14, l15, l16, l17, l18, l19, l20, l21] at * <;> omega)), by (refine sl100 ?_; first | omega | (simp only [slen_app, l0, l1, l2, l3, l4, l5, l6, l7, l8, l9, l10, l11, l12, l13, l14, l15, l16, l17, l18, l19, l20, l21] at * <;> omega)), by (refine sl100 ?_; first | omega | (simp only [slen_app, l0, l1, l2, l3, l4, l5, l6, l7, l8, l9, l10, l11, l12, l13, l14, l15, l16, l17, l18, l19, l20, l21] at * <;> omega)), by (refine sl100 ?_; first | omega | (simp only [slen_app, l0, l1, l2, l3, l4, l5, l6, l7, l8, l9, l10, l11, l12, l13, l14, l15, l16, l17, l18, l19, l20, l21] at * <;> omega)), ?_⟩
    rw [emp_app]
    exact ⟨_, _, GhR.refl (Nat.le_refl _), h⟩
  | use w nn ps hw hn hp h6 =>
    have h1 := parts_len hp h6
    have hn' := hn
    unfold nm at hn'
    have n1 : w ≠ "letter" := by rw [hw]; decide +kernel
    refine ⟨.str w, at_nat (j := 0) rfl, bsel_f (decide_eq_false n1) ⟨.str w, at_nat (j := 0) rfl, bsel_t (decide_eq_true hw) ⟨_, at_nat (j := 1) rfl, _, at_nat (j := 2) rfl, pcall_w hn hp h6 ⟨by (refine sl100 ?_; first | omega | (simp only [slen_app, l0, l1, l2, l3, l4, l5, l6, l7, l8, l9, l10, l11, l12, l13, l14, l15, l16, l17, l18, l19, l20, l21] at * <;> omega)), ?_⟩⟩⟩⟩
    rw [use_tx]
    exact ⟨_, _, GhR.refl (Nat.le_refl _), h⟩
  | loop w b m t hw hb =>
    have hl := bodyR_len hb
    have n1 : w ≠ "letter" := by rw [hw]; decide +kernel
    have n2 : w ≠ "use" := by rw [hw]; decide +kernel
    refine ⟨.str w, at_nat (j := 0) rfl, bsel_f (decide_eq_false n1) ⟨.str w, at_nat (j := 0) rfl, bsel_f (decide_eq_false n2) ⟨.str w, at_nat (j := 0) rfl, bsel_t (decide_eq_true hw) ⟨_, at_nat (j := 1) rfl, bodyT_w hb (by omega) (by omega) ⟨(show 1 ≤ sizeLine by decide), ?_⟩⟩⟩⟩⟩
    refine pbr_w (ts := [t]) (by decide +kernel) (show 1 ≤ 3 by decide) (by show t.length + 0 ≤ _; omega) ?_
    rw [loop_tx]
    exact ⟨_, _, GhR.refl (Nat.le_refl _), h⟩
  | br w bs hw hb h3 =>
    have hsum := bs_sum hb
    have tail : ∀ (κ : AK) (Q : AR), (Q (.d (.list (bs.map fun x => .str x.2.2))) []) → LcW (itD (bs.map fun x => PyData.tuple x.1)) (aName 5) aYes (aCall (FF_print_body n) (fun _ _ => False) (aCons (aVar 5) aNil)) [5] [some (.d (.tuple [.str w, .tuple (bs.map fun x => .tuple x.1)])), none, none, none, none, none] [] Q := by
      intro κ Q hQ
      refine lc_d (fun i acc κ' => κ' = [] ∧ acc = (bs.take i).map fun x => .str x.2.2) ⟨rfl, rfl⟩ ?_ ?_
      · rintro acc κ' ⟨rfl, rfl⟩
        rw [List.length_map, List.take_of_length_le (Nat.le_refl _)]
        exact hQ
      · rintro i x acc κ' hx' ⟨rfl, rfl⟩
        rw [List.getElem?_map] at hx'
        obtain ⟨y, hy, rfl⟩ := Option.map_eq_some_iff.mp hx'
        have hmem := List.mem_of_getElem? hy
        have hle : y.2.1 ≤ (bs.map (·.2.1)).sum := le_sum (fun x => x.2.1) hmem
        refine bodyT_w (hb y hmem) (by omega) (by omega) ⟨_, rfl, ?_, rfl, ?_⟩
        · rw [List.length_map, List.length_take]
          exact Nat.lt_of_lt_of_le (show min i bs.length < 1000 by omega) (by decide)
        · rw [List.take_add_one, hy]; simp
    have lw : w.length ≤ 10 := by rcases hw with rfl | rfl <;> decide +kernel
    have n1 : w ≠ "letter" := by rcases hw with rfl | rfl <;> decide +kernel
    have n2 : w ≠ "use" := by rcases hw with rfl | rfl <;> decide +kernel
    have n3 : w ≠ "loop" := by rcases hw with rfl | rfl <;> decide +kernel
    refine ⟨.str w, at_nat (j := 0) rfl, bsel_f (decide_eq_false n1) ⟨.str w, at_nat (j := 0) rfl, bsel_f (decide_eq_false n2) ⟨.str w, at_nat (j := 0) rfl, bsel_f (decide_eq_false n3) ⟨_, at_nat (j := 0) rfl, _, at_nat (j := 1) rfl, ?_⟩⟩⟩⟩
    refine tail [] _ ?_
    have e : (bs.map fun x => PyData.str x.2.2) = (bs.map (·.2.2)).map PyData.str := by rw [List.map_map]; rfl
    rw [e]
    exact pbr_w lw (by rw [List.length_map]; exact h3) (by omega) ⟨_, _, GhR.refl (Nat.le_refl _), h⟩
end K08
set_option Elab.async false
set_option linter.all false
set_option maxRecDepth 100000
set_option maxHeartbeats 4000000
namespace K08
open PySem L2 Ab Com
variable {K : PySem.W.Frag}
/-! ### the law's texts -/
def a__law_step_text (K : PySem.W.Frag) (F_self__law_body_text : FSp) : AS :=
  (aSeq (aIfS (aB (aOp aEq (aOp aIx (aVar 0) (aC (.d (.int 0)))) (aC (.d (.str "letter"))))) (aRet (aOp aAdd (aOp aAdd (aOp aAdd (aOp aAdd (aOp aIx (aVar 0) (aC (.d (.int 1)))) (aC (.d (.str " -> ")))) (aOp aIx (aVar 0) (aC (.d (.int 2))))) (aC (.d (.str ": ")))) (aOp aIx (aVar 0) (aC (.d (.int 3)))))) aNext) (aSeq (aIfS (aB (aOp aEq (aOp aIx (aVar 0) (aC (.d (.int 0)))) (aC (.d (.str "use"))))) (aRet (aOp aAdd (aOp aAdd (aOp aAdd (aOp aAdd (aC (.d (.str "use "))) (aOp aIx (aVar 0) (aC (.d (.int 1))))) (aC (.d (.str "(")))) (aBM "str" aJoin (aC (.d (.str ", "))) (aCons (aCB (aListOf false) (aCons (aOp aIx (aVar 0) (aC (.d (.int 2)))) aNil)) aNil))) (aC (.d (.str ")"))))) aNext) (aSeq (aIfS (aB (aOp aEq (aOp aIx (aVar 0) (aC (.d (.int 0)))) (aC (.d (.str "loop"))))) (aRet (aOp aAdd (aOp aAdd (aC (.d (.str "loop {"))) (aCall F_self__law_body_text (fun _ _ => False) (aCons (aOp aIx (aVar 0) (aC (.d (.int 1)))) aNil))) (aC (.d (.str "}"))))) aNext) (aRet (aOp aAdd (aOp aAdd (aOp aAdd (aOp aIx (aVar 0) (aC (.d (.int 0)))) (aC (.d (.str " {")))) (aBM "str" aJoin (aC (.d (.str " | "))) (aCons (aLc (aIter (aOp aIx (aVar 0) (aC (.d (.int 1))))) (aName 1) aYes (aCall F_self__law_body_text (fun _ _ => False) (aCons (aVar 1) aNil)) [1]) aNil))) (aC (.d (.str "}"))))))))
def a__law_body_text (K : PySem.W.Frag) (F_self__law_step_text : FSp) : AS :=
  (aSeq (aSet 1 (aC (.d (.str "")))) (aSeq (aFor (aRng1 (aCons (aCB aLen (aCons (aVar 0) aNil)) aNil)) (aName 2) (aSet 1 (aOp aAdd (aOp aAdd (aVar 1) (aOp aMulS (aC (.d (.str "; "))) (aCB aIntOf (aCons (aOp aGt (aVar 2) (aC (.d (.int 0)))) aNil)))) (aCall F_self__law_step_text (fun _ _ => False) (aCons (aOp aIx (aVar 0) (aVar 2)) aNil))))) (aRet (aVar 1))))
theorem len__law_step_text (n : Nat) : ∀ as κ R E', FF__law_step_text n as κ R E' → as.length = (["step"] : List Str).length := by
  rintro as κ R E' ⟨s, m, _, _, rfl, _⟩; rfl
theorem len__law_body_text (n : Nat) : ∀ as κ R E', FF__law_body_text n as κ R E' → as.length = (["body"] : List Str).length := by
  rintro as κ R E' ⟨s, m, _, _, rfl, _⟩; rfl
theorem rd0__law_step_text {as κ R E'} (h : FF__law_step_text 0 as κ R E') : False := rd0_print_step h
theorem rd0__law_body_text {as κ R E'} (h : FF__law_body_text 0 as κ R E') : False := rd0_print_body h
theorem bodies_lc {n k : Nat} {vs : List Nat} {i0 : Nat} {δ : AD} {κ : AK} {bs : List (List PyData × Nat × Str)} {Q : AR} (hb : ∀ x ∈ bs, bodyR k x.1 x.2.1 x.2.2) (hm : (bs.map (·.2.1)).sum ≤ 100) (h3 : bs.length ≤ 3) (hk : 2 * k ≤ n) (hd : ∀ (a : AV), ((wipeA δ vs).set i0 (some a))[i0]? = some (some a)) (hQ : Q (.d (.list ((bs.map (·.2.2)).map .str))) κ) :
    LcW (itD (bs.map fun x => PyData.tuple x.1)) (aName i0) aYes (aCall (F_bodyT n) (fun _ _ => False) (aCons (aVar i0) aNil)) vs δ κ Q := by
  refine lc_d (fun i acc κ' => κ' = κ ∧ acc = (bs.take i).map fun x => .str x.2.2) ⟨rfl, rfl⟩ ?_ ?_
  · rintro acc κ' ⟨rfl, rfl⟩
    rw [List.length_map, List.take_of_length_le (Nat.le_refl _)]
    rw [List.map_map] at hQ; exact hQ
  · rintro i x acc κ' hx' ⟨rfl, rfl⟩
    rw [List.getElem?_map] at hx'
    obtain ⟨y, hy, rfl⟩ := Option.map_eq_some_iff.mp hx'
    have hmem := List.mem_of_getElem? hy
    have hle : y.2.1 ≤ (bs.map (·.2.1)).sum := le_sum (fun x => x.2.1) hmem
    show aVar i0 ((wipeA δ vs).set i0 (some (.d (.tuple y.1)))) κ' fun a κ1 => _
    unfold aVar
    rw [hd]
    refine bodyT_w (hb y hmem) (by omega) hk ⟨_, rfl, ?_, rfl, ?_⟩
    · rw [List.length_map, List.length_take]
      exact Nat.lt_of_lt_of_le (show min i bs.length < 1000 by omega) (by decide)
    · rw [List.take_add_one, hy]; simp
theorem rd__law_step_text (n : Nat) : ∀ as κ R E', FF__law_step_text (n + 1) as κ R E' → a__law_step_text K (FF__law_body_text n) (endsA K κ.length R) (startA N__law_step_text as) κ := by
  rintro as κ R E' ⟨d, m, t, k, rfl, rfl, hs, hm, hk, h⟩
  cases hs with
  | letter w a b c hw ha hb hc =>
    unfold nm at *
    refine ⟨.str w, at_nat (j := 0) rfl, bsel_t (decide_eq_true hw) ⟨.str a, at_nat (j := 1) rfl, by (refine sl100 ?_; first | omega | (simp only [slen_app, l0, l1, l2, l3, l4, l5, l6, l7, l8, l9, l10, l11, l12, l13, l14, l15, l16, l17, l18, l19, l20, l21] at * <;> omega)), .str b, at_nat (j := 2) rfl, by (refine sl100 ?_; first | omega | (simp only [slen_app, l0, l1, l2, l3, l4, l5, l6, l7, l8, l9, l10, l11, l12, l13, l14, l15, l16, l17, l18, l19, l20, l21] at * <;> omega)), by (refine sl100 ?_; first | omega | (simp only [slen_app, l0, l1, l2, l3, l4, l5, l6, l7, l8, l9, l10, l11, l12, l13, l14, l15, l16, l17, l18, l19, l20, l21] at * <;> omega)), .str c, at_nat (j := 3) rfl, by (refine sl100 ?_; first | omega | (simp only [slen_app, l0, l1, l2, l3, l4, l5, l6, l7, l8, l9, l10, l11, l12, l13, l14, l15, l16, l17, l18, l19, l20, l21] at * <;> omega)), _, _, GhR.refl (Nat.le_refl _), h⟩⟩
  | use w nn ps hw hn hp h6 =>
    have h1 := parts_len hp h6
    have h2 := parts_sum hp h6
    unfold nm at hn
    have n1 : w ≠ "letter" := by rw [hw]; decide +kernel
    refine ⟨.str w, at_nat (j := 0) rfl, bsel_f (decide_eq_false n1) ⟨.str w, at_nat (j := 0) rfl, bsel_t (decide_eq_true hw) ⟨.str nn, at_nat (j := 1) rfl, by (refine sl100 ?_; first | omega | (simp only [slen_app, l0, l1, l2, l3, l4, l5, l6, l7, l8, l9, l10, l11, l12, l13, l14, l15, l16, l17, l18, l19, l20, l21] at * <;> omega)), by (refine sl100 ?_; first | omega | (simp only [slen_app, l0, l1, l2, l3, l4, l5, l6, l7, l8, l9, l10, l11, l12, l13, l14, l15, l16, l17, l18, l19, l20, l21] at * <;> omega)), rfl, .tuple (ps.map .str), at_nat (j := 2) rfl, ?_⟩⟩⟩
    exact ⟨ps, rfl, by rw [l3]; omega, by (refine sl100 ?_; first | omega | (simp only [slen_app, l0, l1, l2, l3, l4, l5, l6, l7, l8, l9, l10, l11, l12, l13, l14, l15, l16, l17, l18, l19, l20, l21] at * <;> omega)), by (refine sl100 ?_; first | omega | (simp only [slen_app, l0, l1, l2, l3, l4, l5, l6, l7, l8, l9, l10, l11, l12, l13, l14, l15, l16, l17, l18, l19, l20, l21] at * <;> omega)), _, _, GhR.refl (Nat.le_refl _), h⟩
  | loop w b m t hw hb =>
    have hl := bodyR_len hb
    have n1 : w ≠ "letter" := by rw [hw]; decide +kernel
    have n2 : w ≠ "use" := by rw [hw]; decide +kernel
    refine ⟨.str w, at_nat (j := 0) rfl, bsel_f (decide_eq_false n1) ⟨.str w, at_nat (j := 0) rfl, bsel_f (decide_eq_false n2) ⟨.str w, at_nat (j := 0) rfl, bsel_t (decide_eq_true hw) ⟨.tuple b, at_nat (j := 1) rfl, bodyT_w hb (by omega) (by omega) ⟨by (refine sl100 ?_; first | omega | (simp only [slen_app, l0, l1, l2, l3, l4, l5, l6, l7, l8, l9, l10, l11, l12, l13, l14, l15, l16, l17, l18, l19, l20, l21] at * <;> omega)), by (refine sl100 ?_; first | omega | (simp only [slen_app, l0, l1, l2, l3, l4, l5, l6, l7, l8, l9, l10, l11, l12, l13, l14, l15, l16, l17, l18, l19, l20, l21] at * <;> omega)), _, _, GhR.refl (Nat.le_refl _), h⟩⟩⟩⟩⟩
  | br w bs hw hb h3 =>
    have hsum := bs_sum hb
    have hbars := bars_len (ts := bs.map (·.2.2))
    rw [List.length_map] at hbars
    have lw : w.length ≤ 10 := by rcases hw with rfl | rfl <;> decide +kernel
    have n1 : w ≠ "letter" := by rcases hw with rfl | rfl <;> decide +kernel
    have n2 : w ≠ "use" := by rcases hw with rfl | rfl <;> decide +kernel
    have n3 : w ≠ "loop" := by rcases hw with rfl | rfl <;> decide +kernel
    refine ⟨.str w, at_nat (j := 0) rfl, bsel_f (decide_eq_false n1) ⟨.str w, at_nat (j := 0) rfl, bsel_f (decide_eq_false n2) ⟨.str w, at_nat (j := 0) rfl, bsel_f (decide_eq_false n3) ⟨.str w, at_nat (j := 0) rfl, by (refine sl100 ?_; first | omega | (simp only [slen_app, l0, l1, l2, l3, l4, l5, l6, l7, l8, l9, l10, l11, l12, l13, l14, l15, l16, l17, l18, l19, l20, l21] at * <;> omega)), rfl, _, at_nat (j := 1) rfl, ?_⟩⟩⟩⟩
    refine bodies_lc hb (by omega) h3 (by omega) (fun a => rfl) ⟨bs.map (·.2.2), rfl, by rw [l6, List.length_map]; omega, by (refine sl100 ?_; first | omega | (simp only [slen_app, l0, l1, l2, l3, l4, l5, l6, l7, l8, l9, l10, l11, l12, l13, l14, l15, l16, l17, l18, l19, l20, l21] at * <;> omega)), by (refine sl100 ?_; first | omega | (simp only [slen_app, l0, l1, l2, l3, l4, l5, l6, l7, l8, l9, l10, l11, l12, l13, l14, l15, l16, l17, l18, l19, l20, l21] at * <;> omega)), _, _, GhR.refl (Nat.le_refl _), ?_⟩
    exact h
theorem rd__law_body_text (n : Nat) : ∀ as κ R E', FF__law_body_text (n + 1) as κ R E' → a__law_body_text K (FF__law_step_text n) (endsA K κ.length R) (startA N__law_body_text as) κ := by
  rintro as κ R E' ⟨ds, m, t, k, rfl, rfl, hb, hm, hk, h⟩
  have hcnt := bodyR_cnt hb
  cases k with
  | zero => exact hb.elim
  | succ k =>
    obtain ⟨xs, rfl, hx, rfl, rfl⟩ := hb
    have hlx : (xs.map (·.1)).length = xs.length := List.length_map ..
    have pre : ∀ i, (Txt.join "; " ((xs.take i).map (·.2.2))).length ≤ 20000 := fun i => by
      have h1 := tjoin_len "; " ((xs.take i).map (·.2.2))
      rw [List.map_map] at h1
      have h2 : ((xs.take i).map ((fun y : Str => y.length + ("; " : Str).length) ∘ fun x => x.2.2)).sum ≤ ((xs.take i).map fun x => 200 * x.2.1).sum := sum_le fun x hx' => by
        have := stepR_len (fun _ _ _ h => bodyR_len h) (hx x (List.mem_of_mem_take hx'))
        show x.2.2.length + _ ≤ _
        rw [l10]; omega
      rw [sum_mul] at h2
      have h3 : ((xs.take i).map (·.2.1)).sum ≤ (xs.map (·.2.1)).sum := by
        have := congrArg (fun l : List (PyData × Nat × Str) => (l.map (·.2.1)).sum) (List.take_append_drop i xs)
        simp only [List.map_append, List.sum_append] at this
        omega
      omega
    refine ⟨by omega, by omega, ?_⟩
    refine for_r (fun i δ κ => ∃ x : Option AV, δ = [some (.d (.tuple (xs.map (·.1)))), some (.d (.str (Txt.join "; " ((xs.take i).map (·.2.2))))), x] ∧ κ = []) ⟨none, rfl, rfl⟩ ?_ ?_
    · rintro δ κ ⟨x, rfl, rfl⟩ _
      have e : (((xs.map (·.1)).length : Nat) : Int).toNat = xs.length := by omega
      rw [e, List.take_of_length_le (Nat.le_refl _)]
      exact ⟨_, _, GhR.refl (Nat.le_refl _), h⟩
    · rintro i δ κ hi ⟨x, rfl, rfl⟩ _
      have hi' : i < xs.length := by omega
      have hg := List.getElem?_eq_getElem hi'
      have hmem := List.getElem_mem hi'
      have hle : xs[i].2.1 ≤ (xs.map (·.2.1)).sum := le_sum (fun x => x.2.1) hmem
      have hst := stepR_len (fun _ _ _ h => bodyR_len h) (hx _ hmem)
      have hpre := pre i
      have hgd : atI (xs.map (·.1)) ((0 : Int) + (i : Int)) = some xs[i].1 := by
        rw [Int.zero_add]; exact at_nat (by rw [List.getElem?_map, hg]; rfl)
      have fin : ∀ κ : AK, ∃ x : Option AV, [some (AV.d (.tuple (xs.map (·.1)))), some (.d (.str (Txt.join "; " ((xs.take (i + 1)).map (·.2.2))))), some (.d (.int ((0 : Int) + (i : Int))))] = [some (.d (.tuple (xs.map (·.1)))), some (.d (.str (Txt.join "; " ((xs.take (i + 1)).map (·.2.2))))), x] ∧ ([] : AK) = [] := fun _ => ⟨_, rfl, rfl⟩
      have et : (xs.take (i + 1)).map (·.2.2) = (xs.take i).map (·.2.2) ++ [xs[i].2.2] := by rw [List.take_add_one, hg, List.map_append]; rfl
      by_cases h0 : i = 0
      · have hneg : (decide ((0 : Int) < (0 : Int) + (i : Int))) = false := decide_eq_false (by omega)
        have t0 : (xs.take i).map (·.2.2) = [] := by rw [h0]; rfl
        have ej : Txt.join "; " ((xs.take i).map (·.2.2)) = Str.empty := by rw [t0, tjoin_nil]
        refine .inl ⟨by show (if (decide ((0 : Int) < (0 : Int) + (i : Int))) = true then (1 : Int) else 0) = 0; rw [hneg]; rfl, by (refine sl100 ?_; first | omega | (simp only [slen_app, l0, l1, l2, l3, l4, l5, l6, l7, l8, l9, l10, l11, l12, l13, l14, l15, l16, l17, l18, l19, l20, l21] at * <;> omega)), _, hgd, stepT_w (hx _ hmem) (by omega) (by omega) ⟨by (refine sl100 ?_; first | omega | (simp only [slen_app, l0, l1, l2, l3, l4, l5, l6, l7, l8, l9, l10, l11, l12, l13, l14, l15, l16, l17, l18, l19, l20, l21] at * <;> omega)), some (.d (.int ((0 : Int) + (i : Int)))), ?_, rfl⟩⟩
        rw [et, t0, tjoin_nil, List.nil_append, tjoin_one, emp_app, emp_app]; rfl
      · have hpos : (decide ((0 : Int) < (0 : Int) + (i : Int))) = true := decide_eq_true (by omega)
        refine .inr ⟨by show (if (decide ((0 : Int) < (0 : Int) + (i : Int))) = true then (1 : Int) else 0) = 1; rw [if_pos hpos], by (refine sl100 ?_; first | omega | (simp only [slen_app, l0, l1, l2, l3, l4, l5, l6, l7, l8, l9, l10, l11, l12, l13, l14, l15, l16, l17, l18, l19, l20, l21] at * <;> omega)), _, hgd, stepT_w (hx _ hmem) (by omega) (by omega) ⟨by (refine sl100 ?_; first | omega | (simp only [slen_app, l0, l1, l2, l3, l4, l5, l6, l7, l8, l9, l10, l11, l12, l13, l14, l15, l16, l17, l18, l19, l20, l21] at * <;> omega)), some (.d (.int ((0 : Int) + (i : Int)))), ?_, rfl⟩⟩
        rw [et, tjoin_snoc, if_neg]
        · rfl
        · intro e
          have := congrArg List.length e
          rw [List.length_map, List.length_take] at this
          have : min i xs.length = 0 := this
          omega
/-! ### pacts -/
def F_pactT : FSp := fun as κ R _ => ∃ (p : PyData) (t : Str), as = [.d p] ∧ κ = [] ∧ pactR p t ∧ R (.d (.str t)) []
def F__law_pact_text : FSp := F_pactT
def F_print_pact : FSp := F_pactT
def a__law_pact_text (K : PySem.W.Frag) : AS :=
  (aSeq (aAsg (aVar 0) (aGTup 4 (aGCons (aName 1) (aGCons (aName 2) (aGCons (aName 3) (aGCons (aName 4) aGNil)))))) (aSeq (aSet 5 (aOp aAdd (aOp aAdd (aOp aAdd (aOp aAdd (aC (.d (.str "pact "))) (aVar 2)) (aC (.d (.str "(")))) (aBM "str" aJoin (aC (.d (.str ", "))) (aCons (aCB (aListOf false) (aCons (aVar 3) aNil)) aNil))) (aC (.d (.str ")"))))) (aCut (aIfS (aTru (aVar 4)) (aSet 5 (aOp aAdd (aOp aAdd (aVar 5) (aC (.d (.str " ")))) (aCall (FF__law_body_text 20) (fun _ _ => False) (aCons (aVar 4) aNil)))) aNext) (aRet (aOp aAdd (aVar 5) (aC (.d (.str " end"))))))))
def a_print_pact (K : PySem.W.Frag) : AS :=
  (aSeq (aAsg (aVar 0) (aGTup 4 (aGCons (aName 1) (aGCons (aName 2) (aGCons (aName 3) (aGCons (aName 4) aGNil)))))) (aSeq (aSet 5 (aLst (aCons (aC (.d (.str "pact"))) (aCons (aCall F__print_call (fun _ _ => False) (aCons (aVar 2) (aCons (aVar 3) aNil))) (aCons (aC (.d (.str "end"))) aNil))))) (aCut (aIfS (aTru (aVar 4)) (aDrop (aBM "list" aInsert (aVar 5) (aCons (aC (.d (.int 2))) (aCons (aCall (FF_print_body 20) (fun _ _ => False) (aCons (aVar 4) aNil)) aNil)))) aNext) (aRet (aBM "str" aJoin (aC (.d (.str " "))) (aCons (aVar 5) aNil))))))
theorem len__law_pact_text : ∀ as κ R E', F__law_pact_text as κ R E' → as.length = (["pact"] : List Str).length := by
  rintro as κ R E' ⟨p, t, rfl, _⟩; rfl
theorem len_print_pact : ∀ as κ R E', F_print_pact as κ R E' → as.length = (["pact"] : List Str).length := by
  rintro as κ R E' ⟨p, t, rfl, _⟩; rfl
theorem pactT_w {p : PyData} {t : Str} {κ : AK} {E : AX → AK → Prop} {R : AR} (hp : pactR p t) (h : R (.d (.str t)) κ) : callW F_pactT E [.d p] κ R :=
  callW_i ⟨[], _, _, .nil, rfl, (by obtain ⟨_, _, _, _, _, rfl, _⟩ := hp; rfl), p, t, rfl, rfl, hp, ⟨Nat.zero_le _, rfl, rfl, h⟩⟩
theorem rd__law_pact_text : ∀ as κ R E', F__law_pact_text as κ R E' → a__law_pact_text K (endsA K κ.length R) (startA N__law_pact_text as) κ := by
  rintro as κ R E' ⟨p, t, rfl, rfl, ⟨name, ps, body, m, bt, rfl, rfl, hn, hp, h6, hb, hm⟩, h⟩
  have h1 := parts_len hp h6
  have h2 := parts_sum hp h6
  have h3 := bodyR_len hb
  unfold nm at hn
  refine ⟨rfl, by (refine sl100 ?_; first | omega | (simp only [slen_app, l0, l1, l2, l3, l4, l5, l6, l7, l8, l9, l10, l11, l12, l13, l14, l15, l16, l17, l18, l19, l20, l21] at * <;> omega)), by (refine sl100 ?_; first | omega | (simp only [slen_app, l0, l1, l2, l3, l4, l5, l6, l7, l8, l9, l10, l11, l12, l13, l14, l15, l16, l17, l18, l19, l20, l21] at * <;> omega)), rfl, ps, rfl, by rw [l3]; omega, by (refine sl100 ?_; first | omega | (simp only [slen_app, l0, l1, l2, l3, l4, l5, l6, l7, l8, l9, l10, l11, l12, l13, l14, l15, l16, l17, l18, l19, l20, l21] at * <;> omega)), by (refine sl100 ?_; first | omega | (simp only [slen_app, l0, l1, l2, l3, l4, l5, l6, l7, l8, l9, l10, l11, l12, l13, l14, l15, l16, l17, l18, l19, l20, l21] at * <;> omega)), ?_⟩
  refine ⟨fun δ κ => ∃ z, δ = [some (.d (pactD name ps body)), some (.d (.str "pact")), some (.d (.str name)), some (.d (.tuple (ps.map .str))), some (.d (.tuple body)), some (.d (.str z))] ∧ κ = [] ∧ z.length ≤ 10000 ∧ z ++ " end" = pactT name ps body bt, ?_, ?_⟩
  · cases body with
    | nil => exact ⟨_, rfl, rfl, by (first | omega | (simp only [slen_app, l0, l1, l2, l3, l4, l5, l6, l7, l8, l9, l10, l11, l12, l13, l14, l15, l16, l17, l18, l19, l20, l21] at * <;> omega)), rfl⟩
    | cons b0 body => exact ⟨by (refine sl100 ?_; first | omega | (simp only [slen_app, l0, l1, l2, l3, l4, l5, l6, l7, l8, l9, l10, l11, l12, l13, l14, l15, l16, l17, l18, l19, l20, l21] at * <;> omega)), bodyT_w hb (by omega) (by decide) ⟨by (refine sl100 ?_; first | omega | (simp only [slen_app, l0, l1, l2, l3, l4, l5, l6, l7, l8, l9, l10, l11, l12, l13, l14, l15, l16, l17, l18, l19, l20, l21] at * <;> omega)), _, rfl, rfl, by (first | omega | (simp only [slen_app, l0, l1, l2, l3, l4, l5, l6, l7, l8, l9, l10, l11, l12, l13, l14, l15, l16, l17, l18, l19, l20, l21] at * <;> omega)), rfl⟩⟩
  · rintro δ κ ⟨z, rfl, rfl, hz, e⟩ _
    refine ⟨by (refine sl100 ?_; first | omega | (simp only [slen_app, l0, l1, l2, l3, l4, l5, l6, l7, l8, l9, l10, l11, l12, l13, l14, l15, l16, l17, l18, l19, l20, l21] at * <;> omega)), ?_⟩
    rw [e]
    exact ⟨_, _, GhR.refl (Nat.le_refl _), h⟩
theorem e_pact : ("pact " : Str) = "pact" ++ " " := by decide +kernel
theorem e_end : (" end" : Str) = " " ++ "end" := by decide +kernel
theorem tx_nil (n j : Str) : Txt.join " " ["pact", n ++ "(" ++ j ++ ")", "end"] = "pact " ++ n ++ "(" ++ j ++ ")" ++ " end" := by
  rw [e_pact, e_end]
  apply tl_inj
  rw [tl_tjoin]
  show TL.joinL (tl " ") [tl "pact", tl (n ++ "(" ++ j ++ ")"), tl "end"] = _
  simp only [TL.joinL, tl_app, List.append_assoc]
theorem tx_cons (n j b : Str) : Txt.join " " ["pact", n ++ "(" ++ j ++ ")", b, "end"] = "pact " ++ n ++ "(" ++ j ++ ")" ++ " " ++ b ++ " end" := by
  rw [e_pact, e_end]
  apply tl_inj
  rw [tl_tjoin]
  show TL.joinL (tl " ") [tl "pact", tl (n ++ "(" ++ j ++ ")"), tl b, tl "end"] = _
  simp only [TL.joinL, tl_app, List.append_assoc]
theorem rd_print_pact : ∀ as κ R E', F_print_pact as κ R E' → a_print_pact K (endsA K κ.length R) (startA N_print_pact as) κ := by
  rintro as κ R E' ⟨p, t, rfl, rfl, ⟨name, ps, body, m, bt, rfl, rfl, hn, hp, h6, hb, hm⟩, h⟩
  have h1 := parts_len hp h6
  have h3 := bodyR_len hb
  have hn' := hn
  unfold nm at hn'
  refine ⟨rfl, pcall_w hn hp h6 ⟨(show 3 ≤ sizeLine by decide), ?_⟩⟩
  refine ⟨fun δ κ => ∃ (ws : List Str) (z : Option AV), δ = [some (.d (pactD name ps body)), z, some (.d (.str name)), some (.d (.tuple (ps.map .str))), some (.d (.tuple body)), some (.c 0)] ∧ κ = [.ld (ws.map .str)] ∧ (ws.map (·.length)).sum ≤ 10000 ∧ ws.length ≤ 4 ∧ Txt.join " " ws = pactT name ps body bt, ?_, ?_⟩
  · cases body with
    | nil => exact ⟨["pact", name ++ "(" ++ Txt.join ", " ps ++ ")", "end"], _, rfl, rfl, by simp only [List.map_cons, List.map_nil, List.sum_cons, List.sum_nil]; (first | omega | (simp only [slen_app, l0, l1, l2, l3, l4, l5, l6, l7, l8, l9, l10, l11, l12, l13, l14, l15, l16, l17, l18, l19, l20, l21] at * <;> omega)), (show 3 ≤ 4 by decide), tx_nil _ _⟩
    | cons b0 body =>
      refine ⟨rfl, bodyT_w hb (by omega) (by decide) ⟨_, rfl, (show 3 < sizeLine by decide), by decide, by decide, ["pact", name ++ "(" ++ Txt.join ", " ps ++ ")", bt, "end"], _, rfl, rfl, ?_, (show 4 ≤ 4 by decide), tx_cons _ _ _⟩⟩
      simp only [List.map_cons, List.map_nil, List.sum_cons, List.sum_nil]; (first | omega | (simp only [slen_app, l0, l1, l2, l3, l4, l5, l6, l7, l8, l9, l10, l11, l12, l13, l14, l15, l16, l17, l18, l19, l20, l21] at * <;> omega))
  · rintro δ κ ⟨ws, z, rfl, rfl, hs, hl, e⟩ _
    refine ⟨rfl, ws, rfl, by rw [l17]; omega, ?_⟩
    rw [e]
    exact ⟨_, _, GhR.take 0 (Nat.le_refl _) (show 0 ≤ 1 by decide) rfl rfl, h⟩
theorem books_sum {bk : List (PyData × Str)} (h : ∀ x ∈ bk, pactR x.1 x.2) : ((bk.map (·.2)).map (·.length)).sum ≤ 2000 * bk.length := by
  rw [List.map_map, ← sum_const]
  exact sum_le fun x hx => pactT_len (h x hx)
def F_print_book : FSp := fun as κ R _ => ∃ bk : List (PyData × Str), as = [.d (.list (bk.map (·.1)))] ∧ κ = [] ∧ (∀ x ∈ bk, pactR x.1 x.2) ∧ bk.length ≤ 10 ∧ R (.d (.str (Txt.join "\n" (bk.map (·.2))))) []
def a_print_book (K : PySem.W.Frag) : AS :=
  (aRet (aBM "str" aJoin (aC (.d (.str "\n"))) (aCons (aLc (aIter (aVar 0)) (aName 1) aYes (aCall F_print_pact (fun _ _ => False) (aCons (aVar 1) aNil)) [1]) aNil)))
theorem len_print_book : ∀ as κ R E', F_print_book as κ R E' → as.length = (["book"] : List Str).length := by
  rintro as κ R E' ⟨p, rfl, _⟩; rfl
theorem pacts_lc {F : FSp} (hF : F = F_pactT) {vs : List Nat} {i0 : Nat} {δ : AD} {κ : AK} {bk : List (PyData × Str)} {Q : AR} (hb : ∀ x ∈ bk, pactR x.1 x.2) (hl : bk.length ≤ 10) (hd : ∀ (a : AV), ((wipeA δ vs).set i0 (some a))[i0]? = some (some a)) (hQ : Q (.d (.list ((bk.map (·.2)).map .str))) κ) :
    LcW (itD (bk.map (·.1))) (aName i0) aYes (aCall F (fun _ _ => False) (aCons (aVar i0) aNil)) vs δ κ Q := by
  subst hF
  refine lc_d (fun i acc κ' => κ' = κ ∧ acc = (bk.take i).map fun x => .str x.2) ⟨rfl, rfl⟩ ?_ ?_
  · rintro acc κ' ⟨rfl, rfl⟩
    rw [List.length_map, List.take_of_length_le (Nat.le_refl _)]
    rw [List.map_map] at hQ; exact hQ
  · rintro i x acc κ' hx' ⟨rfl, rfl⟩
    rw [List.getElem?_map] at hx'
    obtain ⟨y, hy, rfl⟩ := Option.map_eq_some_iff.mp hx'
    have hmem := List.mem_of_getElem? hy
    show aVar i0 ((wipeA δ vs).set i0 (some (.d y.1))) κ' fun a κ1 => _
    unfold aVar
    rw [hd]
    refine pactT_w (hb y hmem) ⟨_, rfl, ?_, rfl, ?_⟩
    · rw [List.length_map, List.length_take]
      exact Nat.lt_of_lt_of_le (show min i bk.length < 1000 by omega) (by decide)
    · rw [List.take_add_one, hy]; simp
theorem rd_print_book : ∀ as κ R E', F_print_book as κ R E' → a_print_book K (endsA K κ.length R) (startA N_print_book as) κ := by
  rintro as κ R E' ⟨bk, rfl, rfl, hb, hl, h⟩
  have hs := books_sum hb
  refine ⟨rfl, pacts_lc rfl hb hl (fun a => rfl) ⟨bk.map (·.2), rfl, by rw [l20, List.length_map]; omega, _, _, GhR.refl (Nat.le_refl _), h⟩⟩
end K08
set_option Elab.async false
set_option linter.all false
set_option maxRecDepth 100000
set_option maxHeartbeats 4000000
namespace K08
open PySem L2 Ab Com
variable {K : PySem.W.Frag}
/-! ### all bodies within -/
def okB (k : Nat) (b : PyData) : Prop := ∃ (j : Nat) (ds : List PyData) (m : Nat) (t : Str), b = .tuple ds ∧ j ≤ k ∧ bodyR j ds m t ∧ m ≤ 100
theorem okB.mono {k k' : Nat} {b : PyData} (h : okB k b) (l : k ≤ k') : okB k' b := by
  obtain ⟨j, ds, m, t, e, h1, h2⟩ := h
  exact ⟨j, ds, m, t, e, Nat.le_trans h1 l, h2⟩
def FF__law_inner (n : Nat) : FSp := fun as κ R _ => ∃ (ds : List PyData) (m : Nat) (t : Str) (k : Nat), as = [.d (.tuple ds)] ∧ κ = [] ∧ bodyR k ds m t ∧ m ≤ 100 ∧ k ≤ n ∧ ∀ res : List PyData, (∀ b ∈ res, okB k b) → res.length ≤ 1 + 5 * m → R (.d (.list res)) []
def a__law_inner (K : PySem.W.Frag) (F_self__law_inner : FSp) : AS :=
  (aSeq (aSet 1 (aLst (aCons (aVar 0) aNil))) (aSeq (aFor (aIter (aVar 0)) (aName 2) (aSeq (aDrop (aBM "list" aAppend (aVar 1) (aCons (aTup (aCons (aVar 2) aNil)) aNil))) (aCut (aIfS (aB (aOp aEq (aOp aIx (aVar 2) (aC (.d (.int 0)))) (aC (.d (.str "loop"))))) (aSet 1 (aOp (aCat true) (aVar 1) (aCall F_self__law_inner (fun _ _ => False) (aCons (aOp aIx (aVar 2) (aC (.d (.int 1)))) aNil)))) aNext) (aIfS (aB (aOp (aIn id) (aOp aIx (aVar 2) (aC (.d (.int 0)))) (aTup (aCons (aC (.d (.str "choice"))) (aCons (aC (.d (.str "both"))) aNil))))) (aFor (aIter (aOp aIx (aVar 2) (aC (.d (.int 1))))) (aName 3) (aSet 1 (aOp (aCat true) (aVar 1) (aCall F_self__law_inner (fun _ _ => False) (aCons (aVar 3) aNil))))) aNext)))) (aRet (aVar 1))))
theorem len__law_inner (n : Nat) : ∀ as κ R E', FF__law_inner n as κ R E' → as.length = (["body"] : List Str).length := by
  rintro as κ R E' ⟨s, m, _, _, rfl, _⟩; rfl
theorem rd0__law_inner {as κ R E'} (h : FF__law_inner 0 as κ R E') : False := by
  obtain ⟨ds, m, t, k, _, _, hb, _, hk, _⟩ := h
  have : k = 0 := by omega
  subst this; exact hb
theorem inner_w {n : Nat} {ds : List PyData} {m : Nat} {t : Str} {k : Nat} {κ : AK} {E : AX → AK → Prop} {R : AR} (hb : bodyR k ds m t) (hm : m ≤ 100) (hk : k ≤ n) (h : ∀ res : List PyData, (∀ b ∈ res, okB k b) → res.length ≤ 1 + 5 * m → R (.d (.list res)) κ) : callW (FF__law_inner n) E [.d (.tuple ds)] κ R :=
  callW_i ⟨[], _, _, .nil, rfl, rfl, ds, m, t, k, rfl, rfl, hb, hm, hk, fun res h1 h2 => ⟨Nat.zero_le _, rfl, rfl, h res h1 h2⟩⟩
theorem ty_ld {κ : AK} {j : Nat} {xs : List PyData} (h : κ[j]? = some (.ld xs)) : tyA "list" (.c j) κ := by
  simp only [tyA, h]
theorem app_ld {κ : AK} {j : Nat} {xs : List PyData} {z : PyData} {R : AR} (h : κ[j]? = some (.ld xs)) (hl : xs.length < sizeLine) (k : R (.d .none) (κ.set j (.ld (xs ++ [z])))) : aAppend (.c j) [.d z] κ R := by
  unfold aAppend
  simp only [h]
  exact ⟨hl, k⟩
theorem drop_app_tup {i i2 j : Nat} {d : PyData} {A : AEnds} {δ : AD} {κ : AK} {xs : List PyData} (hi : δ[i]? = some (some (.c j))) (h2 : δ[i2]? = some (some (.d d))) (hk : κ[j]? = some (.ld xs)) (hl : xs.length < sizeLine) (h : A.nx δ (κ.set j (.ld (xs ++ [.tuple [d]])))) :
    aDrop (aBM "list" aAppend (aVar i) (aCons (aTup (aCons (aVar i2) aNil)) aNil)) A δ κ := by
  simp only [aDrop, aBM, aCons, aTup, aNil, aVar, hi, h2, allD, aAppend, hk]
  exact ⟨ty_ld hk, (show 1 ≤ sizeLine by decide), hl, h⟩
theorem ldOf_c {κ : AK} {j : Nat} {xs : List PyData} (h : κ[j]? = some (.ld xs)) : ldOf κ (.c j) = some xs := by
  simp only [ldOf, h]
theorem set_ld {κ : AK} {j : Nat} {xs ys : List PyData} (h : κ[j]? = some (.ld xs)) : (κ.set j (.ld ys))[j]? = some (.ld ys) := List.getElem?_set_self (List.getElem?_eq_some_iff.mp h).1
theorem snoc_ld {κ : AK} {ys : List PyData} : (κ ++ [.ld ys])[κ.length]? = some (.ld ys) := by simp
theorem GhR_ld {κ : AK} {j : Nat} {xs : List PyData} (h : κ[j]? = some (.ld xs)) : GhR K 0 (.c j) κ (.d (.list xs)) [] := by
  have h1 := (GhR.freeze (K := K) (a := .c j) (Nat.zero_le _) j xs h)
  have e : fzA j (.list xs) (.c j) = .d (.list xs) := if_pos rfl
  rw [e] at h1
  exact h1.trans (GhR.take 0 (Nat.le_refl _) (Nat.zero_le _) rfl rfl)
/-- a word of the walk: the slot tells the cell where the list is -/
def InW (d0 : PyData) (P : List PyData → Prop) (δ : AD) (κ : AK) : Prop := ∃ (j : Nat) (acc : List PyData) (x y : Option AV), δ = [some (.d d0), some (.c j), x, y] ∧ κ[j]? = some (.ld acc) ∧ P acc
theorem okB_one {k : Nat} {d : PyData} {m : Nat} {t : Str} (h : StepR (bodyR k) d m t) (hm : m ≤ 100) : okB (k + 1) (.tuple [d]) :=
  ⟨k + 1, [d], m, _, rfl, Nat.le_refl _, ⟨[(d, m, t)], rfl, fun x hx => by rw [List.mem_singleton.mp hx]; exact h, by simp, rfl⟩, hm⟩
theorem sl1000 {n : Nat} (h : n ≤ 1000) : n < sizeLine := Nat.lt_of_le_of_lt h (by decide)
theorem rd__law_inner (n : Nat) : ∀ as κ R E', FF__law_inner (n + 1) as κ R E' → a__law_inner K (FF__law_inner n) (endsA K κ.length R) (startA N__law_inner as) κ := by
  rintro as κ R E' ⟨ds, m, t, k, rfl, rfl, hb, hm, hk, h⟩
  have hb0 := hb
  have hcnt := bodyR_cnt hb
  cases k with
  | zero => exact hb.elim
  | succ k =>
    obtain ⟨xs, rfl, hx, rfl, rfl⟩ := hb
    have hlx : (xs.map (·.1)).length = xs.length := List.length_map ..
    refine ⟨(show 1 ≤ sizeLine by decide), ?_⟩
    refine for_d (fun i δ κ => InW (.tuple (xs.map (·.1))) (fun acc => (∀ b ∈ acc, okB (k + 1) b) ∧ acc.length ≤ 1 + 5 * ((xs.take i).map (·.2.1)).sum) δ κ)
      ⟨0, [.tuple (xs.map (·.1))], none, none, rfl, rfl, fun b hb => ?_, by simp⟩ ?_ ?_
    · rw [List.mem_singleton.mp hb]
      exact ⟨k + 1, _, _, _, rfl, Nat.le_refl _, hb0, hm⟩
    · rintro δ κ ⟨j, acc, x, y, rfl, hj, hac, hl⟩ _
      rw [hlx, List.take_of_length_le (Nat.le_refl _)] at hl
      exact ⟨_, _, GhR_ld hj, h acc hac hl⟩
    · rintro i x δ κ hx' ⟨j, acc, x2, y, rfl, hj, hac, hl⟩ _
      rw [List.getElem?_map] at hx'
      obtain ⟨⟨d, m, t⟩, hs, rfl⟩ := Option.map_eq_some_iff.mp hx'
      have hmem := List.mem_of_getElem? hs
      have hst : StepR (bodyR k) d m t := hx _ hmem
      have hle : m ≤ (xs.map (·.2.1)).sum := le_sum (fun x => x.2.1) hmem
      have hsum : ((xs.take (i + 1)).map (·.2.1)).sum = ((xs.take i).map (·.2.1)).sum + m := by rw [List.take_add_one, hs]; simp
      have hpre : ((xs.take i).map (·.2.1)).sum + m ≤ (xs.map (·.2.1)).sum := by
        have := congrArg (fun l : List (PyData × Nat × Str) => (l.map (·.2.1)).sum) (List.take_append_drop (i + 1) xs)
        simp only [List.map_append, List.sum_append] at this
        omega
      dsimp only [aName, aSeq]
      refine drop_app_tup (j := j) rfl rfl hj (sl1000 (by omega)) ?_
      have hj1 := set_ld (ys := acc ++ [.tuple [d]]) hj
      have hac1 : ∀ b ∈ acc ++ [.tuple [d]], okB (k + 1) b := fun b hb => by
        rcases List.mem_append.mp hb with q | q
        · exact hac b q
        · rw [List.mem_singleton.mp q]; exact okB_one hst (by omega)
      have hl1 : (acc ++ [PyData.tuple [d]]).length ≤ 2 + 5 * ((xs.take i).map (·.2.1)).sum := by rw [List.length_append]; show acc.length + 1 ≤ _; omega
      generalize acc ++ [PyData.tuple [d]] = acc1 at hj1 hac1 hl1
      generalize κ.set j (.ld acc1) = κ1 at hj1
      have fin : ∀ (j : Nat) (acc : List PyData) (κ : AK) (δ : AD) (x y : Option AV), δ = [some (.d (.tuple (xs.map (·.1)))), some (.c j), x, y] → κ[j]? = some (.ld acc) → (∀ b ∈ acc, okB (k + 1) b) → acc.length ≤ 1 + 5 * (((xs.take i).map (·.2.1)).sum + m) → InW (.tuple (xs.map (·.1))) (fun acc => (∀ b ∈ acc, okB (k + 1) b) ∧ acc.length ≤ 1 + 5 * ((xs.take (i + 1)).map (·.2.1)).sum) δ κ :=
        fun j acc κ δ x y e h1 h2 h3 => ⟨j, acc, x, y, e, h1, h2, by rw [hsum]; exact h3⟩
      cases hst with
      | letter w a b c hw ha hb hc =>
        have n1 : w ≠ "loop" := by rw [hw]; decide +kernel
        have n2 : inD (.str w) [.str "choice", .str "both"] = false := by rw [hw]; decide +kernel
        refine ⟨fun δ κ => δ = [some (.d (.tuple (xs.map (·.1)))), some (.c j), some (.d (.tuple [.str w, .str a, .str b, .str c])), y] ∧ κ[j]? = some (.ld acc1), ⟨.str w, at_nat (j := 0) rfl, bsel_f (decide_eq_false n1) ⟨rfl, hj1⟩⟩, ?_⟩
        rintro δ κ ⟨rfl, hj2⟩ _
        exact ⟨.str w, at_nat (j := 0) rfl, (show 2 ≤ sizeLine by decide), rfl, rfl, bsel_f n2 (fin j acc1 κ _ _ _ rfl hj2 hac1 (by omega))⟩
      | use w nn ps hw hn hp h6 =>
        have n1 : w ≠ "loop" := by rw [hw]; decide +kernel
        have n2 : inD (.str w) [.str "choice", .str "both"] = false := by rw [hw]; decide +kernel
        refine ⟨fun δ κ => δ = [some (.d (.tuple (xs.map (·.1)))), some (.c j), some (.d (.tuple [.str w, .str nn, .tuple (ps.map .str)])), y] ∧ κ[j]? = some (.ld acc1), ⟨.str w, at_nat (j := 0) rfl, bsel_f (decide_eq_false n1) ⟨rfl, hj1⟩⟩, ?_⟩
        rintro δ κ ⟨rfl, hj2⟩ _
        exact ⟨.str w, at_nat (j := 0) rfl, (show 2 ≤ sizeLine by decide), rfl, rfl, bsel_f n2 (fin j acc1 κ _ _ _ rfl hj2 hac1 (by omega))⟩
      | loop w b m0 t0 hw hb =>
        have n2 : inD (.str w) [.str "choice", .str "both"] = false := by rw [hw]; decide +kernel
        refine ⟨fun δ κ => ∃ (j : Nat) (acc : List PyData), δ = [some (.d (.tuple (xs.map (·.1)))), some (.c j), some (.d (.tuple [.str w, .tuple b])), y] ∧ κ[j]? = some (.ld acc) ∧ (∀ b ∈ acc, okB (k + 1) b) ∧ acc.length ≤ 1 + 5 * (((xs.take i).map (·.2.1)).sum + (m0 + 1)), ⟨.str w, at_nat (j := 0) rfl, bsel_t (decide_eq_true hw) ⟨.tuple b, at_nat (j := 1) rfl, ?_⟩⟩, ?_⟩
        · refine inner_w hb (by omega) (by omega) fun res h1 h2 => ⟨acc1, res, ldOf_c hj1, rfl, sl100 (by omega), ?_⟩
          refine ⟨κ1.length, acc1 ++ res, rfl, snoc_ld, fun b hb => ?_, by rw [List.length_append]; omega⟩
          rcases List.mem_append.mp hb with q | q
          · exact hac1 b q
          · exact (h1 b q).mono (Nat.le_succ _)
        · rintro δ κ ⟨j, acc, rfl, hj2, hac2, hl2⟩ _
          exact ⟨.str w, at_nat (j := 0) rfl, (show 2 ≤ sizeLine by decide), rfl, rfl, bsel_f n2 (fin j acc κ _ _ _ rfl hj2 hac2 hl2)⟩
      | br w bs hw hb h3 =>
        have n1 : w ≠ "loop" := by rcases hw with rfl | rfl <;> decide +kernel
        have n2 : inD (.str w) [.str "choice", .str "both"] = true := by rcases hw with rfl | rfl <;> decide +kernel
        have lbs : (bs.map fun x => PyData.tuple x.1).length = bs.length := List.length_map ..
        refine ⟨fun δ κ => δ = [some (.d (.tuple (xs.map (·.1)))), some (.c j), some (.d (.tuple [.str w, .tuple (bs.map fun x => .tuple x.1)])), y] ∧ κ[j]? = some (.ld acc1), ⟨.str w, at_nat (j := 0) rfl, bsel_f (decide_eq_false n1) ⟨rfl, hj1⟩⟩, ?_⟩
        rintro δ κ ⟨rfl, hj2⟩ _
        refine ⟨.str w, at_nat (j := 0) rfl, (show 2 ≤ sizeLine by decide), rfl, rfl, bsel_t n2 ⟨.tuple (bs.map fun x => .tuple x.1), at_nat (j := 1) rfl, ?_⟩⟩
        refine for_d (fun q δ κ => ∃ (j : Nat) (acc : List PyData) (y : Option AV), δ = [some (.d (.tuple (xs.map (·.1)))), some (.c j), some (.d (.tuple [.str w, .tuple (bs.map fun x => .tuple x.1)])), y] ∧ κ[j]? = some (.ld acc) ∧ (∀ b ∈ acc, okB (k + 1) b) ∧ acc.length ≤ 2 + 5 * ((xs.take i).map (·.2.1)).sum + q + 5 * ((bs.take q).map (·.2.1)).sum)
          ⟨j, acc1, y, rfl, hj2, hac1, (by show acc1.length ≤ 2 + 5 * ((xs.take i).map (·.2.1)).sum + 0 + 5 * 0; omega)⟩ ?_ ?_
        · rintro δ κ ⟨j, acc, y, rfl, hj3, hac3, hl3⟩ _
          rw [lbs, List.take_of_length_le (Nat.le_refl _)] at hl3
          exact fin j acc κ _ _ _ rfl hj3 hac3 (by omega)
        · rintro q x δ κ hq ⟨j, acc, y, rfl, hj3, hac3, hl3⟩ _
          rw [List.getElem?_map] at hq
          obtain ⟨b, hbq, rfl⟩ := Option.map_eq_some_iff.mp hq
          have hbm := List.mem_of_getElem? hbq
          have hbl := (List.getElem?_eq_some_iff.mp hbq).1
          have hble : b.2.1 ≤ (bs.map (·.2.1)).sum := le_sum (fun x => x.2.1) hbm
          have hbs : ((bs.take (q + 1)).map (·.2.1)).sum = ((bs.take q).map (·.2.1)).sum + b.2.1 := by rw [List.take_add_one, hbq]; simp
          have hbp : ((bs.take q).map (·.2.1)).sum + b.2.1 ≤ (bs.map (·.2.1)).sum := by
            have := congrArg (fun l : List (List PyData × Nat × Str) => (l.map (·.2.1)).sum) (List.take_append_drop (q + 1) bs)
            simp only [List.map_append, List.sum_append] at this
            omega
          refine inner_w (hb b hbm) (by omega) (by omega) fun res h1 h2 => ⟨acc, res, ldOf_c hj3, rfl, sl100 (by omega), ?_⟩
          refine ⟨κ.length, acc ++ res, _, rfl, snoc_ld, fun b hb => ?_, by rw [List.length_append, hbs]; omega⟩
          rcases List.mem_append.mp hb with z | z
          · exact hac3 b z
          · exact (h1 b z).mono (Nat.le_succ _)
/-! ### the law -/
def a_law (K : PySem.W.Frag) : AS :=
  (aSeq (aSet 1 (aCall Com.F__law_source (fun _ _ => False) (aCons (aVar 0) aNil))) (aSeq (aFor (aRng1 (aCons (aOp aAdd (aC (.d (.int 2))) (aCB aMin2 (aCons (aC (.d (.int 20))) (aCons (aOp aDiv (aCB aLen (aCons (aVar 0) aNil)) (aC (.d (.int 2)))) aNil)))) aNil)) (aName 2) (aSeq (aSet 3 (aCall F__law_book (fun _ _ => False) (aCons (aVar 1) (aCons (aOp aIx (aLstD (aCons (aC (.d (.int 2))) (aCons (aC (.d (.int 3))) (aCons (aC (.d (.int 10))) aNil)))) (aCall Com.F__law_pick (fun _ _ => False) (aCons (aVar 1) (aCons (aC (.d (.int 3))) aNil)))) (aCons (aC (.d (.int 6))) aNil))))) (aSeq (aFor (aIter (aVar 3)) (aName 4) (aSeq (aFor (aIter (aCall (FF__law_inner 10) (fun _ _ => False) (aCons (aOp aIx (aVar 4) (aC (.d (.int 3)))) aNil))) (aName 5) (aIfS (aNot (aTru (aCall Com.F__law_same (fun _ _ => False) (aCons (aCall (FF_print_body 20) (fun _ _ => False) (aCons (aVar 5) aNil)) (aCons (aCall (FF__law_body_text 20) (fun _ _ => False) (aCons (aVar 5) aNil)) aNil))))) (aRet (aC (.d (.bool false)))) aNext)) (aIfS (aNot (aTru (aCall Com.F__law_same (fun _ _ => False) (aCons (aCall F_print_pact (fun _ _ => False) (aCons (aVar 4) aNil)) (aCons (aCall F__law_pact_text (fun _ _ => False) (aCons (aVar 4) aNil)) aNil))))) (aRet (aC (.d (.bool false)))) aNext))) (aIfS (aNot (aTru (aCall Com.F__law_same (fun _ _ => False) (aCons (aCall F_print_book (fun _ _ => False) (aCons (aVar 3) aNil)) (aCons (aBM "str" aJoin (aC (.d (.str "\n"))) (aCons (aLc (aIter (aVar 3)) (aName 4) aYes (aCall F__law_pact_text (fun _ _ => False) (aCons (aVar 4) aNil)) [4]) aNil)) aNil))))) (aRet (aC (.d (.bool false)))) aNext)))) (aRet (aC (.d (.bool true))))))
theorem str_dep (t : Str) : sdep 5 (.str t) := trivial
theorem mosts {w : PyData} (h : w ∈ ([.int 2, .int 3, .int 10] : List PyData)) : ∃ n : Int, w = .int n ∧ 0 < n ∧ n ≤ 10 := by
  simp only [List.mem_cons, List.mem_nil_iff, or_false] at h
  rcases h with rfl | rfl | rfl <;> exact ⟨_, rfl, by omega, by omega⟩
theorem pbook_w {bk : List (PyData × Str)} {κ : AK} {E : AX → AK → Prop} {R : AR} (hb : ∀ x ∈ bk, pactR x.1 x.2) (hl : bk.length ≤ 10) (h : R (.d (.str (Txt.join "\n" (bk.map (·.2))))) κ) : callW F_print_book E [.d (.list (bk.map (·.1)))] κ R :=
  callW_i ⟨[], _, _, .nil, rfl, rfl, bk, rfl, rfl, hb, hl, ⟨Nat.zero_le _, rfl, rfl, h⟩⟩
theorem rd_law : ∀ as κ R E', F_law as κ R E' → a_law K (endsA K κ.length R) (startA N_law as) κ := by
  rintro as κ R E' ⟨ns, rfl, rfl, hn, h⟩
  refine source_w fun s0 hs0 => ?_
  have ln : (ns.map PyData.int).length = ns.length := List.length_map ..
  have hmin : ∀ n : Int, 0 ≤ n → n ≤ 63 → -(2 ^ 62) ≤ 2 + (if n / 2 < 20 then n / 2 else 20) ∧ 2 + (if n / 2 < 20 then n / 2 else 20) < 2 ^ 62 := fun n h0 h1 => by split <;> omega
  obtain ⟨m1, m2⟩ := hmin ((ns.map PyData.int).length : Nat) (by omega) (by omega)
  refine ⟨⟨by decide, by omega⟩, m1, m2, ?_⟩
  refine for_r (fun i δ κ => ∃ (s : Cell) (x2 x3 x4 x5 : Option AV), δ = [some (.d (.list (ns.map .int))), some (.c 0), x2, x3, x4, x5] ∧ κ = [s] ∧ isSrc s) ⟨s0, none, none, none, none, rfl, rfl, hs0⟩ ?_ ?_
  · rintro δ κ ⟨s, x2, x3, x4, x5, rfl, rfl, hs⟩ _
    exact ⟨_, _, GhR.take 0 (Nat.le_refl _) (show 0 ≤ 1 by decide) rfl rfl, h⟩
  · rintro i δ κ hi ⟨s, x2, x3, x4, x5, rfl, rfl, hs⟩ _
    refine ⟨(show 3 ≤ sizeLine by decide), pick_w hs (by decide) (by decide) fun v s1 hs1 h0 h1 => ?_⟩
    obtain ⟨w, hw, hwm, _⟩ := at_mem (xs := ([.int 2, .int 3, .int 10] : List PyData)) h0 h1
    obtain ⟨most, rfl, hm0, hm1⟩ := mosts hwm
    refine ⟨_, hw, book_w hs1 hm0 hm1 fun s2 bk hs2 hb hbl => ?_⟩
    have hsum := books_sum hb
    refine for_d (fun i δ κ => ∃ (x2 x4 x5 : Option AV), δ = [some (.d (.list (ns.map .int))), some (.c 0), x2, some (.d (.list (bk.map (·.1)))), x4, x5] ∧ κ = [s2]) ⟨_, _, _, rfl, rfl⟩ ?_ ?_
    · rintro δ κ ⟨x2, x4, x5, rfl, rfl⟩ _
      refine pbook_w hb hbl ⟨rfl, pacts_lc rfl hb hbl (fun a => rfl) ⟨bk.map (·.2), rfl, by rw [l20, List.length_map]; omega, ?_⟩⟩
      refine same_w (str_dep _) ?_
      exact ⟨s2, _, _, _, _, rfl, rfl, hs2⟩
    · rintro q p δ κ hq ⟨x2, x4, x5, rfl, rfl⟩ _
      rw [List.getElem?_map] at hq
      obtain ⟨⟨p, t⟩, hpq, rfl⟩ := Option.map_eq_some_iff.mp hq
      have hp : pactR p t := hb _ (List.mem_of_getElem? hpq)
      obtain ⟨name, ps, body, m, bt, rfl, ht, hn1, hps, h6, hbd, hm6⟩ := id hp
      refine ⟨.tuple body, at_nat (j := 3) rfl, inner_w hbd (by omega) (by decide) fun res h1 h2 => ?_⟩
      refine for_d (fun r δ κ => ∃ (x2 x5 : Option AV), δ = [some (.d (.list (ns.map .int))), some (.c 0), x2, some (.d (.list (bk.map (·.1)))), some (.d (pactD name ps body)), x5] ∧ κ = [s2]) ⟨_, _, rfl, rfl⟩ ?_ ?_
      · rintro δ κ ⟨x2, x5, rfl, rfl⟩ _
        refine pactT_w hp (pactT_w hp (same_w (str_dep _) ?_))
        exact ⟨_, _, _, rfl, rfl⟩
      · rintro r b δ κ hr ⟨x2, x5, rfl, rfl⟩ _
        obtain ⟨j, ds, mm, tt, rfl, hj, hbj, hmm⟩ := h1 b (List.mem_of_getElem? hr)
        refine bodyT_w hbj hmm (by omega) (bodyT_w hbj hmm (by omega) (same_w (str_dep _) ?_))
        exact ⟨_, _, rfl, rfl⟩
structure Txt (K : PySem.W.Frag) (mg : Str → Option Value) where
  m_bool : mg "bool" = none
  m_int : mg "int" = none
  m_isinstance : mg "isinstance" = none
  m_len : mg "len" = none
  m_list : mg "list" = none
  m_min : mg "min" = none
  m_range : mg "range" = none
  m_str : mg "str" = none
  m_tuple : mg "tuple" = none
  f__law_source : Addr
  fd__law_source : FuncData
  g__law_source : mg "_law_source" = some (.ref f__law_source)
  F__law_source : Fun K "_law_source" "_law_source" s__law_source f__law_source fd__law_source
  b__law_source : Binds K fd__law_source ["script"] []
  f__law_pick : Addr
  fd__law_pick : FuncData
  g__law_pick : mg "_law_pick" = some (.ref f__law_pick)
  F__law_pick : Fun K "_law_pick" "_law_pick" s__law_pick f__law_pick fd__law_pick
  b__law_pick : Binds K fd__law_pick ["source", "many"] []
  f__law_name : Addr
  fd__law_name : FuncData
  g__law_name : mg "_law_name" = some (.ref f__law_name)
  F__law_name : Fun K "_law_name" "_law_name" s__law_name f__law_name fd__law_name
  b__law_name : Binds K fd__law_name ["source", "taken"] []
  f__law_names : Addr
  fd__law_names : FuncData
  g__law_names : mg "_law_names" = some (.ref f__law_names)
  F__law_names : Fun K "_law_names" "_law_names" s__law_names f__law_names fd__law_names
  b__law_names : Binds K fd__law_names ["source", "many", "taken"] []
  f__law_letter : Addr
  fd__law_letter : FuncData
  g__law_letter : mg "_law_letter" = some (.ref f__law_letter)
  F__law_letter : Fun K "_law_letter" "_law_letter" s__law_letter f__law_letter fd__law_letter
  b__law_letter : Binds K fd__law_letter ["source", "world"] []
  f__law_use : Addr
  fd__law_use : FuncData
  g__law_use : mg "_law_use" = some (.ref f__law_use)
  F__law_use : Fun K "_law_use" "_law_use" s__law_use f__law_use fd__law_use
  b__law_use : Binds K fd__law_use ["source", "world"] []
  f__law_step : Addr
  fd__law_step : FuncData
  g__law_step : mg "_law_step" = some (.ref f__law_step)
  F__law_step : Fun K "_law_step" "_law_step" s__law_step f__law_step fd__law_step
  b__law_step : Binds K fd__law_step ["source", "world", "depth"] []
  f__law_body : Addr
  fd__law_body : FuncData
  g__law_body : mg "_law_body" = some (.ref f__law_body)
  F__law_body : Fun K "_law_body" "_law_body" s__law_body f__law_body fd__law_body
  b__law_body : Binds K fd__law_body ["source", "world", "depth"] []
  f__law_book : Addr
  fd__law_book : FuncData
  g__law_book : mg "_law_book" = some (.ref f__law_book)
  F__law_book : Fun K "_law_book" "_law_book" s__law_book f__law_book fd__law_book
  b__law_book : Binds K fd__law_book ["source", "most", "room"] []
  f__law_inner : Addr
  fd__law_inner : FuncData
  g__law_inner : mg "_law_inner" = some (.ref f__law_inner)
  F__law_inner : Fun K "_law_inner" "_law_inner" s__law_inner f__law_inner fd__law_inner
  b__law_inner : Binds K fd__law_inner ["body"] []
  f__law_same : Addr
  fd__law_same : FuncData
  g__law_same : mg "_law_same" = some (.ref f__law_same)
  F__law_same : Fun K "_law_same" "_law_same" s__law_same f__law_same fd__law_same
  b__law_same : Binds K fd__law_same ["actual", "due"] []
  f__print_call : Addr
  fd__print_call : FuncData
  g__print_call : mg "_print_call" = some (.ref f__print_call)
  F__print_call : Fun K "_print_call" "_print_call" s__print_call f__print_call fd__print_call
  b__print_call : Binds K fd__print_call ["name", "parties"] []
  f_print_braces : Addr
  fd_print_braces : FuncData
  g_print_braces : mg "print_braces" = some (.ref f_print_braces)
  F_print_braces : Fun K "print_braces" "print_braces" s_print_braces f_print_braces fd_print_braces
  b_print_braces : Binds K fd_print_braces ["word", "texts"] []
  f_print_step : Addr
  fd_print_step : FuncData
  g_print_step : mg "print_step" = some (.ref f_print_step)
  F_print_step : Fun K "print_step" "print_step" s_print_step f_print_step fd_print_step
  b_print_step : Binds K fd_print_step ["step"] []
  f_print_body : Addr
  fd_print_body : FuncData
  g_print_body : mg "print_body" = some (.ref f_print_body)
  F_print_body : Fun K "print_body" "print_body" s_print_body f_print_body fd_print_body
  b_print_body : Binds K fd_print_body ["body"] []
  f_print_pact : Addr
  fd_print_pact : FuncData
  g_print_pact : mg "print_pact" = some (.ref f_print_pact)
  F_print_pact : Fun K "print_pact" "print_pact" s_print_pact f_print_pact fd_print_pact
  b_print_pact : Binds K fd_print_pact ["pact"] []
  f_print_book : Addr
  fd_print_book : FuncData
  g_print_book : mg "print_book" = some (.ref f_print_book)
  F_print_book : Fun K "print_book" "print_book" s_print_book f_print_book fd_print_book
  b_print_book : Binds K fd_print_book ["book"] []
  f__law_step_text : Addr
  fd__law_step_text : FuncData
  g__law_step_text : mg "_law_step_text" = some (.ref f__law_step_text)
  F__law_step_text : Fun K "_law_step_text" "_law_step_text" s__law_step_text f__law_step_text fd__law_step_text
  b__law_step_text : Binds K fd__law_step_text ["step"] []
  f__law_body_text : Addr
  fd__law_body_text : FuncData
  g__law_body_text : mg "_law_body_text" = some (.ref f__law_body_text)
  F__law_body_text : Fun K "_law_body_text" "_law_body_text" s__law_body_text f__law_body_text fd__law_body_text
  b__law_body_text : Binds K fd__law_body_text ["body"] []
  f__law_pact_text : Addr
  fd__law_pact_text : FuncData
  g__law_pact_text : mg "_law_pact_text" = some (.ref f__law_pact_text)
  F__law_pact_text : Fun K "_law_pact_text" "_law_pact_text" s__law_pact_text f__law_pact_text fd__law_pact_text
  b__law_pact_text : Binds K fd__law_pact_text ["pact"] []
  f_law : Addr
  fd_law : FuncData
  g_law : mg "law" = some (.ref f_law)
  F_law : Fun K "law" "law" s_law f_law fd_law
  b_law : Binds K fd_law ["script"] []
section
variable {P : Program} {w : World} {K : PySem.W.Frag} {mg : Str → Option Value} {base : Heap}
theorem ok__law_source (T : Txt K mg)  : FnOk P w K mg base CX0 1 T.f__law_source T.fd__law_source ["script"] (spA K Com.F__law_source) :=
  fn_ok T.F__law_source sc__law_source Com.len__law_source fun cdv A outer s H E hr => ⟨_, Com.a__law_source K, (sa_one (sa_ret (ea_lst (aa_cons (ea_ct (ca_list false) (by rfl) T.m_list (by decide +kernel) (aa_cons (av 0) aa_nil)) (aa_cons ea_int (aa_cons ea_int (aa_cons ea_int aa_nil))))))), Com.rd__law_source⟩
theorem ok__law_pick (T : Txt K mg)  : FnOk P w K mg base CX0 1 T.f__law_pick T.fd__law_pick ["source", "many"] (spA K Com.F__law_pick) :=
  fn_ok T.F__law_pick sc__law_pick Com.len__law_pick fun cdv A outer s H E hr => ⟨_, Com.a__law_pick K, (sa_cut (sa_if (PWa.pt (wa_and (ta_cmp (oa_eq hr) (ea_ix (av 0) ea_int) ea_int) (wa_and1 (ta_cmp oa_lt (ea_ix (av 0) ea_int) (ea_cb ca_len (by rfl) T.m_len (by decide +kernel) (aa_cons (ea_ix (av 0) ea_int) aa_nil)))))) (sa_cons (sa_set (i := 2) sc__law_pick.nd rfl (Or.inl rfl) (ea_ix (ea_ix (av 0) ea_int) (ea_ix (av 0) ea_int))) (sa_cons (sa_asg (ea_op oa_add (ea_ix (av 0) ea_int) ea_int) (ga_sub (av 0) ea_int sta_list)) (sa_one (sa_if (ta_cmp oa_gt (av 2) (ea_op oa_pow ea_int ea_int)) (sa_one (sa_asg (ea_op oa_sub (av 2) (ea_op oa_pow ea_int ea_int)) (ga_sub (av 0) ea_int sta_list))) (sa_one (sa_asg (ea_op oa_mod (ea_ct ca_int (by rfl) T.m_int (by decide +kernel) (aa_cons (ea_op oa_add (ea_op oa_mul (ea_ix (av 0) ea_int) ea_int) (av 2)) aa_nil)) ea_int) (ga_sub (av 0) ea_int sta_list))))))) sa_nil) (sa_cons (sa_if (ta_cmp oa_gt (ea_ix (av 0) ea_int) ea_int) (sa_cons (sa_set (i := 3) sc__law_pick.nd rfl (Or.inl rfl) (ea_op oa_mod (ea_ct ca_int (by rfl) T.m_int (by decide +kernel) (aa_cons (ea_ix (av 0) ea_int) aa_nil)) (av 1))) (sa_cons (sa_asg (ea_op oa_div (ea_ix (av 0) ea_int) (av 1)) (ga_sub (av 0) ea_int sta_list)) (sa_one (sa_ret (av 3))))) sa_nil) (sa_cons (sa_asg (ea_op oa_mod (ea_ct ca_int (by rfl) T.m_int (by decide +kernel) (aa_cons (ea_op oa_add (ea_op oa_mul (ea_ix (av 0) ea_int) ea_int) ea_int) aa_nil)) ea_int) (ga_sub (av 0) ea_int sta_list)) (sa_cons (sa_set (i := 4) sc__law_pick.nd rfl (Or.inl rfl) (ea_op oa_mul (ea_op oa_mul (ea_op oa_add (ea_op oa_mod (ea_ct ca_int (by rfl) T.m_int (by decide +kernel) (aa_cons (ea_ix (av 0) ea_int) aa_nil)) ea_int) ea_int) (ea_op oa_add (ea_op oa_div (ea_ix (av 0) ea_int) ea_int) ea_int)) ea_int)) (sa_one (sa_ret (ea_op oa_mod (ea_op oa_div (ea_op oa_mod (ea_ct ca_int (by rfl) T.m_int (by decide +kernel) (aa_cons (av 4) aa_nil)) ea_int) ea_int) (av 1)))))))), Com.rd__law_pick⟩
theorem ok__law_name (T : Txt K mg) (G__law_pick : FnOk P w K mg base CX0 1 T.f__law_pick T.fd__law_pick ["source", "many"] (spA K Com.F__law_pick)) : FnOk P w K mg base CX0 2 T.f__law_name T.fd__law_name ["source", "taken"] (spA K Com.F__law_name) :=
  fn_ok T.F__law_name sc__law_name Com.len__law_name fun cdv A outer s H E hr => ⟨_, Com.a__law_name K, (sa_cons (sa_set (i := 2) sc__law_name.nd rfl (Or.inl rfl) ea_str) (sa_cons (sa_set (i := 3) sc__law_name.nd rfl (Or.inl rfl) (ea_ix (av 2) (ea_call (G__law_pick.mono (k := 1) (by decide)) hr (by rfl) T.g__law_pick T.F__law_pick.kp T.b__law_pick (aa_cons (av 0) (aa_cons ea_int aa_nil))))) (sa_cons (sa_for PassesOwn.never rfl (ia_rng1 (by rfl) T.m_range (aa_cons (ea_ix (ea_lstD (aa_cons ea_int (aa_cons ea_int (aa_cons ea_int (aa_cons ea_int (aa_cons (ea_call (G__law_pick.mono (k := 1) (by decide)) hr (by rfl) T.g__law_pick T.F__law_pick.kp T.b__law_pick (aa_cons (av 0) (aa_cons ea_int aa_nil))) aa_nil)))))) (ea_call (G__law_pick.mono (k := 1) (by decide)) hr (by rfl) T.g__law_pick T.F__law_pick.kp T.b__law_pick (aa_cons (av 0) (aa_cons ea_int aa_nil)))) aa_nil)) (ga_name (i := 4) sc__law_name.nd rfl (Or.inl rfl)) (sa_one (sa_set (i := 3) sc__law_name.nd rfl (Or.inl rfl) (ea_op oa_add (av 3) (ea_ix (av 2) (ea_call (G__law_pick.mono (k := 1) (by decide)) hr (by rfl) T.g__law_pick T.F__law_pick.kp T.b__law_pick (aa_cons (av 0) (aa_cons ea_int aa_nil)))))))) (sa_cons (sa_if (PWa.pt (wa_or (ta_cmp oa_in (av 3) (av 1)) (wa_or1 (ta_cmp oa_in (av 3) (ea_tup (aa_cons ea_str (aa_cons ea_str (aa_cons ea_str (aa_cons ea_str (aa_cons ea_str (aa_cons ea_str aa_nil))))))))))) (sa_cons (sa_setLc (i := 5) (own := [("k", 4)]) rfl sc__law_name.nd rfl rfl (sw_true rfl rfl rfl (by decide +kernel)) (ia_rng1 (by rfl) T.m_range (aa_cons (ea_op oa_add (ea_cb ca_len (by rfl) T.m_len (by decide +kernel) (aa_cons (av 1) aa_nil)) ea_int) aa_nil)) (blkOk_by (own := [("k", 4)]) (N := Com.N__law_name) (sc := defScope s__law_name) (by decide +kernel)) (fun _ _ _ _ _ => (pg_name (i := 4) sc__law_name.nd rfl (Or.inl rfl))) (sgw_name (by decide)) (fun _ _ _ _ _ => tsa_nil) (fun _ _ _ _ _ => (ea_op oa_add ea_str (ea_ct ca_str (by rfl) T.m_str (by decide +kernel) (aa_cons (av 4) aa_nil))))) (sa_one (sa_ret (ea_ix (ea_lc (own := [("one", 6)]) rfl sc__law_name.nd (ia_any (av 5)) (blkOk_by (own := [("one", 6)]) (N := Com.N__law_name) (sc := defScope s__law_name) (by decide +kernel)) (fun _ _ _ _ _ => (pg_name (i := 6) sc__law_name.nd rfl (Or.inl rfl))) (sgw_name (by decide)) (fun _ _ _ _ _ => (tsa_one (ta_cmp oa_notin (av 6) (av 1)))) (fun _ _ _ _ _ => (av 6))) ea_int)))) sa_nil) (sa_one (sa_ret (av 3))))))), Com.rd__law_name⟩
theorem ok__law_names (T : Txt K mg) (G__law_name : FnOk P w K mg base CX0 2 T.f__law_name T.fd__law_name ["source", "taken"] (spA K Com.F__law_name)) : FnOk P w K mg base CX0 3 T.f__law_names T.fd__law_names ["source", "many", "taken"] (spA K F__law_names) :=
  fn_ok T.F__law_names sc__law_names len__law_names fun cdv A outer s H E hr => ⟨_, a__law_names K, (sa_cons (sa_set (i := 3) sc__law_names.nd rfl (Or.inl rfl) (ea_lst aa_nil)) (sa_cons (sa_for PassesOwn.never rfl (ia_rng1 (by rfl) T.m_range (aa_cons (av 1) aa_nil)) (ga_name (i := 4) sc__law_names.nd rfl (Or.inl rfl)) (sa_one (sa_drop (ea_bm ma_append PySem.F.plainAttrs_list PySem.F.slot_list_append PySem.F.type_list_append (av 3) (aa_cons (ea_call (G__law_name.mono (k := 2) (by decide)) hr (by rfl) T.g__law_name T.F__law_name.kp T.b__law_name (aa_cons (av 0) (aa_cons (ea_op (oa_cat false) (av 3) (av 2)) aa_nil))) aa_nil))))) (sa_one (sa_ret (av 3))))), rd__law_names⟩
theorem ok__law_letter (T : Txt K mg) (G__law_pick : FnOk P w K mg base CX0 1 T.f__law_pick T.fd__law_pick ["source", "many"] (spA K Com.F__law_pick)) : FnOk P w K mg base CX0 2 T.f__law_letter T.fd__law_letter ["source", "world"] (spA K F__law_letter) :=
  fn_ok T.F__law_letter sc__law_letter len__law_letter fun cdv A outer s H E hr => ⟨_, a__law_letter K, (sa_cons (sa_set (i := 2) sc__law_letter.nd rfl (Or.inl rfl) (ea_dget hr (av 1) ea_str)) (sa_cons (sa_if (ta_cmp oa_lt (ea_cb ca_len (by rfl) T.m_len (by decide +kernel) (aa_cons (av 2) aa_nil)) ea_int) (sa_one (sa_ret ea_non)) sa_nil) (sa_cons (sa_set (i := 3) sc__law_letter.nd rfl (Or.inl rfl) (ea_call (G__law_pick.mono (k := 1) (by decide)) hr (by rfl) T.g__law_pick T.F__law_pick.kp T.b__law_pick (aa_cons (av 0) (aa_cons (ea_cb ca_len (by rfl) T.m_len (by decide +kernel) (aa_cons (av 2) aa_nil)) aa_nil)))) (sa_cons (sa_set (i := 4) sc__law_letter.nd rfl (Or.inl rfl) (ea_op oa_mod (ea_ct ca_int (by rfl) T.m_int (by decide +kernel) (aa_cons (ea_op oa_add (ea_op oa_add (av 3) ea_int) (ea_call (G__law_pick.mono (k := 1) (by decide)) hr (by rfl) T.g__law_pick T.F__law_pick.kp T.b__law_pick (aa_cons (av 0) (aa_cons (ea_op oa_sub (ea_cb ca_len (by rfl) T.m_len (by decide +kernel) (aa_cons (av 2) aa_nil)) ea_int) aa_nil)))) aa_nil)) (ea_cb ca_len (by rfl) T.m_len (by decide +kernel) (aa_cons (av 2) aa_nil)))) (sa_one (sa_ret (ea_tup (aa_cons ea_str (aa_cons (ea_ix (av 2) (av 3)) (aa_cons (ea_ix (av 2) (av 4)) (aa_cons (ea_ix (ea_dget hr (av 1) ea_str) (ea_call (G__law_pick.mono (k := 1) (by decide)) hr (by rfl) T.g__law_pick T.F__law_pick.kp T.b__law_pick (aa_cons (av 0) (aa_cons (ea_cb ca_len (by rfl) T.m_len (by decide +kernel) (aa_cons (ea_dget hr (av 1) ea_str) aa_nil)) aa_nil)))) aa_nil))))))))))), rd__law_letter⟩
theorem ok__law_use (T : Txt K mg) (G__law_pick : FnOk P w K mg base CX0 1 T.f__law_pick T.fd__law_pick ["source", "many"] (spA K Com.F__law_pick)) : FnOk P w K mg base CX0 2 T.f__law_use T.fd__law_use ["source", "world"] (spA K F__law_use) :=
  fn_ok T.F__law_use sc__law_use len__law_use fun cdv A outer s H E hr => ⟨_, a__law_use K, (sa_cons (sa_setLc (i := 2) (own := [("one", 8)]) rfl sc__law_use.nd rfl rfl (sw_true rfl rfl rfl (by decide +kernel)) (ia_any (ea_dget hr (av 1) ea_str)) (blkOk_by (own := [("one", 8)]) (N := N__law_use) (sc := defScope s__law_use) (by decide +kernel)) (fun _ _ _ _ _ => (pg_name (i := 8) sc__law_use.nd rfl (Or.inl rfl))) (sgw_name (by decide)) (fun _ _ _ _ _ => (tsa_one (ta_cmp oa_le (ea_ix (av 8) ea_int) (ea_cb ca_len (by rfl) T.m_len (by decide +kernel) (aa_cons (ea_dget hr (av 1) ea_str) aa_nil))))) (fun _ _ _ _ _ => (av 8))) (sa_cons (sa_if (ta_not (ta_tru (av 2))) (sa_one (sa_ret ea_non)) sa_nil) (sa_cons (sa_asg (ea_ix (av 2) (ea_call (G__law_pick.mono (k := 1) (by decide)) hr (by rfl) T.g__law_pick T.F__law_pick.kp T.b__law_pick (aa_cons (av 0) (aa_cons (ea_cb ca_len (by rfl) T.m_len (by decide +kernel) (aa_cons (av 2) aa_nil)) aa_nil)))) (ga_tup rfl (gsa_cons (ga_name (i := 3) sc__law_use.nd rfl (Or.inl rfl)) (gsa_cons (ga_name (i := 4) sc__law_use.nd rfl (Or.inl rfl)) gsa_nil)))) (sa_cons (sa_set (i := 5) sc__law_use.nd rfl (Or.inl rfl) (ea_ct (ca_list true) (by rfl) T.m_list (by decide +kernel) (aa_cons (ea_dget hr (av 1) ea_str) aa_nil))) (sa_cons (sa_set (i := 6) sc__law_use.nd rfl (Or.inl rfl) (ea_lst aa_nil)) (sa_cons (sa_for PassesOwn.never rfl (ia_rng1 (by rfl) T.m_range (aa_cons (av 4) aa_nil)) (ga_name (i := 7) sc__law_use.nd rfl (Or.inl rfl)) (sa_one (sa_drop (ea_bm ma_append PySem.F.plainAttrs_list PySem.F.slot_list_append PySem.F.type_list_append (av 6) (aa_cons (ea_bm ma_popAt PySem.F.plainAttrs_list PySem.F.slot_list_pop PySem.F.type_list_pop (av 5) (aa_cons (ea_call (G__law_pick.mono (k := 1) (by decide)) hr (by rfl) T.g__law_pick T.F__law_pick.kp T.b__law_pick (aa_cons (av 0) (aa_cons (ea_cb ca_len (by rfl) T.m_len (by decide +kernel) (aa_cons (av 5) aa_nil)) aa_nil))) aa_nil)) aa_nil))))) (sa_one (sa_ret (ea_tup (aa_cons ea_str (aa_cons (av 3) (aa_cons (ea_ct ca_tuple (by rfl) T.m_tuple (by decide +kernel) (aa_cons (av 6) aa_nil)) aa_nil)))))))))))), rd__law_use⟩
theorem okg__law_step (T : Txt K mg) (G__law_pick : FnOk P w K mg base CX0 1 T.f__law_pick T.fd__law_pick ["source", "many"] (spA K Com.F__law_pick)) (G__law_letter : FnOk P w K mg base CX0 2 T.f__law_letter T.fd__law_letter ["source", "world"] (spA K F__law_letter)) (G__law_use : FnOk P w K mg base CX0 2 T.f__law_use T.fd__law_use ["source", "world"] (spA K F__law_use)) : ∀ n : Nat, FnOk P w K mg base CX0 (n + 3) T.f__law_step T.fd__law_step ["source", "world", "depth"] (spA K (FF__law_step n)) ∧ FnOk P w K mg base CX0 (n + 3) T.f__law_body T.fd__law_body ["source", "world", "depth"] (spA K (FF__law_body n))
  | 0 => ⟨fn_ok T.F__law_step sc__law_step (len__law_step 0) fun cdv A outer s H E hr => ⟨_, aNever, sa_nevers, fun as κ R E' h => (rd0__law_step h).elim⟩, fn_ok T.F__law_body sc__law_body (len__law_body 0) fun cdv A outer s H E hr => ⟨_, aNever, sa_nevers, fun as κ R E' h => (rd0__law_body h).elim⟩⟩
  | n + 1 => by
    obtain ⟨G_self__law_step, G_self__law_body⟩ := okg__law_step T G__law_pick G__law_letter G__law_use n
    exact ⟨fn_ok T.F__law_step sc__law_step (len__law_step (n + 1)) fun cdv A outer s H E hr => ⟨_, a__law_step K (FF__law_body n), (sa_cons (sa_set (i := 3) sc__law_step.nd rfl (Or.inl rfl) (ea_call (G__law_pick.mono (k := n + 3) (by omega)) hr (by rfl) T.g__law_pick T.F__law_pick.kp T.b__law_pick (aa_cons (av 0) (aa_cons ea_int aa_nil)))) (sa_cut (sa_if (PWa.pt (wa_and (ta_cmp oa_gt (av 3) ea_int) (wa_and (ta_cmp oa_lt (av 3) ea_int) (wa_and1 (ta_cmp oa_lt (av 2) (ea_dget hr (av 1) ea_str)))))) (sa_cons (sa_if (ta_cmp (oa_eq hr) (av 3) ea_int) (sa_one (sa_ret (ea_tup (aa_cons ea_str (aa_cons (ea_call G_self__law_body hr (by rfl) T.g__law_body T.F__law_body.kp T.b__law_body (aa_cons (av 0) (aa_cons (av 1) (aa_cons (ea_op oa_add (av 2) ea_int) aa_nil)))) aa_nil))))) sa_nil) (sa_cons (sa_setLc (i := 4) (own := [("k", 6)]) rfl sc__law_step.nd rfl rfl (sw_true rfl rfl rfl (by decide +kernel)) (ia_rng1 (by rfl) T.m_range (aa_cons (ea_op oa_add ea_int (ea_call (G__law_pick.mono (k := n + 3) (by omega)) hr (by rfl) T.g__law_pick T.F__law_pick.kp T.b__law_pick (aa_cons (av 0) (aa_cons ea_int aa_nil)))) aa_nil)) (blkOk_by (own := [("k", 6)]) (N := N__law_step) (sc := defScope s__law_step) (by decide +kernel)) (fun _ _ _ _ _ => (pg_name (i := 6) sc__law_step.nd rfl (Or.inl rfl))) (sgw_name (by decide)) (fun _ _ _ _ _ => tsa_nil) (fun _ _ _ _ _ => (ea_call G_self__law_body hr (by rfl) T.g__law_body T.F__law_body.kp T.b__law_body (aa_cons (av 0) (aa_cons (av 1) (aa_cons (ea_op oa_add (av 2) ea_int) aa_nil)))))) (sa_one (sa_ret (ea_tup (aa_cons (ea_ix (ea_lstD (aa_cons ea_str (aa_cons ea_str aa_nil))) (ea_op oa_sub (av 3) ea_int)) (aa_cons (ea_ct ca_tuple (by rfl) T.m_tuple (by decide +kernel) (aa_cons (av 4) aa_nil)) aa_nil))))))) sa_nil) (sa_cut (sa_if (ta_cmp (oa_eq hr) (av 3) ea_int) (sa_cons (sa_set (i := 5) sc__law_step.nd rfl (Or.inl rfl) (ea_call (G__law_use.mono (k := n + 3) (by omega)) hr (by rfl) T.g__law_use T.F__law_use.kp T.b__law_use (aa_cons (av 0) (aa_cons (av 1) aa_nil)))) (sa_one (sa_if (ta_cmp oa_isnot (av 5) ea_non) (sa_one (sa_ret (av 5))) sa_nil))) sa_nil) (sa_one (sa_ret (ea_call (G__law_letter.mono (k := n + 3) (by omega)) hr (by rfl) T.g__law_letter T.F__law_letter.kp T.b__law_letter (aa_cons (av 0) (aa_cons (av 1) aa_nil)))))))), rd__law_step n⟩, fn_ok T.F__law_body sc__law_body (len__law_body (n + 1)) fun cdv A outer s H E hr => ⟨_, a__law_body K (FF__law_step n), (sa_cons (sa_set (i := 3) sc__law_body.nd rfl (Or.inl rfl) (ea_lst aa_nil)) (sa_cons (sa_for PassesOwn.never rfl (ia_rng1 (by rfl) T.m_range (aa_cons (ea_call (G__law_pick.mono (k := n + 3) (by omega)) hr (by rfl) T.g__law_pick T.F__law_pick.kp T.b__law_pick (aa_cons (av 0) (aa_cons ea_int aa_nil))) aa_nil)) (ga_name (i := 4) sc__law_body.nd rfl (Or.inl rfl)) (sa_one (sa_if (ta_cmp oa_gt (ea_dget hr (av 1) ea_str) ea_int) (sa_cons (sa_dput hr (av 1) ea_str (ea_op oa_sub (ea_dget hr (av 1) ea_str) ea_int)) (sa_cons (sa_set (i := 5) sc__law_body.nd rfl (Or.inl rfl) (ea_call G_self__law_step hr (by rfl) T.g__law_step T.F__law_step.kp T.b__law_step (aa_cons (av 0) (aa_cons (av 1) (aa_cons (av 2) aa_nil))))) (sa_one (sa_if (ta_cmp oa_isnot (av 5) ea_non) (sa_one (sa_drop (ea_bm ma_append PySem.F.plainAttrs_list PySem.F.slot_list_append PySem.F.type_list_append (av 3) (aa_cons (av 5) aa_nil)))) sa_nil)))) sa_nil))) (sa_one (sa_ret (ea_ct ca_tuple (by rfl) T.m_tuple (by decide +kernel) (aa_cons (av 3) aa_nil)))))), rd__law_body n⟩⟩
theorem ok__law_step (T : Txt K mg) (G__law_pick : FnOk P w K mg base CX0 1 T.f__law_pick T.fd__law_pick ["source", "many"] (spA K Com.F__law_pick)) (G__law_letter : FnOk P w K mg base CX0 2 T.f__law_letter T.fd__law_letter ["source", "world"] (spA K F__law_letter)) (G__law_use : FnOk P w K mg base CX0 2 T.f__law_use T.fd__law_use ["source", "world"] (spA K F__law_use)) : FnOk P w K mg base CX0 23 T.f__law_step T.fd__law_step ["source", "world", "depth"] (spA K (FF__law_step 20)) :=
  (okg__law_step T G__law_pick G__law_letter G__law_use 20).1
theorem ok__law_body (T : Txt K mg) (G__law_pick : FnOk P w K mg base CX0 1 T.f__law_pick T.fd__law_pick ["source", "many"] (spA K Com.F__law_pick)) (G__law_letter : FnOk P w K mg base CX0 2 T.f__law_letter T.fd__law_letter ["source", "world"] (spA K F__law_letter)) (G__law_use : FnOk P w K mg base CX0 2 T.f__law_use T.fd__law_use ["source", "world"] (spA K F__law_use)) : FnOk P w K mg base CX0 23 T.f__law_body T.fd__law_body ["source", "world", "depth"] (spA K (FF__law_body 20)) :=
  (okg__law_step T G__law_pick G__law_letter G__law_use 20).2
theorem ok__law_book (T : Txt K mg) (G__law_names : FnOk P w K mg base CX0 3 T.f__law_names T.fd__law_names ["source", "many", "taken"] (spA K F__law_names)) (G__law_body : FnOk P w K mg base CX0 23 T.f__law_body T.fd__law_body ["source", "world", "depth"] (spA K (FF__law_body 20))) (G__law_pick : FnOk P w K mg base CX0 1 T.f__law_pick T.fd__law_pick ["source", "many"] (spA K Com.F__law_pick)) : FnOk P w K mg base CX0 24 T.f__law_book T.fd__law_book ["source", "most", "room"] (spA K F__law_book) :=
  fn_ok T.F__law_book sc__law_book len__law_book fun cdv A outer s H E hr => ⟨_, a__law_book K, (sa_cons (sa_set (i := 3) sc__law_book.nd rfl (Or.inl rfl) (ea_lst aa_nil)) (sa_cons (sa_set (i := 4) sc__law_book.nd rfl (Or.inl rfl) (ea_call (G__law_names.mono (k := 23) (by decide)) hr (by rfl) T.g__law_names T.F__law_names.kp T.b__law_names (aa_cons (av 0) (aa_cons (ea_op oa_add ea_int (ea_call (G__law_pick.mono (k := 23) (by decide)) hr (by rfl) T.g__law_pick T.F__law_pick.kp T.b__law_pick (aa_cons (av 0) (aa_cons (av 1) aa_nil)))) (aa_cons (ea_lstD aa_nil) aa_nil))))) (sa_cons (sa_set (i := 5) sc__law_book.nd rfl (Or.inl rfl) (ea_lstD aa_nil)) (sa_cons (sa_for PassesOwn.never rfl (ia_any (av 4)) (ga_name (i := 6) sc__law_book.nd rfl (Or.inl rfl)) (sa_cons (sa_set (i := 7) sc__law_book.nd rfl (Or.inl rfl) (ea_disp (pa_pcons ea_str (ea_call (G__law_names.mono (k := 23) (by decide)) hr (by rfl) T.g__law_names T.F__law_names.kp T.b__law_names (aa_cons (av 0) (aa_cons (ea_op oa_add ea_int (ea_call (G__law_pick.mono (k := 23) (by decide)) hr (by rfl) T.g__law_pick T.F__law_pick.kp T.b__law_pick (aa_cons (av 0) (aa_cons ea_int aa_nil)))) (aa_cons (ea_lstD aa_nil) aa_nil)))) (pa_pcons ea_str (av 5) (pa_pcons ea_str (av 2) pa_pnil))))) (sa_cons (sa_dput hr (av 7) ea_str (ea_call (G__law_names.mono (k := 23) (by decide)) hr (by rfl) T.g__law_names T.F__law_names.kp T.b__law_names (aa_cons (av 0) (aa_cons (ea_op oa_add ea_int (ea_call (G__law_pick.mono (k := 23) (by decide)) hr (by rfl) T.g__law_pick T.F__law_pick.kp T.b__law_pick (aa_cons (av 0) (aa_cons ea_int aa_nil)))) (aa_cons (ea_lstD aa_nil) aa_nil))))) (sa_cons (sa_dput hr (av 7) ea_str (ea_ix (ea_lstD (aa_cons ea_int (aa_cons ea_int (aa_cons ea_int (aa_cons ea_int aa_nil))))) (ea_call (G__law_pick.mono (k := 23) (by decide)) hr (by rfl) T.g__law_pick T.F__law_pick.kp T.b__law_pick (aa_cons (av 0) (aa_cons ea_int aa_nil))))) (sa_cons (sa_set (i := 8) sc__law_book.nd rfl (Or.inl rfl) (ea_call (G__law_body.mono (k := 23) (by decide)) hr (by rfl) T.g__law_body T.F__law_body.kp T.b__law_body (aa_cons (av 0) (aa_cons (av 7) (aa_cons ea_int aa_nil))))) (sa_cut (sa_if (ta_cmp oa_gt (ea_call (G__law_pick.mono (k := 23) (by decide)) hr (by rfl) T.g__law_pick T.F__law_pick.kp T.b__law_pick (aa_cons (av 0) (aa_cons ea_int aa_nil))) ea_int) (sa_one (sa_set (i := 8) sc__law_book.nd rfl (Or.inl rfl) (ea_op oa_add (av 8) (ea_call (G__law_body.mono (k := 23) (by decide)) hr (by rfl) T.g__law_body T.F__law_body.kp T.b__law_body (aa_cons (av 0) (aa_cons (av 7) (aa_cons ea_int aa_nil))))))) sa_nil) (sa_cons (sa_drop (ea_bm ma_append PySem.F.plainAttrs_list PySem.F.slot_list_append PySem.F.type_list_append (av 3) (aa_cons (ea_tup (aa_cons ea_str (aa_cons (av 6) (aa_cons (ea_ct ca_tuple (by rfl) T.m_tuple (by decide +kernel) (aa_cons (ea_dget hr (av 7) ea_str) aa_nil)) (aa_cons (av 8) aa_nil))))) aa_nil))) (sa_cons (sa_set (i := 5) sc__law_book.nd rfl (Or.inl rfl) (ea_op (oa_cat false) (av 5) (ea_lstD (aa_cons (ea_tup (aa_cons (av 6) (aa_cons (ea_cb ca_len (by rfl) T.m_len (by decide +kernel) (aa_cons (ea_dget hr (av 7) ea_str) aa_nil)) aa_nil))) aa_nil)))) (sa_gh sa_nil))))))))) (sa_one (sa_ret (av 3))))))), rd__law_book⟩
theorem okg__law_inner (T : Txt K mg)  : ∀ n : Nat, FnOk P w K mg base CX0 (n + 1) T.f__law_inner T.fd__law_inner ["body"] (spA K (FF__law_inner n))
  | 0 => fn_ok T.F__law_inner sc__law_inner (len__law_inner 0) fun cdv A outer s H E hr => ⟨_, aNever, sa_nevers, fun as κ R E' h => (rd0__law_inner h).elim⟩
  | n + 1 => by
    obtain G_self__law_inner := okg__law_inner T  n
    exact fn_ok T.F__law_inner sc__law_inner (len__law_inner (n + 1)) fun cdv A outer s H E hr => ⟨_, a__law_inner K (FF__law_inner n), (sa_cons (sa_set (i := 1) sc__law_inner.nd rfl (Or.inl rfl) (ea_lst (aa_cons (av 0) aa_nil))) (sa_cons (sa_for PassesOwn.never rfl (ia_any (av 0)) (ga_name (i := 2) sc__law_inner.nd rfl (Or.inl rfl)) (sa_cons (sa_drop (ea_bm ma_append PySem.F.plainAttrs_list PySem.F.slot_list_append PySem.F.type_list_append (av 1) (aa_cons (ea_tup (aa_cons (av 2) aa_nil)) aa_nil))) (sa_cut (sa_if (ta_cmp (oa_eq hr) (ea_ix (av 2) ea_int) ea_str) (sa_one (sa_set (i := 1) sc__law_inner.nd rfl (Or.inl rfl) (ea_op (oa_cat true) (av 1) (ea_call G_self__law_inner hr (by rfl) T.g__law_inner T.F__law_inner.kp T.b__law_inner (aa_cons (ea_ix (av 2) ea_int) aa_nil))))) sa_nil) (sa_one (sa_if (ta_cmp oa_in (ea_ix (av 2) ea_int) (ea_tup (aa_cons ea_str (aa_cons ea_str aa_nil)))) (sa_one (sa_for PassesOwn.never rfl (ia_any (ea_ix (av 2) ea_int)) (ga_name (i := 3) sc__law_inner.nd rfl (Or.inl rfl)) (sa_one (sa_set (i := 1) sc__law_inner.nd rfl (Or.inl rfl) (ea_op (oa_cat true) (av 1) (ea_call G_self__law_inner hr (by rfl) T.g__law_inner T.F__law_inner.kp T.b__law_inner (aa_cons (av 3) aa_nil))))))) sa_nil))))) (sa_one (sa_ret (av 1))))), rd__law_inner n⟩
theorem ok__law_inner (T : Txt K mg)  : FnOk P w K mg base CX0 11 T.f__law_inner T.fd__law_inner ["body"] (spA K (FF__law_inner 10)) :=
  (okg__law_inner T  10)
theorem ok__law_same_n (T : Txt K mg)  : ∀ n : Nat, FnOk P w K mg base CX0 (n + 1) T.f__law_same T.fd__law_same ["actual", "due"] (spA K (Com.F_same n))
  | 0 => fn_ok T.F__law_same sc__law_same (Com.len__law_same 0) fun cdv A outer s H E hr => ⟨_, aNever, sa_nevers, fun as κ R E' h => (Com.rd0__law_same h).elim⟩
  | n + 1 => fn_ok T.F__law_same sc__law_same (Com.len__law_same (n + 1)) fun cdv A outer s H E hr => by
    have G_self := ok__law_same_n T  n
    exact ⟨_, Com.a__law_same K (Com.F_same n), (sa_cons (sa_if (ta_cmp oa_is (av 1) ea_non) (sa_one (sa_ret (ea_cmp oa_is (av 0) ea_non))) sa_nil) (sa_cons (sa_if (ta_tru (ea_cb ca_isi (by rfl) T.m_isinstance (by decide +kernel) (aa_cons (av 1) (aa_cons (ea_ty (by rfl) T.m_bool (by decide +kernel)) aa_nil)))) (sa_one (sa_ret (ea_and (ea_cb ca_isi (by rfl) T.m_isinstance (by decide +kernel) (aa_cons (av 0) (aa_cons (ea_ty (by rfl) T.m_bool (by decide +kernel)) aa_nil))) (ea_one (ea_cmp (oa_eq hr) (av 0) (av 1)))))) sa_nil) (sa_cons (sa_if (ta_tru (ea_cb ca_isi (by rfl) T.m_isinstance (by decide +kernel) (aa_cons (av 1) (aa_cons (ea_ty (by rfl) T.m_int (by decide +kernel)) aa_nil)))) (sa_one (sa_ret (ea_and (ea_cb ca_isi (by rfl) T.m_isinstance (by decide +kernel) (aa_cons (av 0) (aa_cons (ea_ty (by rfl) T.m_int (by decide +kernel)) aa_nil))) (ea_and (ea_not (ea_cb ca_isi (by rfl) T.m_isinstance (by decide +kernel) (aa_cons (av 0) (aa_cons (ea_ty (by rfl) T.m_bool (by decide +kernel)) aa_nil)))) (ea_one (ea_cmp (oa_eq hr) (av 0) (av 1))))))) sa_nil) (sa_cons (sa_if (ta_tru (ea_cb ca_isi (by rfl) T.m_isinstance (by decide +kernel) (aa_cons (av 1) (aa_cons (ea_ty (by rfl) T.m_str (by decide +kernel)) aa_nil)))) (sa_one (sa_ret (ea_and (ea_cb ca_isi (by rfl) T.m_isinstance (by decide +kernel) (aa_cons (av 0) (aa_cons (ea_ty (by rfl) T.m_str (by decide +kernel)) aa_nil))) (ea_one (ea_cmp (oa_eq hr) (av 0) (av 1)))))) sa_nil) (sa_cons (sa_if (PWa.pt (wa_or (ta_cmp (oa_ne hr) (ea_cb ca_isi (by rfl) T.m_isinstance (by decide +kernel) (aa_cons (av 1) (aa_cons (ea_ty (by rfl) T.m_list (by decide +kernel)) aa_nil))) (ea_cb ca_isi (by rfl) T.m_isinstance (by decide +kernel) (aa_cons (av 0) (aa_cons (ea_ty (by rfl) T.m_list (by decide +kernel)) aa_nil)))) (wa_or1 (ta_cmp (oa_ne hr) (ea_cb ca_isi (by rfl) T.m_isinstance (by decide +kernel) (aa_cons (av 1) (aa_cons (ea_ty (by rfl) T.m_tuple (by decide +kernel)) aa_nil))) (ea_cb ca_isi (by rfl) T.m_isinstance (by decide +kernel) (aa_cons (av 0) (aa_cons (ea_ty (by rfl) T.m_tuple (by decide +kernel)) aa_nil))))))) (sa_one (sa_ret ea_bl)) sa_nil) (sa_cons (sa_if (ta_cmp (oa_ne hr) (ea_cb ca_len (by rfl) T.m_len (by decide +kernel) (aa_cons (av 0) aa_nil)) (ea_cb ca_len (by rfl) T.m_len (by decide +kernel) (aa_cons (av 1) aa_nil))) (sa_one (sa_ret ea_bl)) sa_nil) (sa_cons (sa_for PassesOwn.never rfl (ia_rng1 (by rfl) T.m_range (aa_cons (ea_cb ca_len (by rfl) T.m_len (by decide +kernel) (aa_cons (av 1) aa_nil)) aa_nil)) (ga_name (i := 2) sc__law_same.nd rfl (Or.inl rfl)) (sa_one (sa_if (ta_not (ta_tru (ea_call G_self hr (by rfl) T.g__law_same T.F__law_same.kp T.b__law_same (aa_cons (ea_ix (av 0) (av 2)) (aa_cons (ea_ix (av 1) (av 2)) aa_nil))))) (sa_one (sa_ret ea_bl)) sa_nil))) (sa_one (sa_ret ea_bl))))))))), Com.rd__law_same n⟩
theorem ok__law_same (T : Txt K mg)  : FnOk P w K mg base CX0 6 T.f__law_same T.fd__law_same ["actual", "due"] (spA K Com.F__law_same) :=
  (ok__law_same_n T  5).imp fun vs H Q E h => sp_imp Com.imp__law_same h
theorem ok__print_call (T : Txt K mg)  : FnOk P w K mg base CX0 1 T.f__print_call T.fd__print_call ["name", "parties"] (spA K F__print_call) :=
  fn_ok T.F__print_call sc__print_call len__print_call fun cdv A outer s H E hr => ⟨_, a__print_call K, (sa_one (sa_ret (ea_op oa_add (ea_op oa_add (ea_op oa_add (av 0) ea_str) (ea_bm ma_join PySem.F.plainAttrs_str PySem.F.slot_str_join PySem.F.type_str_join ea_str (aa_cons (av 1) aa_nil))) ea_str))), rd__print_call⟩
theorem ok_print_braces (T : Txt K mg)  : FnOk P w K mg base CX0 1 T.f_print_braces T.fd_print_braces ["word", "texts"] (spA K F_print_braces) :=
  fn_ok T.F_print_braces sc_print_braces len_print_braces fun cdv A outer s H E hr => ⟨_, a_print_braces K, (sa_one (sa_ret (ea_op oa_add (ea_op oa_add (ea_op oa_add (av 0) ea_str) (ea_bm ma_join PySem.F.plainAttrs_str PySem.F.slot_str_join PySem.F.type_str_join ea_str (aa_cons (av 1) aa_nil))) ea_str))), rd_print_braces⟩
theorem okg_print_step (T : Txt K mg) (G_print_braces : FnOk P w K mg base CX0 1 T.f_print_braces T.fd_print_braces ["word", "texts"] (spA K F_print_braces)) (G__print_call : FnOk P w K mg base CX0 1 T.f__print_call T.fd__print_call ["name", "parties"] (spA K F__print_call)) : ∀ n : Nat, FnOk P w K mg base CX0 (n + 2) T.f_print_step T.fd_print_step ["step"] (spA K (FF_print_step n)) ∧ FnOk P w K mg base CX0 (n + 2) T.f_print_body T.fd_print_body ["body"] (spA K (FF_print_body n))
  | 0 => ⟨fn_ok T.F_print_step sc_print_step (len_print_step 0) fun cdv A outer s H E hr => ⟨_, aNever, sa_nevers, fun as κ R E' h => (rd0_print_step h).elim⟩, fn_ok T.F_print_body sc_print_body (len_print_body 0) fun cdv A outer s H E hr => ⟨_, aNever, sa_nevers, fun as κ R E' h => (rd0_print_body h).elim⟩⟩
  | n + 1 => by
    obtain ⟨G_self_print_step, G_self_print_body⟩ := okg_print_step T G_print_braces G__print_call n
    exact ⟨fn_ok T.F_print_step sc_print_step (len_print_step (n + 1)) fun cdv A outer s H E hr => ⟨_, a_print_step K (FF_print_body n), (sa_cons (sa_if (ta_cmp (oa_eq hr) (ea_ix (av 0) ea_int) ea_str) (sa_cons (sa_asg (av 0) (ga_tup rfl (gsa_cons (ga_name (i := 1) sc_print_step.nd rfl (Or.inl rfl)) (gsa_cons (ga_name (i := 2) sc_print_step.nd rfl (Or.inl rfl)) (gsa_cons (ga_name (i := 3) sc_print_step.nd rfl (Or.inl rfl)) (gsa_cons (ga_name (i := 4) sc_print_step.nd rfl (Or.inl rfl)) gsa_nil)))))) (sa_one (sa_ret (ea_joined (ja_cons (ea_fmt (av 2)) (ja_cons ea_str (ja_cons (ea_fmt (av 3)) (ja_cons ea_str (ja_cons (ea_fmt (av 4)) ja_nil))))))))) sa_nil) (sa_cons (sa_if (ta_cmp (oa_eq hr) (ea_ix (av 0) ea_int) ea_str) (sa_one (sa_ret (ea_op oa_add ea_str (ea_call (G__print_call.mono (k := n + 2) (by omega)) hr (by rfl) T.g__print_call T.F__print_call.kp T.b__print_call (aa_cons (ea_ix (av 0) ea_int) (aa_cons (ea_ix (av 0) ea_int) aa_nil)))))) sa_nil) (sa_cons (sa_if (ta_cmp (oa_eq hr) (ea_ix (av 0) ea_int) ea_str) (sa_one (sa_ret (ea_call (G_print_braces.mono (k := n + 2) (by omega)) hr (by rfl) T.g_print_braces T.F_print_braces.kp T.b_print_braces (aa_cons ea_str (aa_cons (ea_lstD (aa_cons (ea_call G_self_print_body hr (by rfl) T.g_print_body T.F_print_body.kp T.b_print_body (aa_cons (ea_ix (av 0) ea_int) aa_nil)) aa_nil)) aa_nil))))) sa_nil) (sa_one (sa_ret (ea_call (G_print_braces.mono (k := n + 2) (by omega)) hr (by rfl) T.g_print_braces T.F_print_braces.kp T.b_print_braces (aa_cons (ea_ix (av 0) ea_int) (aa_cons (ea_lc (own := [("body", 5)]) rfl sc_print_step.nd (ia_any (ea_ix (av 0) ea_int)) (blkOk_by (own := [("body", 5)]) (N := N_print_step) (sc := defScope s_print_step) (by decide +kernel)) (fun _ _ _ _ _ => (pg_name (i := 5) sc_print_step.nd rfl (Or.inl rfl))) (sgw_name (by decide)) (fun _ _ _ _ _ => tsa_nil) (fun _ _ _ _ _ => (ea_call G_self_print_body hr (by rfl) T.g_print_body T.F_print_body.kp T.b_print_body (aa_cons (av 5) aa_nil)))) aa_nil)))))))), rd_print_step n⟩, fn_ok T.F_print_body sc_print_body (len_print_body (n + 1)) fun cdv A outer s H E hr => ⟨_, a_print_body K (FF_print_step n), (sa_one (sa_ret (ea_bm ma_join PySem.F.plainAttrs_str PySem.F.slot_str_join PySem.F.type_str_join ea_str (aa_cons (ea_lc (own := [("step", 1)]) rfl sc_print_body.nd (ia_any (av 0)) (blkOk_by (own := [("step", 1)]) (N := N_print_body) (sc := defScope s_print_body) (by decide +kernel)) (fun _ _ _ _ _ => (pg_name (i := 1) sc_print_body.nd rfl (Or.inl rfl))) (sgw_name (by decide)) (fun _ _ _ _ _ => tsa_nil) (fun _ _ _ _ _ => (ea_call G_self_print_step hr (by rfl) T.g_print_step T.F_print_step.kp T.b_print_step (aa_cons (av 1) aa_nil)))) aa_nil)))), rd_print_body n⟩⟩
theorem ok_print_step (T : Txt K mg) (G_print_braces : FnOk P w K mg base CX0 1 T.f_print_braces T.fd_print_braces ["word", "texts"] (spA K F_print_braces)) (G__print_call : FnOk P w K mg base CX0 1 T.f__print_call T.fd__print_call ["name", "parties"] (spA K F__print_call)) : FnOk P w K mg base CX0 22 T.f_print_step T.fd_print_step ["step"] (spA K (FF_print_step 20)) :=
  (okg_print_step T G_print_braces G__print_call 20).1
theorem ok_print_body (T : Txt K mg) (G_print_braces : FnOk P w K mg base CX0 1 T.f_print_braces T.fd_print_braces ["word", "texts"] (spA K F_print_braces)) (G__print_call : FnOk P w K mg base CX0 1 T.f__print_call T.fd__print_call ["name", "parties"] (spA K F__print_call)) : FnOk P w K mg base CX0 22 T.f_print_body T.fd_print_body ["body"] (spA K (FF_print_body 20)) :=
  (okg_print_step T G_print_braces G__print_call 20).2
theorem ok_print_pact (T : Txt K mg) (G__print_call : FnOk P w K mg base CX0 1 T.f__print_call T.fd__print_call ["name", "parties"] (spA K F__print_call)) (G_print_body : FnOk P w K mg base CX0 22 T.f_print_body T.fd_print_body ["body"] (spA K (FF_print_body 20))) : FnOk P w K mg base CX0 23 T.f_print_pact T.fd_print_pact ["pact"] (spA K F_print_pact) :=
  fn_ok T.F_print_pact sc_print_pact len_print_pact fun cdv A outer s H E hr => ⟨_, a_print_pact K, (sa_cons (sa_asg (av 0) (ga_tup rfl (gsa_cons (ga_name (i := 1) sc_print_pact.nd rfl (Or.inl rfl)) (gsa_cons (ga_name (i := 2) sc_print_pact.nd rfl (Or.inl rfl)) (gsa_cons (ga_name (i := 3) sc_print_pact.nd rfl (Or.inl rfl)) (gsa_cons (ga_name (i := 4) sc_print_pact.nd rfl (Or.inl rfl)) gsa_nil)))))) (sa_cons (sa_set (i := 5) sc_print_pact.nd rfl (Or.inl rfl) (ea_lst (aa_cons ea_str (aa_cons (ea_call (G__print_call.mono (k := 22) (by decide)) hr (by rfl) T.g__print_call T.F__print_call.kp T.b__print_call (aa_cons (av 2) (aa_cons (av 3) aa_nil))) (aa_cons ea_str aa_nil))))) (sa_cut (sa_if (ta_tru (av 4)) (sa_one (sa_drop (ea_bm ma_insert PySem.F.plainAttrs_list PySem.F.slot_list_insert PySem.F.type_list_insert (av 5) (aa_cons ea_int (aa_cons (ea_call (G_print_body.mono (k := 22) (by decide)) hr (by rfl) T.g_print_body T.F_print_body.kp T.b_print_body (aa_cons (av 4) aa_nil)) aa_nil))))) sa_nil) (sa_one (sa_ret (ea_bm ma_join PySem.F.plainAttrs_str PySem.F.slot_str_join PySem.F.type_str_join ea_str (aa_cons (av 5) aa_nil))))))), rd_print_pact⟩
theorem ok_print_book (T : Txt K mg) (G_print_pact : FnOk P w K mg base CX0 23 T.f_print_pact T.fd_print_pact ["pact"] (spA K F_print_pact)) : FnOk P w K mg base CX0 24 T.f_print_book T.fd_print_book ["book"] (spA K F_print_book) :=
  fn_ok T.F_print_book sc_print_book len_print_book fun cdv A outer s H E hr => ⟨_, a_print_book K, (sa_one (sa_ret (ea_bm ma_join PySem.F.plainAttrs_str PySem.F.slot_str_join PySem.F.type_str_join ea_str (aa_cons (ea_lc (own := [("pact", 1)]) rfl sc_print_book.nd (ia_any (av 0)) (blkOk_by (own := [("pact", 1)]) (N := N_print_book) (sc := defScope s_print_book) (by decide +kernel)) (fun _ _ _ _ _ => (pg_name (i := 1) sc_print_book.nd rfl (Or.inl rfl))) (sgw_name (by decide)) (fun _ _ _ _ _ => tsa_nil) (fun _ _ _ _ _ => (ea_call (G_print_pact.mono (k := 23) (by decide)) hr (by rfl) T.g_print_pact T.F_print_pact.kp T.b_print_pact (aa_cons (av 1) aa_nil)))) aa_nil)))), rd_print_book⟩
theorem okg__law_step_text (T : Txt K mg)  : ∀ n : Nat, FnOk P w K mg base CX0 (n + 1) T.f__law_step_text T.fd__law_step_text ["step"] (spA K (FF__law_step_text n)) ∧ FnOk P w K mg base CX0 (n + 1) T.f__law_body_text T.fd__law_body_text ["body"] (spA K (FF__law_body_text n))
  | 0 => ⟨fn_ok T.F__law_step_text sc__law_step_text (len__law_step_text 0) fun cdv A outer s H E hr => ⟨_, aNever, sa_nevers, fun as κ R E' h => (rd0__law_step_text h).elim⟩, fn_ok T.F__law_body_text sc__law_body_text (len__law_body_text 0) fun cdv A outer s H E hr => ⟨_, aNever, sa_nevers, fun as κ R E' h => (rd0__law_body_text h).elim⟩⟩
  | n + 1 => by
    obtain ⟨G_self__law_step_text, G_self__law_body_text⟩ := okg__law_step_text T  n
    exact ⟨fn_ok T.F__law_step_text sc__law_step_text (len__law_step_text (n + 1)) fun cdv A outer s H E hr => ⟨_, a__law_step_text K (FF__law_body_text n), (sa_cons (sa_if (ta_cmp (oa_eq hr) (ea_ix (av 0) ea_int) ea_str) (sa_one (sa_ret (ea_op oa_add (ea_op oa_add (ea_op oa_add (ea_op oa_add (ea_ix (av 0) ea_int) ea_str) (ea_ix (av 0) ea_int)) ea_str) (ea_ix (av 0) ea_int)))) sa_nil) (sa_cons (sa_if (ta_cmp (oa_eq hr) (ea_ix (av 0) ea_int) ea_str) (sa_one (sa_ret (ea_op oa_add (ea_op oa_add (ea_op oa_add (ea_op oa_add ea_str (ea_ix (av 0) ea_int)) ea_str) (ea_bm ma_join PySem.F.plainAttrs_str PySem.F.slot_str_join PySem.F.type_str_join ea_str (aa_cons (ea_ct (ca_list false) (by rfl) T.m_list (by decide +kernel) (aa_cons (ea_ix (av 0) ea_int) aa_nil)) aa_nil))) ea_str))) sa_nil) (sa_cons (sa_if (ta_cmp (oa_eq hr) (ea_ix (av 0) ea_int) ea_str) (sa_one (sa_ret (ea_op oa_add (ea_op oa_add ea_str (ea_call G_self__law_body_text hr (by rfl) T.g__law_body_text T.F__law_body_text.kp T.b__law_body_text (aa_cons (ea_ix (av 0) ea_int) aa_nil))) ea_str))) sa_nil) (sa_one (sa_ret (ea_op oa_add (ea_op oa_add (ea_op oa_add (ea_ix (av 0) ea_int) ea_str) (ea_bm ma_join PySem.F.plainAttrs_str PySem.F.slot_str_join PySem.F.type_str_join ea_str (aa_cons (ea_lc (own := [("body", 1)]) rfl sc__law_step_text.nd (ia_any (ea_ix (av 0) ea_int)) (blkOk_by (own := [("body", 1)]) (N := N__law_step_text) (sc := defScope s__law_step_text) (by decide +kernel)) (fun _ _ _ _ _ => (pg_name (i := 1) sc__law_step_text.nd rfl (Or.inl rfl))) (sgw_name (by decide)) (fun _ _ _ _ _ => tsa_nil) (fun _ _ _ _ _ => (ea_call G_self__law_body_text hr (by rfl) T.g__law_body_text T.F__law_body_text.kp T.b__law_body_text (aa_cons (av 1) aa_nil)))) aa_nil))) ea_str)))))), rd__law_step_text n⟩, fn_ok T.F__law_body_text sc__law_body_text (len__law_body_text (n + 1)) fun cdv A outer s H E hr => ⟨_, a__law_body_text K (FF__law_step_text n), (sa_cons (sa_set (i := 1) sc__law_body_text.nd rfl (Or.inl rfl) ea_str) (sa_cons (sa_for PassesOwn.never rfl (ia_rng1 (by rfl) T.m_range (aa_cons (ea_cb ca_len (by rfl) T.m_len (by decide +kernel) (aa_cons (av 0) aa_nil)) aa_nil)) (ga_name (i := 2) sc__law_body_text.nd rfl (Or.inl rfl)) (sa_one (sa_set (i := 1) sc__law_body_text.nd rfl (Or.inl rfl) (ea_op oa_add (ea_op oa_add (av 1) (ea_op oa_mulS ea_str (ea_ct ca_int (by rfl) T.m_int (by decide +kernel) (aa_cons (ea_cmp oa_gt (av 2) ea_int) aa_nil)))) (ea_call G_self__law_step_text hr (by rfl) T.g__law_step_text T.F__law_step_text.kp T.b__law_step_text (aa_cons (ea_ix (av 0) (av 2)) aa_nil)))))) (sa_one (sa_ret (av 1))))), rd__law_body_text n⟩⟩
theorem ok__law_step_text (T : Txt K mg)  : FnOk P w K mg base CX0 21 T.f__law_step_text T.fd__law_step_text ["step"] (spA K (FF__law_step_text 20)) :=
  (okg__law_step_text T  20).1
theorem ok__law_body_text (T : Txt K mg)  : FnOk P w K mg base CX0 21 T.f__law_body_text T.fd__law_body_text ["body"] (spA K (FF__law_body_text 20)) :=
  (okg__law_step_text T  20).2
theorem ok__law_pact_text (T : Txt K mg) (G__law_body_text : FnOk P w K mg base CX0 21 T.f__law_body_text T.fd__law_body_text ["body"] (spA K (FF__law_body_text 20))) : FnOk P w K mg base CX0 22 T.f__law_pact_text T.fd__law_pact_text ["pact"] (spA K F__law_pact_text) :=
  fn_ok T.F__law_pact_text sc__law_pact_text len__law_pact_text fun cdv A outer s H E hr => ⟨_, a__law_pact_text K, (sa_cons (sa_asg (av 0) (ga_tup rfl (gsa_cons (ga_name (i := 1) sc__law_pact_text.nd rfl (Or.inl rfl)) (gsa_cons (ga_name (i := 2) sc__law_pact_text.nd rfl (Or.inl rfl)) (gsa_cons (ga_name (i := 3) sc__law_pact_text.nd rfl (Or.inl rfl)) (gsa_cons (ga_name (i := 4) sc__law_pact_text.nd rfl (Or.inl rfl)) gsa_nil)))))) (sa_cons (sa_set (i := 5) sc__law_pact_text.nd rfl (Or.inl rfl) (ea_op oa_add (ea_op oa_add (ea_op oa_add (ea_op oa_add ea_str (av 2)) ea_str) (ea_bm ma_join PySem.F.plainAttrs_str PySem.F.slot_str_join PySem.F.type_str_join ea_str (aa_cons (ea_ct (ca_list false) (by rfl) T.m_list (by decide +kernel) (aa_cons (av 3) aa_nil)) aa_nil))) ea_str)) (sa_cut (sa_if (ta_tru (av 4)) (sa_one (sa_set (i := 5) sc__law_pact_text.nd rfl (Or.inl rfl) (ea_op oa_add (ea_op oa_add (av 5) ea_str) (ea_call (G__law_body_text.mono (k := 21) (by decide)) hr (by rfl) T.g__law_body_text T.F__law_body_text.kp T.b__law_body_text (aa_cons (av 4) aa_nil))))) sa_nil) (sa_one (sa_ret (ea_op oa_add (av 5) ea_str)))))), rd__law_pact_text⟩
theorem ok_law (T : Txt K mg) (G__law_source : FnOk P w K mg base CX0 1 T.f__law_source T.fd__law_source ["script"] (spA K Com.F__law_source)) (G__law_book : FnOk P w K mg base CX0 24 T.f__law_book T.fd__law_book ["source", "most", "room"] (spA K F__law_book)) (G__law_inner : FnOk P w K mg base CX0 11 T.f__law_inner T.fd__law_inner ["body"] (spA K (FF__law_inner 10))) (G__law_same : FnOk P w K mg base CX0 6 T.f__law_same T.fd__law_same ["actual", "due"] (spA K Com.F__law_same)) (G__law_pick : FnOk P w K mg base CX0 1 T.f__law_pick T.fd__law_pick ["source", "many"] (spA K Com.F__law_pick)) (G_print_book : FnOk P w K mg base CX0 24 T.f_print_book T.fd_print_book ["book"] (spA K F_print_book)) (G_print_pact : FnOk P w K mg base CX0 23 T.f_print_pact T.fd_print_pact ["pact"] (spA K F_print_pact)) (G__law_pact_text : FnOk P w K mg base CX0 22 T.f__law_pact_text T.fd__law_pact_text ["pact"] (spA K F__law_pact_text)) (G_print_body : FnOk P w K mg base CX0 22 T.f_print_body T.fd_print_body ["body"] (spA K (FF_print_body 20))) (G__law_body_text : FnOk P w K mg base CX0 21 T.f__law_body_text T.fd__law_body_text ["body"] (spA K (FF__law_body_text 20))) : FnOk P w K mg base CX0 25 T.f_law T.fd_law ["script"] (spA K F_law) :=
  fn_ok T.F_law sc_law Ab.len_law fun cdv A outer s H E hr => ⟨_, a_law K, (sa_cons (sa_set (i := 1) sc_law.nd rfl (Or.inl rfl) (ea_call (G__law_source.mono (k := 24) (by decide)) hr (by rfl) T.g__law_source T.F__law_source.kp T.b__law_source (aa_cons (av 0) aa_nil))) (sa_cons (sa_for PassesOwn.never rfl (ia_rng1 (by rfl) T.m_range (aa_cons (ea_op oa_add ea_int (ea_cb (ca_min rfl) (by rfl) T.m_min (by decide +kernel) (aa_cons ea_int (aa_cons (ea_op oa_div (ea_cb ca_len (by rfl) T.m_len (by decide +kernel) (aa_cons (av 0) aa_nil)) ea_int) aa_nil)))) aa_nil)) (ga_name (i := 2) sc_law.nd rfl (Or.inl rfl)) (sa_cons (sa_set (i := 3) sc_law.nd rfl (Or.inl rfl) (ea_call (G__law_book.mono (k := 24) (by decide)) hr (by rfl) T.g__law_book T.F__law_book.kp T.b__law_book (aa_cons (av 1) (aa_cons (ea_ix (ea_lstD (aa_cons ea_int (aa_cons ea_int (aa_cons ea_int aa_nil)))) (ea_call (G__law_pick.mono (k := 24) (by decide)) hr (by rfl) T.g__law_pick T.F__law_pick.kp T.b__law_pick (aa_cons (av 1) (aa_cons ea_int aa_nil)))) (aa_cons ea_int aa_nil))))) (sa_cons (sa_for PassesOwn.never rfl (ia_any (av 3)) (ga_name (i := 4) sc_law.nd rfl (Or.inl rfl)) (sa_cons (sa_for PassesOwn.never rfl (ia_any (ea_call (G__law_inner.mono (k := 24) (by decide)) hr (by rfl) T.g__law_inner T.F__law_inner.kp T.b__law_inner (aa_cons (ea_ix (av 4) ea_int) aa_nil))) (ga_name (i := 5) sc_law.nd rfl (Or.inl rfl)) (sa_one (sa_if (ta_not (ta_tru (ea_call (G__law_same.mono (k := 24) (by decide)) hr (by rfl) T.g__law_same T.F__law_same.kp T.b__law_same (aa_cons (ea_call (G_print_body.mono (k := 24) (by decide)) hr (by rfl) T.g_print_body T.F_print_body.kp T.b_print_body (aa_cons (av 5) aa_nil)) (aa_cons (ea_call (G__law_body_text.mono (k := 24) (by decide)) hr (by rfl) T.g__law_body_text T.F__law_body_text.kp T.b__law_body_text (aa_cons (av 5) aa_nil)) aa_nil))))) (sa_one (sa_ret ea_bl)) sa_nil))) (sa_one (sa_if (ta_not (ta_tru (ea_call (G__law_same.mono (k := 24) (by decide)) hr (by rfl) T.g__law_same T.F__law_same.kp T.b__law_same (aa_cons (ea_call (G_print_pact.mono (k := 24) (by decide)) hr (by rfl) T.g_print_pact T.F_print_pact.kp T.b_print_pact (aa_cons (av 4) aa_nil)) (aa_cons (ea_call (G__law_pact_text.mono (k := 24) (by decide)) hr (by rfl) T.g__law_pact_text T.F__law_pact_text.kp T.b__law_pact_text (aa_cons (av 4) aa_nil)) aa_nil))))) (sa_one (sa_ret ea_bl)) sa_nil)))) (sa_one (sa_if (ta_not (ta_tru (ea_call (G__law_same.mono (k := 24) (by decide)) hr (by rfl) T.g__law_same T.F__law_same.kp T.b__law_same (aa_cons (ea_call (G_print_book.mono (k := 24) (by decide)) hr (by rfl) T.g_print_book T.F_print_book.kp T.b_print_book (aa_cons (av 3) aa_nil)) (aa_cons (ea_bm ma_join PySem.F.plainAttrs_str PySem.F.slot_str_join PySem.F.type_str_join ea_str (aa_cons (ea_lc (own := [("pact", 4)]) rfl sc_law.nd (ia_any (av 3)) (blkOk_by (own := [("pact", 4)]) (N := N_law) (sc := defScope s_law) (by decide +kernel)) (fun _ _ _ _ _ => (pg_name (i := 4) sc_law.nd rfl (Or.inl rfl))) (sgw_name (by decide)) (fun _ _ _ _ _ => tsa_nil) (fun _ _ _ _ _ => (ea_call (G__law_pact_text.mono (k := 24) (by decide)) hr (by rfl) T.g__law_pact_text T.F__law_pact_text.kp T.b__law_pact_text (aa_cons (av 4) aa_nil)))) aa_nil)) aa_nil))))) (sa_one (sa_ret ea_bl)) sa_nil))))) (sa_one (sa_ret ea_bl)))), rd_law⟩
theorem all_ok (T : Txt K mg) : FnOk P w K mg base CX0 25 T.f_law T.fd_law ["script"] (spA K F_law) := by
  have G__law_source := ok__law_source (P := P) (w := w) (base := base) T 
  have G__law_pick := ok__law_pick (P := P) (w := w) (base := base) T 
  have G__law_name := ok__law_name (P := P) (w := w) (base := base) T G__law_pick
  have G__law_names := ok__law_names (P := P) (w := w) (base := base) T G__law_name
  have G__law_letter := ok__law_letter (P := P) (w := w) (base := base) T G__law_pick
  have G__law_use := ok__law_use (P := P) (w := w) (base := base) T G__law_pick
  have G__law_step := ok__law_step (P := P) (w := w) (base := base) T G__law_pick G__law_letter G__law_use
  have G__law_body := ok__law_body (P := P) (w := w) (base := base) T G__law_pick G__law_letter G__law_use
  have G__law_book := ok__law_book (P := P) (w := w) (base := base) T G__law_names G__law_body G__law_pick
  have G__law_inner := ok__law_inner (P := P) (w := w) (base := base) T 
  have G__law_same := ok__law_same (P := P) (w := w) (base := base) T 
  have G__print_call := ok__print_call (P := P) (w := w) (base := base) T 
  have G_print_braces := ok_print_braces (P := P) (w := w) (base := base) T 
  have G_print_step := ok_print_step (P := P) (w := w) (base := base) T G_print_braces G__print_call
  have G_print_body := ok_print_body (P := P) (w := w) (base := base) T G_print_braces G__print_call
  have G_print_pact := ok_print_pact (P := P) (w := w) (base := base) T G__print_call G_print_body
  have G_print_book := ok_print_book (P := P) (w := w) (base := base) T G_print_pact
  have G__law_step_text := ok__law_step_text (P := P) (w := w) (base := base) T 
  have G__law_body_text := ok__law_body_text (P := P) (w := w) (base := base) T 
  have G__law_pact_text := ok__law_pact_text (P := P) (w := w) (base := base) T G__law_body_text
  have G_law := ok_law (P := P) (w := w) (base := base) T G__law_source G__law_book G__law_inner G__law_same G__law_pick G_print_book G_print_pact G__law_pact_text G_print_body G__law_body_text
  exact G_law
theorem all_mk {K : PySem.W.Frag} {h : Heap} {mg : Str → Option Value} {fa : Addr} (X : K.In h) (Gn : h.Ns mainGlobals mg) (hfa : mg "law" = some (.ref fa))
    {f0 : Addr} {od0 an0 : Option Addr} {sl0 : Array (Option Value)} {oc0 kV0 dc0 pm0 cd0 ct0 : Value}
    {f1 : Addr} {od1 an1 : Option Addr} {sl1 : Array (Option Value)} {oc1 kV1 dc1 pm1 cd1 ct1 : Value}
    {f2 : Addr} {od2 an2 : Option Addr} {sl2 : Array (Option Value)} {oc2 kV2 dc2 pm2 cd2 ct2 : Value}
    {f3 : Addr} {od3 an3 : Option Addr} {sl3 : Array (Option Value)} {oc3 kV3 dc3 pm3 cd3 ct3 : Value}
    {f4 : Addr} {od4 an4 : Option Addr} {sl4 : Array (Option Value)} {oc4 kV4 dc4 pm4 cd4 ct4 : Value}
    {f5 : Addr} {od5 an5 : Option Addr} {sl5 : Array (Option Value)} {oc5 kV5 dc5 pm5 cd5 ct5 : Value}
    {f6 : Addr} {od6 an6 : Option Addr} {sl6 : Array (Option Value)} {oc6 kV6 dc6 pm6 cd6 ct6 : Value}
    {f7 : Addr} {od7 an7 : Option Addr} {sl7 : Array (Option Value)} {oc7 kV7 dc7 pm7 cd7 ct7 : Value}
    {f8 : Addr} {od8 an8 : Option Addr} {sl8 : Array (Option Value)} {oc8 kV8 dc8 pm8 cd8 ct8 : Value}
    {f9 : Addr} {od9 an9 : Option Addr} {sl9 : Array (Option Value)} {oc9 kV9 dc9 pm9 cd9 ct9 : Value}
    {f10 : Addr} {od10 an10 : Option Addr} {sl10 : Array (Option Value)} {oc10 kV10 dc10 pm10 cd10 ct10 : Value}
    {f11 : Addr} {od11 an11 : Option Addr} {sl11 : Array (Option Value)} {oc11 kV11 dc11 pm11 cd11 ct11 : Value}
    {f12 : Addr} {od12 an12 : Option Addr} {sl12 : Array (Option Value)} {oc12 kV12 dc12 pm12 cd12 ct12 : Value}
    {f13 : Addr} {od13 an13 : Option Addr} {sl13 : Array (Option Value)} {oc13 kV13 dc13 pm13 cd13 ct13 : Value}
    {f14 : Addr} {od14 an14 : Option Addr} {sl14 : Array (Option Value)} {oc14 kV14 dc14 pm14 cd14 ct14 : Value}
    {f15 : Addr} {od15 an15 : Option Addr} {sl15 : Array (Option Value)} {oc15 kV15 dc15 pm15 cd15 ct15 : Value}
    {f16 : Addr} {od16 an16 : Option Addr} {sl16 : Array (Option Value)} {oc16 kV16 dc16 pm16 cd16 ct16 : Value}
    {f17 : Addr} {od17 an17 : Option Addr} {sl17 : Array (Option Value)} {oc17 kV17 dc17 pm17 cd17 ct17 : Value}
    {f18 : Addr} {od18 an18 : Option Addr} {sl18 : Array (Option Value)} {oc18 kV18 dc18 pm18 cd18 ct18 : Value}
    {f19 : Addr} {od19 an19 : Option Addr} {sl19 : Array (Option Value)} {oc19 kV19 dc19 pm19 cd19 ct19 : Value}
    {f20 : Addr} {od20 an20 : Option Addr} {sl20 : Array (Option Value)} {oc20 kV20 dc20 pm20 cd20 ct20 : Value}
    (a0 : PySem.W.nsIn K mainGlobals "_law_source" = some (some (.ref f0))) (l0 : K.lookup f0 = some ⟨oc0, od0, .func (PySem.W.fnOf "_law_source" "_law_source" (defArgs s__law_source) (defBody s__law_source) (defScope s__law_source) .none kV0 dc0 pm0 an0 cd0 ct0), sl0⟩) (c0 : PySem.W.codeIn K cd0 "_law_source" = true) (k0 : PySem.W.keepIn K (.ref f0) = true)
    (a1 : PySem.W.nsIn K mainGlobals "_law_pick" = some (some (.ref f1))) (l1 : K.lookup f1 = some ⟨oc1, od1, .func (PySem.W.fnOf "_law_pick" "_law_pick" (defArgs s__law_pick) (defBody s__law_pick) (defScope s__law_pick) .none kV1 dc1 pm1 an1 cd1 ct1), sl1⟩) (c1 : PySem.W.codeIn K cd1 "_law_pick" = true) (k1 : PySem.W.keepIn K (.ref f1) = true)
    (a2 : PySem.W.nsIn K mainGlobals "_law_name" = some (some (.ref f2))) (l2 : K.lookup f2 = some ⟨oc2, od2, .func (PySem.W.fnOf "_law_name" "_law_name" (defArgs s__law_name) (defBody s__law_name) (defScope s__law_name) .none kV2 dc2 pm2 an2 cd2 ct2), sl2⟩) (c2 : PySem.W.codeIn K cd2 "_law_name" = true) (k2 : PySem.W.keepIn K (.ref f2) = true)
    (a3 : PySem.W.nsIn K mainGlobals "_law_names" = some (some (.ref f3))) (l3 : K.lookup f3 = some ⟨oc3, od3, .func (PySem.W.fnOf "_law_names" "_law_names" (defArgs s__law_names) (defBody s__law_names) (defScope s__law_names) .none kV3 dc3 pm3 an3 cd3 ct3), sl3⟩) (c3 : PySem.W.codeIn K cd3 "_law_names" = true) (k3 : PySem.W.keepIn K (.ref f3) = true)
    (a4 : PySem.W.nsIn K mainGlobals "_law_letter" = some (some (.ref f4))) (l4 : K.lookup f4 = some ⟨oc4, od4, .func (PySem.W.fnOf "_law_letter" "_law_letter" (defArgs s__law_letter) (defBody s__law_letter) (defScope s__law_letter) .none kV4 dc4 pm4 an4 cd4 ct4), sl4⟩) (c4 : PySem.W.codeIn K cd4 "_law_letter" = true) (k4 : PySem.W.keepIn K (.ref f4) = true)
    (a5 : PySem.W.nsIn K mainGlobals "_law_use" = some (some (.ref f5))) (l5 : K.lookup f5 = some ⟨oc5, od5, .func (PySem.W.fnOf "_law_use" "_law_use" (defArgs s__law_use) (defBody s__law_use) (defScope s__law_use) .none kV5 dc5 pm5 an5 cd5 ct5), sl5⟩) (c5 : PySem.W.codeIn K cd5 "_law_use" = true) (k5 : PySem.W.keepIn K (.ref f5) = true)
    (a6 : PySem.W.nsIn K mainGlobals "_law_step" = some (some (.ref f6))) (l6 : K.lookup f6 = some ⟨oc6, od6, .func (PySem.W.fnOf "_law_step" "_law_step" (defArgs s__law_step) (defBody s__law_step) (defScope s__law_step) .none kV6 dc6 pm6 an6 cd6 ct6), sl6⟩) (c6 : PySem.W.codeIn K cd6 "_law_step" = true) (k6 : PySem.W.keepIn K (.ref f6) = true)
    (a7 : PySem.W.nsIn K mainGlobals "_law_body" = some (some (.ref f7))) (l7 : K.lookup f7 = some ⟨oc7, od7, .func (PySem.W.fnOf "_law_body" "_law_body" (defArgs s__law_body) (defBody s__law_body) (defScope s__law_body) .none kV7 dc7 pm7 an7 cd7 ct7), sl7⟩) (c7 : PySem.W.codeIn K cd7 "_law_body" = true) (k7 : PySem.W.keepIn K (.ref f7) = true)
    (a8 : PySem.W.nsIn K mainGlobals "_law_book" = some (some (.ref f8))) (l8 : K.lookup f8 = some ⟨oc8, od8, .func (PySem.W.fnOf "_law_book" "_law_book" (defArgs s__law_book) (defBody s__law_book) (defScope s__law_book) .none kV8 dc8 pm8 an8 cd8 ct8), sl8⟩) (c8 : PySem.W.codeIn K cd8 "_law_book" = true) (k8 : PySem.W.keepIn K (.ref f8) = true)
    (a9 : PySem.W.nsIn K mainGlobals "_law_inner" = some (some (.ref f9))) (l9 : K.lookup f9 = some ⟨oc9, od9, .func (PySem.W.fnOf "_law_inner" "_law_inner" (defArgs s__law_inner) (defBody s__law_inner) (defScope s__law_inner) .none kV9 dc9 pm9 an9 cd9 ct9), sl9⟩) (c9 : PySem.W.codeIn K cd9 "_law_inner" = true) (k9 : PySem.W.keepIn K (.ref f9) = true)
    (a10 : PySem.W.nsIn K mainGlobals "_law_same" = some (some (.ref f10))) (l10 : K.lookup f10 = some ⟨oc10, od10, .func (PySem.W.fnOf "_law_same" "_law_same" (defArgs s__law_same) (defBody s__law_same) (defScope s__law_same) .none kV10 dc10 pm10 an10 cd10 ct10), sl10⟩) (c10 : PySem.W.codeIn K cd10 "_law_same" = true) (k10 : PySem.W.keepIn K (.ref f10) = true)
    (a11 : PySem.W.nsIn K mainGlobals "_print_call" = some (some (.ref f11))) (l11 : K.lookup f11 = some ⟨oc11, od11, .func (PySem.W.fnOf "_print_call" "_print_call" (defArgs s__print_call) (defBody s__print_call) (defScope s__print_call) .none kV11 dc11 pm11 an11 cd11 ct11), sl11⟩) (c11 : PySem.W.codeIn K cd11 "_print_call" = true) (k11 : PySem.W.keepIn K (.ref f11) = true)
    (a12 : PySem.W.nsIn K mainGlobals "print_braces" = some (some (.ref f12))) (l12 : K.lookup f12 = some ⟨oc12, od12, .func (PySem.W.fnOf "print_braces" "print_braces" (defArgs s_print_braces) (defBody s_print_braces) (defScope s_print_braces) .none kV12 dc12 pm12 an12 cd12 ct12), sl12⟩) (c12 : PySem.W.codeIn K cd12 "print_braces" = true) (k12 : PySem.W.keepIn K (.ref f12) = true)
    (a13 : PySem.W.nsIn K mainGlobals "print_step" = some (some (.ref f13))) (l13 : K.lookup f13 = some ⟨oc13, od13, .func (PySem.W.fnOf "print_step" "print_step" (defArgs s_print_step) (defBody s_print_step) (defScope s_print_step) .none kV13 dc13 pm13 an13 cd13 ct13), sl13⟩) (c13 : PySem.W.codeIn K cd13 "print_step" = true) (k13 : PySem.W.keepIn K (.ref f13) = true)
    (a14 : PySem.W.nsIn K mainGlobals "print_body" = some (some (.ref f14))) (l14 : K.lookup f14 = some ⟨oc14, od14, .func (PySem.W.fnOf "print_body" "print_body" (defArgs s_print_body) (defBody s_print_body) (defScope s_print_body) .none kV14 dc14 pm14 an14 cd14 ct14), sl14⟩) (c14 : PySem.W.codeIn K cd14 "print_body" = true) (k14 : PySem.W.keepIn K (.ref f14) = true)
    (a15 : PySem.W.nsIn K mainGlobals "print_pact" = some (some (.ref f15))) (l15 : K.lookup f15 = some ⟨oc15, od15, .func (PySem.W.fnOf "print_pact" "print_pact" (defArgs s_print_pact) (defBody s_print_pact) (defScope s_print_pact) .none kV15 dc15 pm15 an15 cd15 ct15), sl15⟩) (c15 : PySem.W.codeIn K cd15 "print_pact" = true) (k15 : PySem.W.keepIn K (.ref f15) = true)
    (a16 : PySem.W.nsIn K mainGlobals "print_book" = some (some (.ref f16))) (l16 : K.lookup f16 = some ⟨oc16, od16, .func (PySem.W.fnOf "print_book" "print_book" (defArgs s_print_book) (defBody s_print_book) (defScope s_print_book) .none kV16 dc16 pm16 an16 cd16 ct16), sl16⟩) (c16 : PySem.W.codeIn K cd16 "print_book" = true) (k16 : PySem.W.keepIn K (.ref f16) = true)
    (a17 : PySem.W.nsIn K mainGlobals "_law_step_text" = some (some (.ref f17))) (l17 : K.lookup f17 = some ⟨oc17, od17, .func (PySem.W.fnOf "_law_step_text" "_law_step_text" (defArgs s__law_step_text) (defBody s__law_step_text) (defScope s__law_step_text) .none kV17 dc17 pm17 an17 cd17 ct17), sl17⟩) (c17 : PySem.W.codeIn K cd17 "_law_step_text" = true) (k17 : PySem.W.keepIn K (.ref f17) = true)
    (a18 : PySem.W.nsIn K mainGlobals "_law_body_text" = some (some (.ref f18))) (l18 : K.lookup f18 = some ⟨oc18, od18, .func (PySem.W.fnOf "_law_body_text" "_law_body_text" (defArgs s__law_body_text) (defBody s__law_body_text) (defScope s__law_body_text) .none kV18 dc18 pm18 an18 cd18 ct18), sl18⟩) (c18 : PySem.W.codeIn K cd18 "_law_body_text" = true) (k18 : PySem.W.keepIn K (.ref f18) = true)
    (a19 : PySem.W.nsIn K mainGlobals "_law_pact_text" = some (some (.ref f19))) (l19 : K.lookup f19 = some ⟨oc19, od19, .func (PySem.W.fnOf "_law_pact_text" "_law_pact_text" (defArgs s__law_pact_text) (defBody s__law_pact_text) (defScope s__law_pact_text) .none kV19 dc19 pm19 an19 cd19 ct19), sl19⟩) (c19 : PySem.W.codeIn K cd19 "_law_pact_text" = true) (k19 : PySem.W.keepIn K (.ref f19) = true)
    (a20 : PySem.W.nsIn K mainGlobals "law" = some (some (.ref f20))) (l20 : K.lookup f20 = some ⟨oc20, od20, .func (PySem.W.fnOf "law" "law" (defArgs s_law) (defBody s_law) (defScope s_law) .none kV20 dc20 pm20 an20 cd20 ct20), sl20⟩) (c20 : PySem.W.codeIn K cd20 "law" = true) (k20 : PySem.W.keepIn K (.ref f20) = true)
    (z0 : PySem.W.nsIn K mainGlobals "bool" = some none)
    (z1 : PySem.W.nsIn K mainGlobals "int" = some none)
    (z2 : PySem.W.nsIn K mainGlobals "isinstance" = some none)
    (z3 : PySem.W.nsIn K mainGlobals "len" = some none)
    (z4 : PySem.W.nsIn K mainGlobals "list" = some none)
    (z5 : PySem.W.nsIn K mainGlobals "min" = some none)
    (z6 : PySem.W.nsIn K mainGlobals "range" = some none)
    (z7 : PySem.W.nsIn K mainGlobals "str" = some none)
    (z8 : PySem.W.nsIn K mainGlobals "tuple" = some none) :
    ∃ fd : FuncData, (∀ (s : Shared) (v : Value), BindsTo s fd ⟨[v], []⟩ [("script", v)]) ∧ ∀ (P : Program) (w : World) (base : Heap), FnOk P w K mg base CX0 25 fa fd ["script"] (spA K F_law) := by
  have e := hfa.symm.trans (PySem.W.mg_of X Gn a20)
  cases e
  have F0 := fun_mk (st := s__law_source) l0 c0 k0
  have F1 := fun_mk (st := s__law_pick) l1 c1 k1
  have F2 := fun_mk (st := s__law_name) l2 c2 k2
  have F3 := fun_mk (st := s__law_names) l3 c3 k3
  have F4 := fun_mk (st := s__law_letter) l4 c4 k4
  have F5 := fun_mk (st := s__law_use) l5 c5 k5
  have F6 := fun_mk (st := s__law_step) l6 c6 k6
  have F7 := fun_mk (st := s__law_body) l7 c7 k7
  have F8 := fun_mk (st := s__law_book) l8 c8 k8
  have F9 := fun_mk (st := s__law_inner) l9 c9 k9
  have F10 := fun_mk (st := s__law_same) l10 c10 k10
  have F11 := fun_mk (st := s__print_call) l11 c11 k11
  have F12 := fun_mk (st := s_print_braces) l12 c12 k12
  have F13 := fun_mk (st := s_print_step) l13 c13 k13
  have F14 := fun_mk (st := s_print_body) l14 c14 k14
  have F15 := fun_mk (st := s_print_pact) l15 c15 k15
  have F16 := fun_mk (st := s_print_book) l16 c16 k16
  have F17 := fun_mk (st := s__law_step_text) l17 c17 k17
  have F18 := fun_mk (st := s__law_body_text) l18 c18 k18
  have F19 := fun_mk (st := s__law_pact_text) l19 c19 k19
  have F20 := fun_mk (st := s_law) l20 c20 k20
  let T : Txt K mg := { m_bool := PySem.W.mg_none_of X Gn z0, m_int := PySem.W.mg_none_of X Gn z1, m_isinstance := PySem.W.mg_none_of X Gn z2, m_len := PySem.W.mg_none_of X Gn z3, m_list := PySem.W.mg_none_of X Gn z4, m_min := PySem.W.mg_none_of X Gn z5, m_range := PySem.W.mg_none_of X Gn z6, m_str := PySem.W.mg_none_of X Gn z7, m_tuple := PySem.W.mg_none_of X Gn z8, f__law_source := f0, fd__law_source := _, g__law_source := PySem.W.mg_of X Gn a0, F__law_source := F0, b__law_source := F0.binds (ps := ["script"]) fun _ _ _ _ _ _ us hl => (match us, hl with | [_], _ => rfl), f__law_pick := f1, fd__law_pick := _, g__law_pick := PySem.W.mg_of X Gn a1, F__law_pick := F1, b__law_pick := F1.binds (ps := ["source", "many"]) fun _ _ _ _ _ _ us hl => (match us, hl with | [_, _], _ => rfl), f__law_name := f2, fd__law_name := _, g__law_name := PySem.W.mg_of X Gn a2, F__law_name := F2, b__law_name := F2.binds (ps := ["source", "taken"]) fun _ _ _ _ _ _ us hl => (match us, hl with | [_, _], _ => rfl), f__law_names := f3, fd__law_names := _, g__law_names := PySem.W.mg_of X Gn a3, F__law_names := F3, b__law_names := F3.binds (ps := ["source", "many", "taken"]) fun _ _ _ _ _ _ us hl => (match us, hl with | [_, _, _], _ => rfl), f__law_letter := f4, fd__law_letter := _, g__law_letter := PySem.W.mg_of X Gn a4, F__law_letter := F4, b__law_letter := F4.binds (ps := ["source", "world"]) fun _ _ _ _ _ _ us hl => (match us, hl with | [_, _], _ => rfl), f__law_use := f5, fd__law_use := _, g__law_use := PySem.W.mg_of X Gn a5, F__law_use := F5, b__law_use := F5.binds (ps := ["source", "world"]) fun _ _ _ _ _ _ us hl => (match us, hl with | [_, _], _ => rfl), f__law_step := f6, fd__law_step := _, g__law_step := PySem.W.mg_of X Gn a6, F__law_step := F6, b__law_step := F6.binds (ps := ["source", "world", "depth"]) fun _ _ _ _ _ _ us hl => (match us, hl with | [_, _, _], _ => rfl), f__law_body := f7, fd__law_body := _, g__law_body := PySem.W.mg_of X Gn a7, F__law_body := F7, b__law_body := F7.binds (ps := ["source", "world", "depth"]) fun _ _ _ _ _ _ us hl => (match us, hl with | [_, _, _], _ => rfl), f__law_book := f8, fd__law_book := _, g__law_book := PySem.W.mg_of X Gn a8, F__law_book := F8, b__law_book := F8.binds (ps := ["source", "most", "room"]) fun _ _ _ _ _ _ us hl => (match us, hl with | [_, _, _], _ => rfl), f__law_inner := f9, fd__law_inner := _, g__law_inner := PySem.W.mg_of X Gn a9, F__law_inner := F9, b__law_inner := F9.binds (ps := ["body"]) fun _ _ _ _ _ _ us hl => (match us, hl with | [_], _ => rfl), f__law_same := f10, fd__law_same := _, g__law_same := PySem.W.mg_of X Gn a10, F__law_same := F10, b__law_same := F10.binds (ps := ["actual", "due"]) fun _ _ _ _ _ _ us hl => (match us, hl with | [_, _], _ => rfl), f__print_call := f11, fd__print_call := _, g__print_call := PySem.W.mg_of X Gn a11, F__print_call := F11, b__print_call := F11.binds (ps := ["name", "parties"]) fun _ _ _ _ _ _ us hl => (match us, hl with | [_, _], _ => rfl), f_print_braces := f12, fd_print_braces := _, g_print_braces := PySem.W.mg_of X Gn a12, F_print_braces := F12, b_print_braces := F12.binds (ps := ["word", "texts"]) fun _ _ _ _ _ _ us hl => (match us, hl with | [_, _], _ => rfl), f_print_step := f13, fd_print_step := _, g_print_step := PySem.W.mg_of X Gn a13, F_print_step := F13, b_print_step := F13.binds (ps := ["step"]) fun _ _ _ _ _ _ us hl => (match us, hl with | [_], _ => rfl), f_print_body := f14, fd_print_body := _, g_print_body := PySem.W.mg_of X Gn a14, F_print_body := F14, b_print_body := F14.binds (ps := ["body"]) fun _ _ _ _ _ _ us hl => (match us, hl with | [_], _ => rfl), f_print_pact := f15, fd_print_pact := _, g_print_pact := PySem.W.mg_of X Gn a15, F_print_pact := F15, b_print_pact := F15.binds (ps := ["pact"]) fun _ _ _ _ _ _ us hl => (match us, hl with | [_], _ => rfl), f_print_book := f16, fd_print_book := _, g_print_book := PySem.W.mg_of X Gn a16, F_print_book := F16, b_print_book := F16.binds (ps := ["book"]) fun _ _ _ _ _ _ us hl => (match us, hl with | [_], _ => rfl), f__law_step_text := f17, fd__law_step_text := _, g__law_step_text := PySem.W.mg_of X Gn a17, F__law_step_text := F17, b__law_step_text := F17.binds (ps := ["step"]) fun _ _ _ _ _ _ us hl => (match us, hl with | [_], _ => rfl), f__law_body_text := f18, fd__law_body_text := _, g__law_body_text := PySem.W.mg_of X Gn a18, F__law_body_text := F18, b__law_body_text := F18.binds (ps := ["body"]) fun _ _ _ _ _ _ us hl => (match us, hl with | [_], _ => rfl), f__law_pact_text := f19, fd__law_pact_text := _, g__law_pact_text := PySem.W.mg_of X Gn a19, F__law_pact_text := F19, b__law_pact_text := F19.binds (ps := ["pact"]) fun _ _ _ _ _ _ us hl => (match us, hl with | [_], _ => rfl), f_law := fa, fd_law := _, g_law := PySem.W.mg_of X Gn a20, F_law := F20, b_law := F20.binds (ps := ["script"]) fun _ _ _ _ _ _ us hl => (match us, hl with | [_], _ => rfl) }
  exact ⟨_, fun s v => .of_eq rfl, fun P w base => all_ok T⟩
end

end K08
open PySem PySem.W PyProof.Rows
set_option maxHeartbeats 0 in
theorem PySem.Challenge.cw_pactloom_k08_printed_forms_holds : PySem.Challenge.rw_pactloom_k08_printed_forms.Holds := by
  w_on; o_law; k_head; (case hw => w_witness2)
  k_fill
  refine L2.walk_of (l := PySem.Challenge.rw_pactloom_k08_printed_forms) (n := 63) (k := 25) (x := "script") (CX := fun _ => L2.CX0) (sp := fun w => Ab.spA _ Ab.F_law) rfl (by decide) rfl ⟨rfl, by decide, by decide⟩ (fun w h Y => PySem.W.kIn_of Y) ?F (fun _ H a ns hl hO hS => Ab.law_start hl hS) (fun _ _ _ _ _ h => h)
  case F =>
    intro w mg fa h KX G hmg
    refine' Ab.fd_all (K08.all_mk KX G hmg ?a0 ?l0 ?c0 ?k0 ?a1 ?l1 ?c1 ?k1 ?a2 ?l2 ?c2 ?k2 ?a3 ?l3 ?c3 ?k3 ?a4 ?l4 ?c4 ?k4 ?a5 ?l5 ?c5 ?k5 ?a6 ?l6 ?c6 ?k6 ?a7 ?l7 ?c7 ?k7 ?a8 ?l8 ?c8 ?k8 ?a9 ?l9 ?c9 ?k9 ?a10 ?l10 ?c10 ?k10 ?a11 ?l11 ?c11 ?k11 ?a12 ?l12 ?c12 ?k12 ?a13 ?l13 ?c13 ?k13 ?a14 ?l14 ?c14 ?k14 ?a15 ?l15 ?c15 ?k15 ?a16 ?l16 ?c16 ?k16 ?a17 ?l17 ?c17 ?k17 ?a18 ?l18 ?c18 ?k18 ?a19 ?l19 ?c19 ?k19 ?a20 ?l20 ?c20 ?k20 ?z0 ?z1 ?z2 ?z3 ?z4 ?z5 ?z6 ?z7 ?z8)
    (case a0 => k_is)
    (case l0 => k_is)
    (case c0 => k_is)
    (case k0 => k_is)
    (case a1 => k_is)
    (case l1 => k_is)
    (case c1 => k_is)
    (case k1 => k_is)
    (case a2 => k_is)
    (case l2 => k_is)
    (case c2 => k_is)
    (case k2 => k_is)
    (case a3 => k_is)
    (case l3 => k_is)
    (case c3 => k_is)
    (case k3 => k_is)
    (case a4 => k_is)
    (case l4 => k_is)
    (case c4 => k_is)
    (case k4 => k_is)
    (case a5 => k_is)
    (case l5 => k_is)
    (case c5 => k_is)
    (case k5 => k_is)
    (case a6 => k_is)
    (case l6 => k_is)
    (case c6 => k_is)
    (case k6 => k_is)
    (case a7 => k_is)
    (case l7 => k_is)
    (case c7 => k_is)
    (case k7 => k_is)
    (case a8 => k_is)
    (case l8 => k_is)
    (case c8 => k_is)
    (case k8 => k_is)
    (case a9 => k_is)
    (case l9 => k_is)
    (case c9 => k_is)
    (case k9 => k_is)
    (case a10 => k_is)
    (case l10 => k_is)
    (case c10 => k_is)
    (case k10 => k_is)
    (case a11 => k_is)
    (case l11 => k_is)
    (case c11 => k_is)
    (case k11 => k_is)
    (case a12 => k_is)
    (case l12 => k_is)
    (case c12 => k_is)
    (case k12 => k_is)
    (case a13 => k_is)
    (case l13 => k_is)
    (case c13 => k_is)
    (case k13 => k_is)
    (case a14 => k_is)
    (case l14 => k_is)
    (case c14 => k_is)
    (case k14 => k_is)
    (case a15 => k_is)
    (case l15 => k_is)
    (case c15 => k_is)
    (case k15 => k_is)
    (case a16 => k_is)
    (case l16 => k_is)
    (case c16 => k_is)
    (case k16 => k_is)
    (case a17 => k_is)
    (case l17 => k_is)
    (case c17 => k_is)
    (case k17 => k_is)
    (case a18 => k_is)
    (case l18 => k_is)
    (case c18 => k_is)
    (case k18 => k_is)
    (case a19 => k_is)
    (case l19 => k_is)
    (case c19 => k_is)
    (case k19 => k_is)
    (case a20 => k_is)
    (case l20 => k_is)
    (case c20 => k_is)
    (case k20 => k_is)
    (case z0 => k_is)
    (case z1 => k_is)
    (case z2 => k_is)
    (case z3 => k_is)
    (case z4 => k_is)
    (case z5 => k_is)
    (case z6 => k_is)
    (case z7 => k_is)
    (case z8 => k_is)

